import Derived.Test.YtciihepbeacppaaGreatM06
import Derived.Test.YtciihepbeacppaaGreatM09
import Derived.Test.YtciihepbeacppaaGreatM01
namespace Go.Proofs.YtciihepbeacppaaGreat
open Go.RowKit
theorem Lst.sl {w : World} {v : Value} {sz n : Nat} {xs : List Value} (h : Lst w v sz n xs) : ∃ ao cap,v = .slice ao n cap ∧ n ≤ cap ∧ cap ≤ 9223372036854775807 ∧ n ≤ 40000:=by
 have h2:=h.2.1
 rcases h.2.2 with ⟨rfl,rfl⟩ | ⟨g,off,cap,rfl,h3,h4,_⟩
 ·exact ⟨_,_,rfl,by omega,by omega,by omega⟩
 ·exact ⟨_,_,rfl,h3,by unfold maxLen at h4; omega,h2⟩
theorem Lst.at {w : World} {v : Value} {l : List Int} (h : Lst w v 1 l.length (ints l)) {k : Nat} (hk : k < l.length) : ∃ g off cap,v = .slice (some ⟨g,off,none⟩) l.length cap ∧ l.length ≤ cap ∧ cap ≤ 9223372036854775807 ∧ ∀ j,j < l.length → w.cell? ⟨g,off + j,none⟩ = some (.int .i64 (l.getD j 0)):=by
 obtain ⟨g,off,cap,hv,h1,h2,hc⟩:=h.get (by omega)
 exact ⟨g,off,cap,hv,h1,by unfold maxLen at h2; omega,fun j hj=>hc j _ (ints_get hj)⟩
theorem Tryz.sizeInt : (Tryz.prog.info? 3).map (·.size) = some 1:=by kernel_rfl
set_option maxRecDepth 100000 in
set_option maxHeartbeats 1000000 in
theorem fresh_any {w : World} {v : Value} {l : List Int} (hF : Lst w v 1 l.length (ints l)) :
  Calls Tryz.prog 95 #[v] w fun e w'=>∃ g,e = .returned (.slice (some ⟨g,0,none⟩) l.length l.length) ∧ w'.ownsRow w.heap.size 3 1 (.slice (some ⟨g,0,none⟩) l.length l.length) l.length (ints l) ∧ Below w.heap.size w w':=by
 obtain ⟨i0,hi,hz0,hz1,hz2⟩:=info_parts Tryz.infoInt
 have HF:=hide hF
 obtain ⟨n,hn⟩ : ∃ n,n = l.length:=⟨_,rfl⟩
 obtain ⟨ao,cap,rfl,hnc,hm,hle⟩:=hF.sl
 rw [← hn] at hle hnc ⊢
 have HN:=hide hn
 clear hF hn
 go_enter Tryz.func95,Tryz.ntmps95
 go_wp2_with (at_make; refine wpList_make_full _ rfl _ _ 29 rfl w.heap.size 3 i0 (.int .i64 0) 1 Tryz.underlying29 hi hz0 hz1 .i64 .i64 _ _ n rfl rfl rfl rfl ?b2 ?b3 ?b4 ?_)
 case b2=>first | omega | (rw [hz2]; omega)
 case b3=>unfold maxLen; omega
 try (case b4=>simp)
 intro w1 hown1 hgrow1
 have hb1 : Below w.heap.size w w1:=(Below.refl _ _).grown hgrow1 (Nat.le_refl _) (fun k h=>by cases h)
 obtain ⟨hg1,hl1⟩:=own_heap hown1
 have HG1:=hide hg1
 have HL1:=hide hl1
 have HB1:=hide hb1
 have HC : Hid (0 < (ints l).length → (some ⟨w.heap.size,0,none⟩ : Option Addr) = some ⟨w.heap.size,0,none⟩ ∧ ∃ ad,ao = some ad ∧ ∀ j v,(ints l)[j]? = some v → w1.cell? (ad.add j) = some v):=hide (fun hp=>by
  refine ⟨rfl,?_⟩
  rw [ints_len] at hp
  obtain ⟨g,off,cap',hv,-,-,hc⟩:=(uh HF).get (by omega)
  simp only [Value.slice.injEq] at hv
  refine ⟨_,hv.1,fun j v hj=>?_⟩
  rw [addr_add,hb1.cell (World.block_lt_of_cell? w _ (hc j v hj))]; exact hc j v hj)
 clear hown1 hgrow1 hg1 hl1 hb1
 go_wp2_with (refine wpList_copy_splice rfl (.tmp 7) (.tmp 8) 29 29 rfl 3 Tryz.underlying29 Tryz.sizeInt (some ⟨w.heap.size,0,none⟩) ao n n n cap rfl rfl w.heap.size 0 _ 3 (uh HG1) (ints l) ?c1 (uh HC) ?c3 (ints_one l) w.heap.size w (uh HB1) (Nat.le_refl _) ?_)
 case c1=>rw [ints_len,← uh HN]
 case c3 =>
  have h1:=uh HL1
  simp only [Array.length_toList] at h1
  rw [ints_len,← uh HN]; omega
 intro w2 hg2 hb2
 have e2 : splice (madeCells #[Value.int .i64 0] n).toList 0 (ints l) = ints l:=by
  have h1:=uh HL1
  unfold splice
  rw [List.take_zero,List.nil_append,List.drop_eq_nil_of_le (by rw [h1,ints_len,← uh HN]; omega),List.append_nil]
 have HO2 : Hid (w2.ownsRow w.heap.size 3 1 (.slice (some ⟨w.heap.size,0,none⟩) n n) n (ints l)):=hide (heap_own (by have:=uh hg2; rwa [e2] at this) (by rw [ints_len,← uh HN]) (Nat.le_refl _) (by unfold maxLen; omega))
 have HB2:=hide hb2
 clear hg2 hb2 e2
 go_wp2_with fail
 go_ret
 exact ⟨_,rfl,uh HO2,uh HB2⟩
def avB (l : List Int) : Bool:=l.all (fun v=>decide (0 ≤ v) && decide (v ≤ 1048576))
theorem avB_take {l : List Int} {k : Nat} (hk : k < l.length) (_h : ∀ j,j < k → 0 ≤ l.getD j 0 ∧ l.getD j 0 ≤ 1048576) (h2 : ¬ (0 ≤ l.getD k 0 ∧ l.getD k 0 ≤ 1048576)) : avB l = false:=by
 unfold avB
 rw [List.all_eq_false]
 refine ⟨l[k],List.getElem_mem hk,?_⟩
 have e : l.getD k 0 = l[k]:=by simp [hk]
 rw [e] at h2
 simp only [Bool.and_eq_true,decide_eq_true_eq]
 exact h2
theorem avB_all {l : List Int} (h : ∀ j,j < l.length → 0 ≤ l.getD j 0 ∧ l.getD j 0 ≤ 1048576) : avB l = true:=by
 unfold avB
 rw [List.all_eq_true]
 intro x hx
 obtain ⟨k,hk,rfl⟩:=List.mem_iff_getElem.1 hx
 have:=h k hk
 have e : l.getD k 0 = l[k]:=by simp [hk]
 rw [e] at this
 simp [this]
set_option maxRecDepth 100000 in
set_option maxHeartbeats 1000000 in
theorem arev_any {w : World} {v : Value} {l : List Int} (hF : Lst w v 1 l.length (ints l)) :
  Calls Tryz.prog 93 #[v] w fun e w'=>e = .returned (.bool (avB l)) ∧ w' = w:=by
 have HF:=hide hF
 obtain ⟨ao,cap,rfl,hnc,hm,hle⟩:=hF.sl
 clear hF
 go_enter Tryz.func93,Tryz.ntmps93
 go_wp2_with fail
 go_loop [7] (fun i=>∃ k : Nat,k ≤ l.length ∧ i = .int .i64 k ∧ Hid (∀ j,j < k → 0 ≤ l.getD j 0 ∧ l.getD j 0 ≤ 1048576)) (fun i=>l.length - (intOf i).toNat)
 case atStart=>exact ⟨0,Nat.zero_le _,rfl,hide (fun _ h=>absurd h (by omega))⟩
 case round =>
  obtain ⟨k,hk,rfl,hall⟩:=hrel
  by_cases hlt : k < l.length
  ·obtain ⟨g,off,cap',hv,-,-,hc⟩:=(uh HF).at hlt
   cases hv
   have x:=hc k hlt
   obtain ⟨y,hy⟩ : ∃ y,y = l.getD k 0:=⟨_,rfl⟩
   rw [← hy] at x
   have HY:=hide hy
   clear hc hy
   by_cases h0 : y < 0
   ·have HR : Hid (avB l = false):=hide (avB_take hlt (uh hall) (by rw [← uh HY]; omega))
    go_wp2_with fail
    go_ret
    exact ⟨ret_bool (uh HR).symm,rfl⟩
   ·have hd0 : decide (y < 0) = false:=by simpa using h0
    by_cases h1 : 1048576 < y
    ·have HR : Hid (avB l = false):=hide (avB_take hlt (uh hall) (by rw [← uh HY]; omega))
     go_wp2_with fail
     go_ret
     exact ⟨ret_bool (uh HR).symm,rfl⟩
    ·have hd1 : decide (1048576 < y) = false:=by simpa using h1
     go_wp2_with fail
     go_round
     case rel=>exact ⟨k + 1,by omega,by go_num,hide (fun j hj=>by
      by_cases e : j = k
      ·rw [e,← uh HY]; omega
      ·exact uh hall j (by omega))⟩
     case measure=>simp [intOf]; omega
  ·have hd : decide ((k : Int) < (l.length : Int)) = false:=by simp; omega
   have HR : Hid (avB l = true):=hide (avB_all (fun j hj=>uh hall j (by omega)))
   go_wp2_with fail
   go_ret
   exact ⟨ret_bool (uh HR).symm,rfl⟩
def acR : Int → List Int → Bool
 | _,[]=>true
 | last,a :: r=>decide (last < a) && (match r with | []=>true | _ :: r'=>acR a r')
def acB2 (l : List Int) : Bool:=decide (l.length % 2 = 0) && avB l && acR 0 l
theorem acR_two (last a b : Int) (r : List Int) : acR last (a :: b :: r) = (decide (last < a) && acR a r):=rfl
set_option maxRecDepth 100000 in
set_option maxHeartbeats 1000000 in
theorem arec_any {w : World} {v : Value} {l : List Int} (hF : Lst w v 1 l.length (ints l)) :
  Calls Tryz.prog 94 #[v] w fun e w'=>e = .returned (.bool (acB2 l)) ∧ w' = w:=by
 have HV:=hide (arev_any hF)
 have HF:=hide hF
 obtain ⟨ao,cap,rfl,hnc,hm,hle⟩:=hF.sl
 clear hF
 by_cases hev : l.length % 2 = 0
 ·cases hav : avB l with
  | false =>
   have HR : Hid (acB2 l = false):=hide (by unfold acB2; rw [hav]; simp)
   rw [hav] at HV
   clear hav
   go_enter Tryz.func94,Tryz.ntmps94
   go_wp2_with fail
   refine (uh HV).mono ?_
   rintro e w2 ⟨rfl,rfl⟩
   go_wp2_with fail
   go_ret
   exact ⟨ret_bool (uh HR).symm,rfl⟩
  | true =>
   have HR : Hid (acB2 l = acR 0 l):=hide (by unfold acB2; rw [hav]; simp [hev])
   rw [hav] at HV
   clear hav
   go_enter Tryz.func94,Tryz.ntmps94
   go_wp2_with fail
   refine (uh HV).mono ?_
   rintro e w2 ⟨rfl,rfl⟩
   go_wp2_with fail
   go_loop [3,4] (fun la i=>∃ (k : Nat) (last : Int),2 * k ≤ l.length ∧ i = .int .i64 ((2 * k : Nat) : Int) ∧ la = .int .i64 last ∧ Hid (acR last (l.drop (2 * k)) = acR 0 l)) (fun _ i=>l.length - (intOf i).toNat)
   case atStart=>exact ⟨0,0,Nat.zero_le _,rfl,rfl,hide (by simp)⟩
   case round =>
    obtain ⟨k,last,hk,rfl,rfl,hE⟩:=hrel
    obtain ⟨q,hq⟩ : ∃ q,q = 2 * k:=⟨_,rfl⟩
    rw [← hq] at hk hE ⊢
    have hq2 : q % 2 = 0:=by omega
    have HQ:=hide hq
    clear hq
    by_cases hlt : q < l.length
    ·have hlt2 : q + 1 < l.length:=by omega
     obtain ⟨g,off,cap',hv,-,-,hc⟩:=(uh HF).at hlt
     cases hv
     have x:=hc q hlt
     have ed : l.drop q = l.getD q 0 :: l.getD (q + 1) 0 :: l.drop (q + 2):=by
      rw [List.drop_eq_getElem_cons hlt,List.drop_eq_getElem_cons hlt2]
      simp [hlt,hlt2]
     obtain ⟨y,hy⟩ : ∃ y,y = l.getD q 0:=⟨_,rfl⟩
     have hE2:=uh hE
     rw [ed,acR_two,← hy] at hE2
     rw [← hy] at x
     have HE2:=hide hE2
     clear hc hy hE2 ed hE
     by_cases hle2 : y ≤ last
     ·have HR2 : Hid (acR 0 l = false):=hide (by rw [← uh HE2]; simp; intro h; omega)
      go_wp2_with fail
      go_ret
      exact ⟨ret_bool (by rw [uh HR,uh HR2]),rfl⟩
     ·have hd : decide (y ≤ last) = false:=by simpa using hle2
      have HR2 : Hid (acR y (l.drop (q + 2)) = acR 0 l):=hide (by rw [← uh HE2]; simp; intro _; omega)
      go_wp2_with fail
      go_round
      case rel=>exact ⟨k + 1,y,by have:=uh HQ; omega,by rw [show 2 * (k + 1) = q + 2 by have:=uh HQ; omega]; go_num,rfl,by rw [show 2 * (k + 1) = q + 2 by have:=uh HQ; omega]; exact HR2⟩
      case measure=>simp [intOf]; omega
    ·have hd : decide ((q : Int) < (l.length : Int)) = false:=by simp; omega
     have HR2 : Hid (acR 0 l = true):=hide (by rw [← uh hE,List.drop_eq_nil_of_le (by omega)]; rfl)
     go_wp2_with fail
     go_ret
     exact ⟨ret_bool (by rw [uh HR,uh HR2]),rfl⟩
 ·have HR : Hid (acB2 l = false):=hide (by unfold acB2; simp [hev])
  have hod : l.length % 2 = 1:=by omega
  go_enter Tryz.func94,Tryz.ntmps94
  go_wp2_with fail
  go_ret
  exact ⟨ret_bool (uh HR).symm,rfl⟩
structure StV (B : Nat) (w : World) (m : MS) (g1 g2 : Nat) : Prop where
 r1 : w.ownsRow B 3 1 (.slice (some ⟨g1,0,none⟩) m.st.length m.st.length) m.st.length (ints m.st)
 r2 : w.ownsRow B 3 1 (.slice (some ⟨g2,0,none⟩) (2 * m.cs.length) (2 * m.cs.length)) (2 * m.cs.length) (ceC m.cs)
 ne : g1 ≠ g2
def stV (m : MS) (g1 g2 : Nat) : Value:=.agg #[.int .i64 (m.nd : Int),.int .i64 (m.wh : Int),.slice (some ⟨g1,0,none⟩) m.st.length m.st.length,.slice (some ⟨g2,0,none⟩) (2 * m.cs.length) (2 * m.cs.length)]
theorem StV.below {B : Nat} {w w' : World} {m : MS} {g1 g2 : Nat} (h : StV B w m g1 g2) (hb : Below w.heap.size w w') : StV B w' m g1 g2:=⟨own_bw h.r1 hb,own_bw h.r2 hb,h.ne⟩
section
variable {w w' : World} {R Q : Nat} {ws : List ByteArray} {s : PS} {al : List Atm} {m : MS} {vv pv nv sv cv : Value}
set_option maxRecDepth 100000 in
set_option maxHeartbeats 2000000 in
theorem mstate_any (h : Mc w R Q ws s al m vv pv nv sv cv) (hc : m.cs.length ≤ 100000) :
  Calls Tryz.prog 62 #[.pointer (some ⟨R,0,none⟩)] w fun e w'=>∃ g1 g2,e = .returned (stV m g1 g2) ∧ StV w.heap.size w' m g1 g2 ∧ Below w.heap.size w w':=by
 have hbx:=below_boxQ w (.cells #[Value.int .i64 0,.int .i64 0,.slice none 0 0,.slice none 0 0] 68)
 have h0:=h.below hbx
 have e3:=h0.c3
 have HF:=hide (fresh_any (Lst.of_own h0.st (by have:=h0.ls; omega)))
 have H0:=hide h0
 have HBX:=hide hbx
 have HBk:=hide (Bk.new w 68 [Value.int .i64 0,.int .i64 0,.slice none 0 0,.slice none 0 0])
 clear h hbx h0
 go_enter Tryz.func62,Tryz.ntmps62
 go_wp2_with fail
 refine (uh HF).mono ?_
 rintro e w1 ⟨g1,rfl,hr1,hb1⟩
 have hb1':=(uh HBX).trans (hb1.mono (uh HBX).size)
 have h1:=(uh H0).below hb1
 have HR1:=hide (own_le hr1 (uh HBX).size)
 have hg1:=hr1.lt g1 rfl
 have HN:=hide (cnumbers_any h1.c4 h1.cs hc)
 have HB1:=hide hb1'
 have H1:=hide h1
 have HBk1:=hide ((uh HBk).below hb1)
 have HG1:=hide hg1
 clear hr1 hb1 hb1' h1 hg1 e3
 go_wp2_with fail
 refine (uh HN).mono ?_
 rintro e w2 ⟨g2,rfl,hr2,hb2⟩
 have hb2':=(uh HB1).trans (hb2.mono (uh HB1).size)
 have h2:=(uh H1).below hb2
 have HV : Hid (StV w.heap.size w2 m g1 g2):=hide ⟨own_bw (uh HR1) hb2,own_le hr2 (uh HB1).size,by have h1:=uh HG1; have h2:=(hr2.lt g2 rfl).1; omega⟩
 have hBk2:=(uh HBk1).below hb2
 have z0:=hBk2.cell 0 rfl
 have z1:=hBk2.cell 1 rfl
 have z2:=hBk2.cell 2 rfl
 have z3:=hBk2.cell 3 rfl
 have zf:=hBk2.frz
 have e1:=h2.c1
 have e2:=h2.c2
 have HB2:=hide hb2'
 have HBk2:=hide hBk2
 have HG2 : Hid (w.heap.size < g1 ∧ w.heap.size < g2):=hide (by have h1:=uh HG1; have h2:=(hr2.lt g2 rfl).1; simp at h1; omega)
 clear hr2 hb2 hb2' h2 hBk2
 go_wp2_with fail
 go_region
 all_goals
  go_wp2_with fail
  obtain ⟨w4,hw4⟩ : ∃ w4,w4 = ((((w2.setCell ⟨w.heap.size,0,none⟩ (.int .i64 (m.nd : Int))).setCell ⟨w.heap.size,1,none⟩ (.int .i64 (m.wh : Int))).setCell ⟨w.heap.size,2,none⟩ (.slice (some ⟨g1,0,none⟩) m.st.length m.st.length)).setCell ⟨w.heap.size,3,none⟩ (.slice (some ⟨g2,0,none⟩) (2 * m.cs.length) (2 * m.cs.length))).drew:=⟨_,rfl⟩
  rw [← hw4]
  have hBk4 : Bk w4 w.heap.size 68 [.int .i64 (m.nd : Int),.int .i64 (m.wh : Int),.slice (some ⟨g1,0,none⟩) m.st.length m.st.length,.slice (some ⟨g2,0,none⟩) (2 * m.cs.length) (2 * m.cs.length)]:=by
   rw [hw4]; exact ((((uh HBk2).set 0 _).set 1 _).set 2 _).set 3 _
  have y0:=hBk4.cell 0 rfl
  have y1:=hBk4.cell 1 rfl
  have y2:=hBk4.cell 2 rfl
  have y3:=hBk4.cell 3 rfl
  have hS : Stp [w.heap.size] w2 [w.heap.size] w4:=by
   rw [hw4]
   exact (((((Stp.refl _ _).setCell (p:=⟨w.heap.size,0,none⟩) (Or.inl (by simp)) _).setCell (p:=⟨w.heap.size,1,none⟩) (Or.inl (by simp)) _).setCell (p:=⟨w.heap.size,2,none⟩) (Or.inl (by simp)) _).setCell (p:=⟨w.heap.size,3,none⟩) (Or.inl (by simp)) _).drew
  clear hw4
  refine bodyPost_ret (v:=stV m g1 g2) ?_ rfl ⟨g1,g2,rfl,?_,?_⟩
  ·simp [results,Tryz.results62,go_sem,stV,y0,y1,y2,y3]
  ·have hg:=uh HG2
   exact ⟨own_stp (uh HV).r1 hS (fun k hk=>by cases hk; simp; omega),own_stp (uh HV).r2 hS (fun k hk=>by cases hk; simp; omega),(uh HV).ne⟩
  ·exact (uh HB2).trans (hS.below (uh HB2).size (by simp))
end
structure Pr where
 k : Nat
 l : Nat
 r : Nat
structure CF where
 cl : List Nat
 ap : List Pr
 ow : List Pr
def tNo (k i : Nat) : Nat:=if k = 1 then 1 + i else if k = 2 then 5 + i else 0
def mrg1 (c : List Nat) (a : Atm) : List Nat:=if a.k = 1 then c.map (fun x=>if x = c.getD (tNo a.rk a.ri) 0 then c.getD (tNo a.lk a.li) 0 else x) else c
def mrg (al : List Atm) : List Nat:=al.foldl mrg1 (List.range 13)
def prOf (c : List Nat) (a : Atm) : Pr:=⟨a.k,c.getD (tNo a.lk a.li) 0,c.getD (tNo a.rk a.ri) 0⟩
def cfOf (al : List Atm) : CF:=⟨(mrg al).take 5,(al.filter (fun a=>a.k == 2)).map (prOf (mrg al)),(al.filter (fun a=>a.k == 3 || a.k == 4)).map (prOf (mrg al))⟩
theorem set_getD {α : Type} (l : List α) (i : Nat) (d : α) : l.set i (l.getD i d) = l:=by
 apply List.ext_getElem?
 intro n
 by_cases hn : i = n
 ·subst hn
  by_cases h : i < l.length
  ·simp [h]
  ·simp [h]
 ·simp [hn]
def Rm (T : CF) : Prop:=∀ p ∈ T.ow,p.l < 24 ∧ p.r < 24
def oBad (ns : List ByteArray) (vs : List Int) (a : RAt) : Bool:=match evA ns vs a.a,evA ns vs a.b with | some x,some y=>(x == y) != eqW a.k eqSW | _,_=>false
def oNm (ns : List ByteArray) (vs : List Int) (cur : ByteArray) (a : RAt) : ByteArray:=if (evA ns vs a.b).isSome = false then a.b else if (evA ns vs a.a).isSome = false then a.a else cur
def oN (ns : List ByteArray) (vs : List Int) (l : List RAt) : ByteArray:=l.foldl (oNm ns vs) em
def mst (vs : List Int) : Int:=vs.foldl (fun m v=>if m < v then v else m) 0
def unv (ns : List ByteArray) (vs : List Int) (l : List RAt) : Nat:=(l.map (fun a=>(if (evA ns vs a.a).isSome then 0 else 1) + (if (evA ns vs a.b).isSome then 0 else 1))).sum
def oth (l : List RAt) : Nat → List ByteArray → List Int → Bool
 | 0,_,_=>false
 | f + 1,ns,vs=>if l.any (oBad ns vs) then false else if eqW (oN ns vs l) em then true else
  vs.any (fun v=>oth l f (ns ++ [oN ns vs l]) (vs ++ [v])) || oth l f (ns ++ [oN ns vs l]) (vs ++ [0]) || oth l f (ns ++ [oN ns vs l]) (vs ++ [mst vs + 1])
theorem ra_get {l : List RAt} {k : Nat} (h : k < l.length) : (raCells l)[k * 3]? = some (.string l[k].k) ∧ (raCells l)[k * 3 + 1]? = some (.string l[k].a) ∧ (raCells l)[k * 3 + 2]? = some (.string l[k].b):=by
 induction l generalizing k with
 | nil=>simp at h
 | cons x l ih =>
  have hx : raCells (x :: l) = [Value.string x.k,.string x.a,.string x.b] ++ raCells l:=rfl
  cases k with
  | zero=>rw [hx]; simp
  | succ k =>
   have:=ih (k:=k) (by simpa using h)
   rw [hx,show (k + 1) * 3 = k * 3 + 3 by omega]
   simp only [List.getElem_cons_succ]
   refine ⟨?_,?_,?_⟩
   ·rw [List.getElem?_append_right (by simp)]; simpa using this.1
   ·rw [List.getElem?_append_right (by simp)]; simpa [show k * 3 + 3 + 1 - 3 = k * 3 + 1 by omega] using this.2.1
   ·rw [List.getElem?_append_right (by simp)]; simpa [show k * 3 + 3 + 2 - 3 = k * 3 + 2 by omega] using this.2.2
theorem oN_step {ns : List ByteArray} {vs : List Int} {l : List RAt} {k : Nat} (h : k < l.length) : oN ns vs (l.take (k + 1)) = oNm ns vs (oN ns vs (l.take k)) l[k]:=by
 unfold oN; rw [List.take_succ_eq_append_getElem h,List.foldl_append]; rfl
theorem bad_step {ns : List ByteArray} {vs : List Int} {l : List RAt} {k : Nat} (h : k < l.length) (hb : (l.take k).any (oBad ns vs) = false) (h1 : oBad ns vs l[k] = false) : (l.take (k + 1)).any (oBad ns vs) = false:=by
 rw [List.take_succ_eq_append_getElem h,List.any_append,hb]; simp [h1]
theorem bad_here {ns : List ByteArray} {vs : List Int} {l : List RAt} {k f : Nat} (h : k < l.length) (h1 : oBad ns vs l[k] = true) : oth l (f + 1) ns vs = false:=by
 have : l.any (oBad ns vs) = true:=List.any_eq_true.2 ⟨l[k],List.getElem_mem h,h1⟩
 simp only [oth,this,if_true]
theorem fnd_app (ns : List ByteArray) (n m : ByteArray) : (fndL ns m < ns.length → fndL (ns ++ [n]) m = fndL ns m) ∧ (¬ fndL ns m < ns.length → fndL (ns ++ [n]) m = if eqW n m = true then ns.length else ns.length + 1):=by
 induction ns with
 | nil=>exact ⟨fun h=>absurd h (by simp),fun _=>rfl⟩
 | cons x r ih =>
  have e1 : fndL (x :: r ++ [n]) m = if eqW x m = true then 0 else fndL (r ++ [n]) m + 1:=rfl
  have e2 : fndL (x :: r) m = if eqW x m = true then 0 else fndL r m + 1:=rfl
  rw [e1,e2]
  by_cases h : eqW x m = true
  ·rw [if_pos h,if_pos h]; exact ⟨fun _=>rfl,fun h=>absurd (by simp) h⟩
  ·rw [if_neg h,if_neg h]
   simp only [List.length_cons]
   refine ⟨fun h2=>by rw [ih.1 (by omega)],fun h2=>?_⟩
   rw [ih.2 (by omega)]
   by_cases h3 : eqW n m = true
   ·rw [if_pos h3,if_pos h3]
   ·rw [if_neg h3,if_neg h3]
theorem evA_app {ns : List ByteArray} {vs : List Int} (hl : ns.length = vs.length) (n m : ByteArray) (v : Int) : evA (ns ++ [n]) (vs ++ [v]) m = if (evA ns vs m).isSome = true then evA ns vs m else if eqW n m = true then some v else none:=by
 by_cases h0 : eqW m nilW = true
 ·have e : ∀ ns vs,evA ns vs m = some 0:=fun ns vs=>by unfold evA; rw [if_pos h0]
  rw [e,e]; rfl
 ·by_cases h1 : fndL ns m < ns.length
  ·have e1 : evA ns vs m = some (vs.getD (fndL ns m) 0):=by unfold evA; rw [if_neg h0,if_pos h1]
   have e2 : evA (ns ++ [n]) (vs ++ [v]) m = some ((vs ++ [v]).getD (fndL ns m) 0):=by
    unfold evA; rw [if_neg h0,(fnd_app ns n m).1 h1,if_pos (by simp; omega)]
   rw [e1,e2,if_pos (by simp)]
   congr 1
   simp only [List.getD_eq_getElem?_getD]
   rw [List.getElem?_append_left (by omega)]
  ·have e1 : evA ns vs m = none:=by unfold evA; rw [if_neg h0,if_neg h1]
   rw [e1,if_neg (by simp)]
   unfold evA
   rw [if_neg h0,(fnd_app ns n m).2 h1]
   by_cases h2 : eqW n m = true
   ·rw [if_pos h2,if_pos h2,if_pos (by simp)]
    congr 1
    simp only [List.getD_eq_getElem?_getD]
    rw [List.getElem?_append_right (by omega),hl]; simp
   ·rw [if_neg h2,if_neg h2,if_neg (by simp)]
theorem oNm_cases (ns : List ByteArray) (vs : List Int) (cur : ByteArray) (a : RAt) : oNm ns vs cur a = cur ∨ ((evA ns vs a.a).isSome = false ∧ oNm ns vs cur a = a.a) ∨ ((evA ns vs a.b).isSome = false ∧ oNm ns vs cur a = a.b):=by
 unfold oNm
 by_cases h : (evA ns vs a.b).isSome = false
 ·rw [if_pos h]; exact Or.inr (Or.inr ⟨h,rfl⟩)
 ·rw [if_neg h]
  by_cases h2 : (evA ns vs a.a).isSome = false
  ·rw [if_pos h2]; exact Or.inr (Or.inl ⟨h2,rfl⟩)
  ·rw [if_neg h2]; exact Or.inl rfl
theorem oN_in (ns : List ByteArray) (vs : List Int) : ∀ (l : List RAt) (cur : ByteArray),l.foldl (oNm ns vs) cur = cur ∨ ∃ a ∈ l,((evA ns vs a.a).isSome = false ∧ l.foldl (oNm ns vs) cur = a.a) ∨ ((evA ns vs a.b).isSome = false ∧ l.foldl (oNm ns vs) cur = a.b):=by
 intro l
 induction l with
 | nil=>intro cur; exact Or.inl rfl
 | cons a l ih =>
  intro cur
  simp only [List.foldl_cons]
  rcases ih (oNm ns vs cur a) with h | ⟨b,hb,h⟩
  ·rcases oNm_cases ns vs cur a with h2 | h2 | h2
   ·exact Or.inl (h.trans h2)
   ·exact Or.inr ⟨a,by simp,Or.inl ⟨h2.1,h.trans h2.2⟩⟩
   ·exact Or.inr ⟨a,by simp,Or.inr ⟨h2.1,h.trans h2.2⟩⟩
  ·exact Or.inr ⟨b,by simp [hb],h⟩
theorem unv_at {ns ns' : List ByteArray} {vs vs' : List Int} {l : List RAt} (hle : ∀ m,(if (evA ns' vs' m).isSome = true then 0 else 1) ≤ (if (evA ns vs m).isSome = true then 0 else 1)) {a : RAt} (ha : a ∈ l)
  (h : ((evA ns vs a.a).isSome = false ∧ (evA ns' vs' a.a).isSome = true) ∨ ((evA ns vs a.b).isSome = false ∧ (evA ns' vs' a.b).isSome = true)) : unv ns' vs' l < unv ns vs l:=by
 have hall : ∀ l : List RAt,unv ns' vs' l ≤ unv ns vs l:=by
  intro l
  unfold unv
  induction l with
  | nil=>exact Nat.le_refl _
  | cons b l ih=>simp only [List.map_cons,List.sum_cons]; have:=hle b.a; have:=hle b.b; omega
 induction l with
 | nil=>cases ha
 | cons b l ih =>
  have h1:=hle b.a
  have h2:=hle b.b
  have h3:=hall l
  have e1 : unv ns' vs' (b :: l) = ((if (evA ns' vs' b.a).isSome = true then 0 else 1) + (if (evA ns' vs' b.b).isSome = true then 0 else 1)) + unv ns' vs' l:=by simp [unv]
  have e2 : unv ns vs (b :: l) = ((if (evA ns vs b.a).isSome = true then 0 else 1) + (if (evA ns vs b.b).isSome = true then 0 else 1)) + unv ns vs l:=by simp [unv]
  rw [e1,e2]
  rcases List.mem_cons.1 ha with rfl | hm
  ·rcases h with ⟨ha1,ha2⟩ | ⟨ha1,ha2⟩
   ·rw [ha1,ha2] at h1 ⊢; simp at h1 ⊢; omega
   ·rw [ha1,ha2] at h2 ⊢; simp at h2 ⊢; omega
  ·have:=ih hm; omega
theorem unv_dec {ns : List ByteArray} {vs : List Int} (hl : ns.length = vs.length) {l : List RAt} (hn : eqW (oN ns vs l) em = false) (v : Int) : unv (ns ++ [oN ns vs l]) (vs ++ [v]) l < unv ns vs l:=by
 have hle : ∀ m,(if (evA (ns ++ [oN ns vs l]) (vs ++ [v]) m).isSome = true then 0 else 1) ≤ (if (evA ns vs m).isSome = true then 0 else 1):=by
  intro m
  rw [evA_app hl]
  by_cases h : (evA ns vs m).isSome = true
  ·simp [h]
  ·simp only [if_neg h]; split <;> simp
 have hself : ∀ m,(evA ns vs m).isSome = false → oN ns vs l = m → (evA (ns ++ [oN ns vs l]) (vs ++ [v]) m).isSome = true:=by
  intro m hm e
  rw [evA_app hl,if_neg (by simp [hm]),e,if_pos (by simp [eqW])]; rfl
 rcases oN_in ns vs l em with h | ⟨a,ha,(⟨h1,h2⟩ | ⟨h1,h2⟩)⟩
 ·exfalso
  unfold oN at hn; rw [h] at hn; simp [eqW] at hn
 ·exact unv_at hle ha (Or.inl ⟨h1,hself _ h1 h2⟩)
 ·exact unv_at hle ha (Or.inr ⟨h1,hself _ h1 h2⟩)
theorem mst_step {vs : List Int} {k : Nat} (h : k < vs.length) : mst (vs.take (k + 1)) = if mst (vs.take k) < vs[k] then vs[k] else mst (vs.take k):=by
 unfold mst; rw [List.take_succ_eq_append_getElem h,List.foldl_append]; rfl
theorem mst_le {vs : List Int} {b : Int} (h0 : 0 ≤ b) (h : ∀ v ∈ vs,v ≤ b) : mst vs ≤ b ∧ 0 ≤ mst vs:=by
 unfold mst
 have : ∀ (l : List Int) (m : Int),0 ≤ m → m ≤ b → (∀ v ∈ l,v ≤ b) → l.foldl (fun m v=>if m < v then v else m) m ≤ b ∧ 0 ≤ l.foldl (fun m v=>if m < v then v else m) m:=by
  intro l
  induction l with
  | nil=>intro m h1 h2 _; exact ⟨h2,h1⟩
  | cons x l ih =>
   intro m h1 h2 h3
   simp only [List.foldl_cons]
   have hx:=h3 x (by simp)
   split
   ·exact ih _ (by omega) hx (fun v hv=>h3 v (by simp [hv]))
   ·exact ih _ h1 h2 (fun v hv=>h3 v (by simp [hv]))
 exact this vs 0 (by omega) h0 h
theorem eqW_iffH {x k : ByteArray} : eqW x k = true ↔ x = k:=by
 constructor
 ·intro h
  have h1 : x.toList = k.toList:=by simpa [eqW] using h
  rw [ByteArray.toList_eq,ByteArray.toList_eq] at h1
  obtain ⟨⟨a⟩⟩:=x
  obtain ⟨⟨b⟩⟩:=k
  simp only at h1
  rw [h1]
 ·rintro rfl; simp [eqW]
def Agr (s : ByteArray → Int) (ns : List ByteArray) (vs : List Int) : Prop:=∀ n v,evA ns vs n = some v → s n = v
def Pur (s : ByteArray → Int) (l : List RAt) : Prop:=∀ a ∈ l,(s a.a = s a.b ↔ eqW a.k eqSW = true)
def NmOK (l : List RAt) : Prop:=∀ a ∈ l,a.a ≠ em ∧ a.b ≠ em
theorem oN_em {ns : List ByteArray} {vs : List Int} {l : List RAt} (hn : NmOK l) (h : eqW (oN ns vs l) em = true) : ∀ a ∈ l,(evA ns vs a.a).isSome = true ∧ (evA ns vs a.b).isSome = true:=by
 have key : ∀ (l : List RAt) (cur : ByteArray),NmOK l → l.foldl (oNm ns vs) cur = em → cur = em ∧ ∀ a ∈ l,(evA ns vs a.a).isSome = true ∧ (evA ns vs a.b).isSome = true:=by
  intro l
  induction l with
  | nil=>intro cur _ h; exact ⟨h,fun a ha=>by cases ha⟩
  | cons a l ih =>
   intro cur hn h
   have hl : NmOK l:=fun b hb=>hn b (by simp [hb])
   obtain ⟨h1,h2⟩:=ih (oNm ns vs cur a) hl h
   have ha:=hn a (by simp)
   unfold oNm at h1
   by_cases hb : (evA ns vs a.b).isSome = false
   ·rw [if_pos hb] at h1; exact absurd h1 ha.2
   ·rw [if_neg hb] at h1
    by_cases hc : (evA ns vs a.a).isSome = false
    ·rw [if_pos hc] at h1; exact absurd h1 ha.1
    ·rw [if_neg hc] at h1
     refine ⟨h1,fun b hb2=>?_⟩
     rcases List.mem_cons.1 hb2 with rfl | hb2
     ·exact ⟨by cases h : (evA ns vs b.a).isSome with
       | true=>rfl
       | false=>exact absurd h hc,by cases h : (evA ns vs b.b).isSome with
       | true=>rfl
       | false=>exact absurd h hb⟩
     ·exact h2 b hb2
 exact (key l em hn (eqW_iffH.1 h)).2
theorem bad_sound {ns : List ByteArray} {vs : List Int} {l : List RAt} {s : ByteArray → Int} (ha : Agr s ns vs) (hp : Pur s l) : l.any (oBad ns vs) = false:=by
 rw [List.any_eq_false]
 intro a hal
 unfold oBad
 cases h1 : evA ns vs a.a with
 | none=>simp
 | some x =>
  cases h2 : evA ns vs a.b with
  | none=>simp
  | some y =>
   have e1:=ha _ _ h1
   have e2:=ha _ _ h2
   have h3:=hp a hal
   rw [e1,e2] at h3
   by_cases hxy : x = y
   ·have h4:=h3.1 hxy
    simp [hxy,h4]
   ·have h4 : eqW a.k eqSW = false:=by
     cases hk : eqW a.k eqSW with
     | false=>rfl
     | true=>exact absurd (h3.2 hk) hxy
    simp [hxy,h4]
theorem agr_app {ns : List ByteArray} {vs : List Int} (hl : ns.length = vs.length) {s : ByteArray → Int} (ha : Agr s ns vs) {n : ByteArray} {v : Int} (hv : s n = v) : Agr s (ns ++ [n]) (vs ++ [v]):=by
 intro m x hm
 rw [evA_app hl] at hm
 by_cases h : (evA ns vs m).isSome = true
 ·rw [if_pos h] at hm; exact ha m x hm
 ·rw [if_neg h] at hm
  by_cases h2 : eqW n m = true
  ·rw [if_pos h2] at hm; cases hm; rw [← eqW_iffH.1 h2]; exact hv
  ·rw [if_neg h2] at hm; cases hm
theorem agr_of_app {ns : List ByteArray} {vs : List Int} (hl : ns.length = vs.length) {s : ByteArray → Int} {n : ByteArray} {v : Int} (ha : Agr s (ns ++ [n]) (vs ++ [v])) : Agr s ns vs:=by
 intro m x hm
 apply ha
 rw [evA_app hl,hm]
 rfl
theorem mem_evA {ns : List ByteArray} {vs : List Int} (hl : ns.length = vs.length) {n : ByteArray} {v : Int} (h : evA ns vs n = some v) : v = 0 ∨ v ∈ vs:=by
 unfold evA at h
 by_cases h0 : eqW n nilW = true
 ·rw [if_pos h0] at h; cases h; exact Or.inl rfl
 ·rw [if_neg h0] at h
  by_cases h1 : fndL ns n < ns.length
  ·rw [if_pos h1] at h
   cases h
   right
   have h2 : fndL ns n < vs.length:=by omega
   simp only [List.getD_eq_getElem?_getD,List.getElem?_eq_getElem h2,Option.getD_some]
   exact List.getElem_mem h2
  ·rw [if_neg h1] at h; cases h
theorem mst_ge {vs : List Int} : 0 ≤ mst vs ∧ ∀ v ∈ vs,v ≤ mst vs:=by
 unfold mst
 have : ∀ (l : List Int) (m : Int),m ≤ l.foldl (fun m v=>if m < v then v else m) m ∧ ∀ v ∈ l,v ≤ l.foldl (fun m v=>if m < v then v else m) m:=by
  intro l
  induction l with
  | nil=>intro m; exact ⟨Int.le_refl _,fun v hv=>by cases hv⟩
  | cons x l ih =>
   intro m
   simp only [List.foldl_cons]
   obtain ⟨h1,h2⟩:=ih (if m < x then x else m)
   have h3 : m ≤ (if m < x then x else m):=by split <;> omega
   have h4 : x ≤ (if m < x then x else m):=by split <;> omega
   refine ⟨by omega,fun v hv=>?_⟩
   rcases List.mem_cons.1 hv with rfl | hv
   ·omega
   ·exact h2 v hv
 exact ⟨(this vs 0).1,(this vs 0).2⟩
def swp (p q x : Int) : Int:=if x = p then q else if x = q then p else x
theorem swp_inj {p q x y : Int} : swp p q x = swp p q y ↔ x = y:=by
 unfold swp
 constructor
 ·intro h
  split at h <;> split at h <;> (try split at h) <;> (try split at h) <;> omega
 ·rintro rfl; rfl
theorem oth_iff {l : List RAt} (hn : NmOK l) : ∀ (f : Nat) (ns : List ByteArray) (vs : List Int),ns.length = vs.length → unv ns vs l ≤ f → (oth l (f + 1) ns vs = true ↔ ∃ s,Agr s ns vs ∧ Pur s l):=by
 intro f
 induction f with
 | zero =>
  intro ns vs hl hu
  have hem : eqW (oN ns vs l) em = true:=by
   cases he : eqW (oN ns vs l) em with
   | true=>rfl
   | false=>have:=unv_dec hl he 0; omega
  have hall:=oN_em hn hem
  rw [oth]
  constructor
  ·intro h
   have hb : l.any (oBad ns vs) = false:=by
    cases hb : l.any (oBad ns vs) with
    | false=>rfl
    | true=>rw [hb] at h; simp at h
   refine ⟨fun n=>(evA ns vs n).getD 0,fun n v h=>by simp [h],fun a ha=>?_⟩
   have h1:=List.any_eq_false.1 hb a ha
   obtain ⟨x,hx⟩:=Option.isSome_iff_exists.1 (hall a ha).1
   obtain ⟨y,hy⟩:=Option.isSome_iff_exists.1 (hall a ha).2
   unfold oBad at h1
   rw [hx,hy] at h1
   simp only [hx,hy,Option.getD_some]
   cases hk : eqW a.k eqSW <;> rw [hk] at h1 <;> simpa using h1
  ·rintro ⟨s,ha,hp⟩
   rw [bad_sound ha hp,hem]; simp
 | succ f ih =>
  intro ns vs hl hu
  rw [oth]
  cases hem : eqW (oN ns vs l) em with
  | true =>
   have hall:=oN_em hn hem
   constructor
   ·intro h
    have hb : l.any (oBad ns vs) = false:=by
     cases hb : l.any (oBad ns vs) with
     | false=>rfl
     | true=>rw [hb] at h; simp at h
    refine ⟨fun n=>(evA ns vs n).getD 0,fun n v h=>by simp [h],fun a ha=>?_⟩
    have h1:=List.any_eq_false.1 hb a ha
    obtain ⟨x,hx⟩:=Option.isSome_iff_exists.1 (hall a ha).1
    obtain ⟨y,hy⟩:=Option.isSome_iff_exists.1 (hall a ha).2
    unfold oBad at h1
    rw [hx,hy] at h1
    simp only [hx,hy,Option.getD_some]
    cases hk : eqW a.k eqSW <;> rw [hk] at h1 <;> simpa using h1
   ·rintro ⟨s,ha,hp⟩
    rw [bad_sound ha hp]; simp
  | false =>
   have hi : ∀ v,(oth l (f + 1) (ns ++ [oN ns vs l]) (vs ++ [v]) = true ↔ ∃ s,Agr s (ns ++ [oN ns vs l]) (vs ++ [v]) ∧ Pur s l):=fun v =>
    ih _ _ (by simp [hl]) (by have:=unv_dec hl hem v; omega)
   constructor
   ·intro h
    have h1 : ∃ v,oth l (f + 1) (ns ++ [oN ns vs l]) (vs ++ [v]) = true:=by
     cases hb : l.any (oBad ns vs) with
     | true=>rw [hb] at h; simp at h
     | false =>
      rw [hb] at h
      simp only [Bool.false_eq_true,if_false,Bool.or_eq_true,List.any_eq_true] at h
      rcases h with (⟨v,_,h⟩ | h) | h
      ·exact ⟨v,h⟩
      ·exact ⟨0,h⟩
      ·exact ⟨_,h⟩
    obtain ⟨v,hv⟩:=h1
    obtain ⟨s,ha,hp⟩:=(hi v).1 hv
    exact ⟨s,agr_of_app hl ha,hp⟩
   ·rintro ⟨s,ha,hp⟩
    rw [bad_sound ha hp]
    simp only [Bool.false_eq_true,if_false,Bool.or_eq_true,List.any_eq_true]
    by_cases h0 : s (oN ns vs l) = 0
    ·exact Or.inl (Or.inr ((hi 0).2 ⟨s,agr_app hl ha h0,hp⟩))
    ·by_cases hm : s (oN ns vs l) ∈ vs
     ·exact Or.inl (Or.inl ⟨_,hm,(hi _).2 ⟨s,agr_app hl ha rfl,hp⟩⟩)
     ·right
      have hg:=mst_ge (vs:=vs)
      refine (hi _).2 ⟨fun n=>swp (s (oN ns vs l)) (mst vs + 1) (s n),?_,fun a haa=>by rw [swp_inj]; exact hp a haa⟩
      refine agr_app hl (fun n v hv=>?_) (by unfold swp; rw [if_pos rfl])
      have h1:=ha n v hv
      have h2:=mem_evA hl hv
      have h3 : v ≠ s (oN ns vs l):=by
       rcases h2 with rfl | h2
       ·exact fun e=>h0 e.symm
       ·intro e; rw [e] at h2; exact hm h2
      have h4 : v ≠ mst vs + 1:=by
       rcases h2 with rfl | h2
       ·omega
       ·have:=hg.2 v h2; omega
      show swp _ _ (s n) = v
      rw [h1]
      unfold swp
      rw [if_neg h3,if_neg h4]
def wayM (ad nx : List Int) (C : List ByteArray → List Int → List Bool → Bool) (a : RAt) (ns : List ByteArray) (vs : List Int) : Nat → Int → List Bool → Bool
 | 0,_,_=>false
 | m + 1,v,fr =>
  if hCl ad fr v < ad.length then
   let ok:=match evA ns vs a.b with
    | none=>C (ns ++ [a.b]) (vs ++ [nx.getD (hCl ad fr v) 0]) (fr.set (hCl ad fr v) false)
    | some e=>(e == nx.getD (hCl ad fr v) 0) && C ns vs (fr.set (hCl ad fr v) false)
   ok || (!eqW a.k toW && wayM ad nx C a ns vs m (nx.getD (hCl ad fr v) 0) (fr.set (hCl ad fr v) false))
  else false
def BV (vs : List Int) : Prop:=∀ v ∈ vs,-100000000000 ≤ v ∧ v ≤ 100000000000
structure HIn (w : World) (X : Nat) (ad nx : List Int) (pl pu : List RAt) (ns : List ByteArray) (vs : List Int) (fr : List Bool) (rv pv nv vv fv : Value) : Prop where
 hp : HpA w X ad nx
 pl : Lst w rv 3 pl.length (raCells pl)
 pu : Lst w pv 3 pu.length (raCells pu)
 ns : Lst w nv 1 ns.length (ns.map Value.string)
 vs : Lst w vv 1 vs.length (ints vs)
 fr : Lst w fv 1 fr.length (bools fr)
structure HBd (ad nx : List Int) (pl pu : List RAt) (ns : List ByteArray) (vs : List Int) (fr : List Bool) : Prop where
 l1 : ns.length = vs.length
 l2 : fr.length = ad.length
 l3 : nx.length = ad.length
 l4 : ns.length + 2 * pl.length + 2 * pu.length < 16000
 bv : BV vs
 ba : BV ad
 bn : BV nx
def CelOK (X : Nat) (ad nx : List Int) (pu pl : List RAt) (C : List ByteArray → List Int → List Bool → Bool) : Prop :=
 ∀ (w : World) (rv pv nv vv fv : Value) (ns : List ByteArray) (vs : List Int) (fr : List Bool),HIn w X ad nx pl pu ns vs fr rv pv nv vv fv → HBd ad nx pl pu ns vs fr →
  Calls Tryz.prog 138 #[.pointer (some ⟨X,0,none⟩),rv,pv,.agg #[nv,vv],fv] w fun e w'=>e = .returned (.bool (C ns vs fr)) ∧ Below w.heap.size w w'
def WayOK (X : Nat) (ad nx : List Int) (pu pl : List RAt) (C : List ByteArray → List Int → List Bool → Bool) (m : Nat) : Prop :=
 ∀ (w : World) (rv pv nv vv fv : Value) (ns : List ByteArray) (vs : List Int) (fr : List Bool) (a : RAt) (v : Int),HIn w X ad nx pl pu ns vs fr rv pv nv vv fv → HBd ad nx pl pu (em :: ns) (0 :: vs) fr → fr.count true < m →
  Calls Tryz.prog 169 #[.pointer (some ⟨X,0,none⟩),.agg #[.string a.k,.string a.a,.string a.b],.int .i64 v,rv,pv,.agg #[nv,vv],fv] w fun e w'=>e = .returned (.bool (wayM ad nx C a ns vs m v fr)) ∧ Below w.heap.size w w'
theorem below_box2 (w : World) (a b : Obj) : Below w.heap.size w ((w.alloc a).alloc b):=((Below.refl _ _).alloc (Nat.le_refl _) a).alloc (by simp) b
theorem cells3H {w : World} {r : Nat} {a b c : Value} {T : TypeId} (h : w.heap[r]? = some (.cells #[a,b,c] T (0,0))) : w.cell? ⟨r,0,none⟩ = some a ∧ w.cell? ⟨r,1,none⟩ = some b ∧ w.cell? ⟨r,2,none⟩ = some c:=by
 refine ⟨?_,?_,?_⟩ <;> simp [World.cell?,h]
theorem count_set {fr : List Bool} {k : Nat} (hk : k < fr.length) (h : fr.getD k false = true) : (fr.set k false).count true < fr.count true:=by
 induction fr generalizing k with
 | nil=>simp at hk
 | cons x r ih =>
  cases k with
  | zero=>simp at h; subst h; simp
  | succ k =>
   have:=ih (k:=k) (by simpa using hk) (by simpa using h)
   simp only [List.set_cons_succ,List.count_cons]
   omega
theorem hCl_free {ad : List Int} {fr : List Bool} {a : Int} (h : hCl ad fr a < ad.length) : fr.getD (hCl ad fr a) false = true ∧ ad.getD (hCl ad fr a) 0 = a:=by
 unfold hCl at h ⊢
 cases hf : (List.range ad.length).find? (clP ad fr a) with
 | none=>rw [hf] at h; simp at h
 | some k =>
  have:=List.find?_some hf
  unfold clP at this
  simp only [Bool.and_eq_true,beq_iff_eq] at this
  exact this
theorem toW_lH : toW.toList = [45,62]:=ByteArray.toList_eq _
theorem HBd.tail {ad nx : List Int} {pl pu : List RAt} {ns : List ByteArray} {vs : List Int} {fr : List Bool} (h : HBd ad nx pl pu (em :: ns) (0 :: vs) fr) : HBd ad nx pl pu ns vs fr :=
 ⟨by have:=h.l1; simpa using this,h.l2,h.l3,by have:=h.l4; simp only [List.length_cons] at this; omega,fun v hv=>h.bv v (by simp [hv]),h.ba,h.bn⟩
theorem HBd.set {ad nx : List Int} {pl pu : List RAt} {ns : List ByteArray} {vs : List Int} {fr : List Bool} (h : HBd ad nx pl pu ns vs fr) (k : Nat) : HBd ad nx pl pu ns vs (fr.set k false) :=
 ⟨h.l1,by simpa using h.l2,h.l3,h.l4,h.bv,h.ba,h.bn⟩
theorem HBd.app {ad nx : List Int} {pl pu : List RAt} {ns : List ByteArray} {vs : List Int} {fr : List Bool} (h : HBd ad nx pl pu (em :: ns) (0 :: vs) fr) (n : ByteArray) {x : Int} (hx : -100000000000 ≤ x ∧ x ≤ 100000000000) : HBd ad nx pl pu (ns ++ [n]) (vs ++ [x]) fr :=
 ⟨by have:=h.l1; simp at this ⊢; omega,h.l2,h.l3,by have:=h.l4; simp only [List.length_cons,List.length_append,List.length_nil] at this ⊢; omega,fun v hv=>by
  simp only [List.mem_append,List.mem_singleton] at hv
  rcases hv with hv | rfl
  ·exact h.bv v (by simp [hv])
  ·exact hx,h.ba,h.bn⟩
theorem BV.get {l : List Int} (h : BV l) (k : Nat) : -100000000000 ≤ l.getD k 0 ∧ l.getD k 0 ≤ 100000000000:=by
 by_cases hk : k < l.length
 ·have:=h l[k] (List.getElem_mem hk); simpa [hk] using this
 ·simp [List.getD_eq_getElem?_getD,List.getElem?_eq_none (Nat.le_of_not_lt hk)]
structure WaI (w wr : World) (a : RAt) (nv vv : Value) : Prop where
 b0 : wr.heap[w.heap.size]? = some (.cells #[.string a.k,.string a.a,.string a.b] 139 (0,0))
 b1 : wr.heap[w.heap.size + 1]? = some (.cells #[nv,vv] 211 (0,0))
 bl : Below w.heap.size w wr
 sz : w.heap.size + 2 ≤ wr.heap.size
theorem WaI.start (w : World) (a : RAt) (nv vv : Value) : WaI w ((w.alloc (.cells #[.string a.k,.string a.a,.string a.b] 139)).alloc (.cells #[nv,vv] 211)) a nv vv:=by
 refine ⟨?_,?_,below_box2 _ _ _,by simp⟩
 ·rw [Below.heap_alloc _ _ _ (by simp)]; exact heap_alloc_new w _
 ·have:=heap_alloc_new (w.alloc (.cells #[.string a.k,.string a.a,.string a.b] 139)) (.cells #[nv,vv] 211)
  simpa using this
theorem WaI.below {w wr wr' : World} {a : RAt} {nv vv : Value} (h : WaI w wr a nv vv) (hb : Below wr.heap.size wr wr') : WaI w wr' a nv vv:=by
 have hs:=h.sz
 exact ⟨by rw [hb.block _ (by omega)]; exact h.b0,by rw [hb.block _ (by omega)]; exact h.b1,h.bl.trans (hb.mono (by omega)),by have:=hb.size; omega⟩
theorem cel_call {X : Nat} {ad nx : List Int} {pu pl : List RAt} {C : List ByteArray → List Int → List Bool → Bool} (HC : CelOK X ad nx pu pl C) {W : World} {B B' : Nat} {rv pv nv vv fv : Value} {an av : Option Addr} {cn cv : Nat} {ns : List ByteArray} {vs : List Int} {fr : List Bool} {n : ByteArray} {x : Int}
  (hI : HIn W X ad nx pl pu ns vs fr rv pv nv vv fv) (ho1 : W.ownsRow B 9 1 (.slice an (ns ++ [n]).length cn) (ns ++ [n]).length ((ns ++ [n]).map Value.string)) (ho2 : W.ownsRow B' 3 1 (.slice av (vs ++ [x]).length cv) (vs ++ [x]).length (ints (vs ++ [x])))
  (hB : HBd ad nx pl pu (em :: ns) (0 :: vs) fr) (hx : -100000000000 ≤ x ∧ x ≤ 100000000000) :
  Calls Tryz.prog 138 #[.pointer (some ⟨X,0,none⟩),rv,pv,.agg #[.slice an (ns.length + 1) cn,.slice av (vs.length + 1) cv],fv] W fun e w'=>e = .returned (.bool (C (ns ++ [n]) (vs ++ [x]) fr)) ∧ Below W.heap.size W w':=by
 have e1 : (ns ++ [n]).length = ns.length + 1:=by simp
 have e2 : (vs ++ [x]).length = vs.length + 1:=by simp
 have h1:=hB.l1
 have h4:=hB.l4
 simp only [List.length_cons] at h1 h4
 have:=HC W rv pv _ _ fv (ns ++ [n]) (vs ++ [x]) fr ⟨hI.hp,hI.pl,hI.pu,Lst.of_own ho1 (by omega),Lst.of_own ho2 (by omega),hI.fr⟩ (hB.app n hx)
 rwa [e1,e2] at this
theorem HIn.left {w W w1 : World} {X : Nat} {ad nx : List Int} {pl pu : List RAt} {ns : List ByteArray} {vs : List Int} {fr : List Bool} {rv pv nv vv fv lv : Value} {k : Nat} (h : HIn w X ad nx pl pu ns vs fr rv pv nv vv fv) (hb : Below w.heap.size w W) (hl : Lst w1 lv 1 fr.length (bools (fr.set k false))) (hb1 : Below w1.heap.size w1 W) : HIn W X ad nx pl pu ns vs (fr.set k false) rv pv nv vv lv :=
 ⟨h.hp.below hb,h.pl.below hb,h.pu.below hb,h.ns.below hb,h.vs.below hb,by rw [List.length_set]; exact hl.below hb1⟩
set_option maxRecDepth 100000 in
set_option maxHeartbeats 8000000 in
theorem way_step {X : Nat} {ad nx : List Int} {pu pl : List RAt} {C : List ByteArray → List Int → List Bool → Bool} (HC : CelOK X ad nx pu pl C) {m : Nat} (IH : WayOK X ad nx pu pl C m) : WayOK X ad nx pu pl C (m + 1):=by
 intro w rv pv nv vv fv ns vs fr a v hI hB hm
 have HCC:=hide HC
 have HIH:=hide IH
 have HI:=hide hI
 have HB:=hide hB
 have hal:=hI.hp.choose_spec.choose_spec.2.2.1.2.1
 obtain ⟨na,nc,rfl⟩:=hI.ns.slice
 obtain ⟨va,vc,rfl⟩:=hI.vs.slice
 obtain ⟨fa,fc,rfl⟩:=hI.fr.slice
 obtain ⟨ra,rc,rfl⟩:=hI.pl.slice
 obtain ⟨pa,pc,rfl⟩:=hI.pu.slice
 have HM:=hide hm
 clear HC IH hI hB hm
 by_cases hk : hCl ad fr v < ad.length
 ·obtain ⟨k,hkk⟩ : ∃ k,k = hCl ad fr v:=⟨_,rfl⟩
  have HCI : Hid (hClI ad fr v = (k : Int)):=hide (by unfold hClI; rw [if_pos hk,hkk])
  obtain ⟨t,ht⟩ : ∃ t,t = nx.getD k 0:=⟨_,rfl⟩
  have hkf : k < fr.length:=by have:=(uh HB).l2; omega
  have HWM : Hid (wayM ad nx C a ns vs (m + 1) v fr = ((match evA ns vs a.b with | none=>C (ns ++ [a.b]) (vs ++ [t]) (fr.set k false) | some e=>(e == t) && C ns vs (fr.set k false)) || (!eqW a.k toW && wayM ad nx C a ns vs m t (fr.set k false)))):=hide (by
   rw [wayM,if_pos hk,← hkk,← ht] <;> rfl)
  have HCT : Hid ((fr.set k false).count true < m):=hide (by have:=count_set hkf (by rw [hkk]; exact (hCl_free hk).1); have:=uh HM; omega)
  have HTB : Hid (-100000000000 ≤ t ∧ t ≤ 100000000000):=hide (by rw [ht]; exact (uh HB).bn.get k)
  have hkn : k < nx.length:=by have:=(uh HB).l3; omega
  have HT:=hide ht
  have hk0 : decide ((k : Int) < 0) = false:=by simp
  clear hkk ht hk
  go_enter Tryz.func169,Tryz.ntmps169
  go_wp2_with fail
  refine (hcell_any (fr:=fr) v ((uh HI).hp.below (below_box2 _ _ _)) ((uh HI).fr.below (below_box2 _ _ _)) (uh HB).l2).mono ?_
  rintro e w0 ⟨rfl,rfl⟩
  rw [uh HCI]
  go_wp2_with fail
  refine (without_any (fr:=fr) k hkf ((uh HI).fr.below (below_box2 _ _ _))).mono ?_
  rintro e w1 ⟨lv,rfl,hL1,hb1⟩
  have HW1:=hide ((WaI.start w a _ _).below hb1)
  obtain ⟨la,lc,hlv⟩:=hL1.slice
  subst hlv
  have HL1:=hide hL1
  obtain ⟨av,xv,-,c3,-,hX⟩:=(uh HI).hp.below (uh HW1).bl
  obtain ⟨g,off,cap,rfl,hnc,hmc,hcx⟩:=hX.get (by omega)
  have cx:=hcx k _ (ints_get hkn)
  rw [← uh HT] at cx
  obtain ⟨a0,a1,a2⟩:=cells3H (uh HW1).b0
  obtain ⟨e0,e1,-,-⟩:=cellsE2 (uh HW1).b1
  clear hL1 hb1 hX hcx
  go_wp2_with fail
  refine (hvalue_any a.b ((uh HI).ns.below (uh HW1).bl) ((uh HI).vs.below (uh HW1).bl) (uh HB).tail.l1).mono ?_
  rintro e w2 ⟨rfl,hb2⟩
  have HB2:=hide hb2
  have HW2:=hide ((uh HW1).below hb2)
  clear hb2 a0 a1 a2 e0 e1 cx c3
  obtain ⟨a0,a1,a2⟩:=cells3H (uh HW2).b0
  obtain ⟨e0,e1,-,-⟩:=cellsE2 (uh HW2).b1
  cases hev : evA ns vs a.b with
  | none =>
   have HWN : Hid (wayM ad nx C a ns vs (m + 1) v fr = (C (ns ++ [a.b]) (vs ++ [t]) (fr.set k false) || (!eqW a.k toW && wayM ad nx C a ns vs m t (fr.set k false)))):=hide (by rw [uh HWM,hev])
   clear hev
   have hl4:=(uh HB).l4
   have hl1:=(uh HB).l1
   simp only [List.length_cons] at hl4 hl1
   go_wp2_with fail
   refine (with_any a.b t ((uh HI).ns.below (uh HW2).bl) ((uh HI).vs.below (uh HW2).bl) (by omega) (by omega)).mono ?_
   rintro e w3 ⟨nv',vv',rfl,ho1,ho2,hb3⟩
   obtain ⟨an,cn,rfl⟩:=slice_of_own ho1
   obtain ⟨av2,cv2,rfl⟩:=slice_of_own ho2
   have HO1:=hide ho1
   have HO2:=hide ho2
   have hb3a : Below w2.heap.size w2 (w3.alloc (.cells #[.slice an (ns.length + 1) cn,.slice av2 (vs.length + 1) cv2] 211)):=hb3.alloc hb3.size _
   have HB3:=hide hb3a
   have HW3:=hide ((uh HW2).below hb3a)
   have HB13:=hide ((uh HB2).trans (hb3a.mono (uh HB2).size))
   clear ho1 ho2 hb3 hb3a a0 a1 a2 e0 e1 hl1
   go_wp2_with fail
   refine (cel_call (uh HCC) ((uh HI).left (uh HW3).bl (uh HL1) (uh HB13)) ((uh HO1).alloc _) ((uh HO2).alloc _) ((uh HB).set k) (uh HTB)).mono ?_
   rintro e w4 ⟨rfl,hb4⟩
   have HW4:=hide ((uh HW3).below hb4)
   have HB14:=hide ((uh HB13).trans (hb4.mono (uh HB13).size))
   clear hb4
   obtain ⟨a0,a1,a2⟩:=cells3H (uh HW4).b0
   obtain ⟨e0,e1,-,-⟩:=cellsE2 (uh HW4).b1
   cases hr : C (ns ++ [a.b]) (vs ++ [t]) (fr.set k false) with
   | true =>
    have HR : Hid (wayM ad nx C a ns vs (m + 1) v fr = true):=hide (by rw [uh HWN,hr]; rfl)
    clear hr
    go_wp2_with fail
    go_ret
    exact ⟨ret_bool (uh HR).symm,(uh HW4).bl⟩
   | false =>
    cases hkd : (a.k.toList == [45,62]) with
    | true =>
     have HR : Hid (wayM ad nx C a ns vs (m + 1) v fr = false):=hide (by rw [uh HWN,hr,show eqW a.k toW = true by unfold eqW; rw [toW_lH]; exact hkd]; rfl)
     clear hr
     go_wp2_with fail
     go_ret
     exact ⟨ret_bool (uh HR).symm,(uh HW4).bl⟩
    | false =>
     have HR : Hid (wayM ad nx C a ns vs (m + 1) v fr = wayM ad nx C a ns vs m t (fr.set k false)):=hide (by rw [uh HWN,hr,show eqW a.k toW = false by unfold eqW; rw [toW_lH]; exact hkd]; rfl)
     clear hr
     go_wp2_with fail
     refine (uh HIH w4 _ _ _ _ _ ns vs (fr.set k false) a t ((uh HI).left (uh HW4).bl (uh HL1) (uh HB14)) ((uh HB).set k) (uh HCT)).mono ?_
     rintro e w9 ⟨rfl,hb9⟩
     have HB9:=hide ((uh HW4).bl.trans (hb9.mono (uh HW4).bl.size))
     clear hb9
     go_wp2_with fail
     go_ret
     exact ⟨ret_bool (uh HR).symm,uh HB9⟩
  | some ev =>
   cases het : (ev == t) with
   | true =>
    have HWN : Hid (wayM ad nx C a ns vs (m + 1) v fr = (C ns vs (fr.set k false) || (!eqW a.k toW && wayM ad nx C a ns vs m t (fr.set k false)))):=hide (by rw [uh HWM,hev]; dsimp only; rw [het]; rfl)
    clear hev
    go_wp2_with fail
    refine (uh HCC w2 _ _ _ _ _ ns vs (fr.set k false) ((uh HI).left (uh HW2).bl (uh HL1) (uh HB2)) ((uh HB).tail.set k)).mono ?_
    rintro e w4 ⟨rfl,hb4⟩
    have HW4:=hide ((uh HW2).below hb4)
    have HB14:=hide ((uh HB2).trans (hb4.mono (uh HB2).size))
    clear hb4 a0 a1 a2 e0 e1
    obtain ⟨a0,a1,a2⟩:=cells3H (uh HW4).b0
    obtain ⟨e0,e1,-,-⟩:=cellsE2 (uh HW4).b1
    cases hr : C ns vs (fr.set k false) with
    | true =>
     have HR : Hid (wayM ad nx C a ns vs (m + 1) v fr = true):=hide (by rw [uh HWN,hr]; rfl)
     clear hr
     go_wp2_with fail
     go_ret
     exact ⟨ret_bool (uh HR).symm,(uh HW4).bl⟩
    | false =>
     cases hkd : (a.k.toList == [45,62]) with
     | true =>
      have HR : Hid (wayM ad nx C a ns vs (m + 1) v fr = false):=hide (by rw [uh HWN,hr,show eqW a.k toW = true by unfold eqW; rw [toW_lH]; exact hkd]; rfl)
      clear hr
      go_wp2_with fail
      go_ret
      exact ⟨ret_bool (uh HR).symm,(uh HW4).bl⟩
     | false =>
      have HR : Hid (wayM ad nx C a ns vs (m + 1) v fr = wayM ad nx C a ns vs m t (fr.set k false)):=hide (by rw [uh HWN,hr,show eqW a.k toW = false by unfold eqW; rw [toW_lH]; exact hkd]; rfl)
      clear hr
      go_wp2_with fail
      refine (uh HIH w4 _ _ _ _ _ ns vs (fr.set k false) a t ((uh HI).left (uh HW4).bl (uh HL1) (uh HB14)) ((uh HB).set k) (uh HCT)).mono ?_
      rintro e w9 ⟨rfl,hb9⟩
      have HB9:=hide ((uh HW4).bl.trans (hb9.mono (uh HW4).bl.size))
      clear hb9
      go_wp2_with fail
      go_ret
      exact ⟨ret_bool (uh HR).symm,uh HB9⟩
   | false =>
    have HWN : Hid (wayM ad nx C a ns vs (m + 1) v fr = (!eqW a.k toW && wayM ad nx C a ns vs m t (fr.set k false))):=hide (by rw [uh HWM,hev]; dsimp only; rw [het]; rfl)
    clear hev
    cases hkd : (a.k.toList == [45,62]) with
    | true =>
     have HR : Hid (wayM ad nx C a ns vs (m + 1) v fr = false):=hide (by rw [uh HWN,show eqW a.k toW = true by unfold eqW; rw [toW_lH]; exact hkd]; rfl)
     skip
     go_wp2_with fail
     go_ret
     exact ⟨ret_bool (uh HR).symm,(uh HW2).bl⟩
    | false =>
     have HR : Hid (wayM ad nx C a ns vs (m + 1) v fr = wayM ad nx C a ns vs m t (fr.set k false)):=hide (by rw [uh HWN,show eqW a.k toW = false by unfold eqW; rw [toW_lH]; exact hkd]; rfl)
     skip
     go_wp2_with fail
     refine (uh HIH w2 _ _ _ _ _ ns vs (fr.set k false) a t ((uh HI).left (uh HW2).bl (uh HL1) (uh HB2)) ((uh HB).set k) (uh HCT)).mono ?_
     rintro e w9 ⟨rfl,hb9⟩
     have HB9:=hide ((uh HW2).bl.trans (hb9.mono (uh HW2).bl.size))
     clear hb9
     go_wp2_with fail
     go_ret
     exact ⟨ret_bool (uh HR).symm,uh HB9⟩
 ·have HCI : Hid (hClI ad fr v = -1):=hide (by unfold hClI; rw [if_neg hk])
  have HWM : Hid (wayM ad nx C a ns vs (m + 1) v fr = false):=hide (by rw [wayM,if_neg hk])
  clear hk
  go_enter Tryz.func169,Tryz.ntmps169
  go_wp2_with fail
  refine (hcell_any (fr:=fr) v ((uh HI).hp.below (below_box2 _ _ _)) ((uh HI).fr.below (below_box2 _ _ _)) (uh HB).l2).mono ?_
  rintro e w0 ⟨rfl,rfl⟩
  rw [uh HCI]
  go_wp2_with fail
  go_ret
  exact ⟨ret_bool (uh HWM).symm,below_box2 _ _ _⟩
theorem way_all {X : Nat} {ad nx : List Int} {pu pl : List RAt} {C : List ByteArray → List Int → List Bool → Bool} (HC : CelOK X ad nx pu pl C) (m : Nat) : WayOK X ad nx pu pl C m:=by
 induction m with
 | zero=>intro w rv pv nv vv fv ns vs fr a v _ _ h; omega
 | succ m ih=>exact way_step HC ih
def pki (ns : List ByteArray) (vs : List Int) : List RAt → Option Nat
 | []=>none
 | a :: r=>if (evA ns vs a.a).isSome then some 0 else (pki ns vs r).map (· + 1)
def pkF (ns : List ByteArray) (vs : List Int) (pl : List RAt) (j : Nat) : Nat:=match pki ns vs (pl.drop j) with | some t=>j + t | none=>0
def ra0 : RAt:=⟨em,em,em⟩
def celM (ad nx : List Int) (pu : List RAt) : Nat → List RAt → List ByteArray → List Int → List Bool → Bool
 | 0,_,ns,vs,fr=>!fr.any id && oth pu (2 * pu.length + 1) ns vs
 | f + 1,pl,ns,vs,fr =>
  match evA ns vs (pl.getD (pkF ns vs pl 0) ra0).a with
  | some v=>wayM ad nx (celM ad nx pu f (pl.take (pkF ns vs pl 0) ++ pl.drop (pkF ns vs pl 0 + 1))) (pl.getD (pkF ns vs pl 0) ra0) ns vs (fr.count true + 1) v fr
  | none=>(List.range ad.length).any (fun k=>fr.getD k false && wayM ad nx (celM ad nx pu f (pl.take (pkF ns vs pl 0) ++ pl.drop (pkF ns vs pl 0 + 1))) (pl.getD (pkF ns vs pl 0) ra0) (ns ++ [(pl.getD (pkF ns vs pl 0) ra0).a]) (vs ++ [ad.getD k 0]) (fr.count true + 1) (ad.getD k 0) fr)
theorem pki_lt {ns : List ByteArray} {vs : List Int} : ∀ {l : List RAt} {t : Nat},pki ns vs l = some t → t < l.length:=by
 intro l
 induction l with
 | nil=>intro t h; cases h
 | cons a r ih =>
  intro t h
  simp only [pki] at h
  split at h
  ·cases h; simp
  ·obtain ⟨u,hu,rfl⟩:=Option.map_eq_some_iff.1 h
   have:=ih hu
   simp; omega
theorem pkF_lt {ns : List ByteArray} {vs : List Int} {pl : List RAt} (h : 0 < pl.length) (j : Nat) : pkF ns vs pl j < pl.length:=by
 unfold pkF
 cases hp : pki ns vs (pl.drop j) with
 | none=>exact h
 | some t=>have:=pki_lt hp; simp at this; show j + t < pl.length; omega
theorem pkF_end {ns : List ByteArray} {vs : List Int} {pl : List RAt} : pkF ns vs pl pl.length = 0:=by unfold pkF; rw [List.drop_length]; rfl
theorem pkF_step {ns : List ByteArray} {vs : List Int} {pl : List RAt} {k : Nat} (h : k < pl.length) : pkF ns vs pl k = if (evA ns vs pl[k].a).isSome = true then k else pkF ns vs pl (k + 1):=by
 unfold pkF
 rw [List.drop_eq_getElem_cons h,pki]
 by_cases hs : (evA ns vs pl[k].a).isSome = true
 ·rw [if_pos hs,if_pos hs]; rfl
 ·rw [if_neg hs,if_neg hs]
  cases pki ns vs (pl.drop (k + 1)) with
  | none=>rfl
  | some t=>show k + (t + 1) = k + 1 + t; omega
theorem unv_two (ns : List ByteArray) (vs : List Int) (l : List RAt) : unv ns vs l ≤ 2 * l.length:=by
 unfold unv
 induction l with
 | nil=>simp
 | cons a l ih =>
  simp only [List.map_cons,List.sum_cons,List.length_cons]
  have h1 : (if (evA ns vs a.a).isSome = true then 0 else 1) ≤ 1:=by split <;> omega
  have h2 : (if (evA ns vs a.b).isSome = true then 0 else 1) ≤ 1:=by split <;> omega
  omega
theorem raCells_app (a b : List RAt) : raCells (a ++ b) = raCells a ++ raCells b:=by simp [raCells]
theorem raCells_len (l : List RAt) : (raCells l).length = l.length * 3:=by
 induction l with
 | nil=>rfl
 | cons a l ih=>show (a.cells ++ raCells l).length = _; rw [List.length_append,ih]; simp [RAt.cells]; omega
theorem raCells_one (l : List RAt) : ∀ u ∈ raCells l,u.oneCell' = true:=by
 intro u hu
 simp only [raCells,List.mem_flatMap] at hu
 obtain ⟨a,_,ha⟩:=hu
 exact RAt.one a u ha
theorem raCells_take (l : List RAt) (i : Nat) (h : i ≤ l.length) : raCells (l.take i) = (raCells l).take (i * 3):=by
 have h1:=raCells_app (l.take i) (l.drop i)
 rw [List.take_append_drop] at h1
 have hl : (raCells (l.take i)).length = i * 3:=by rw [raCells_len,List.length_take]; omega
 rw [h1,← hl,List.take_left]
theorem raCells_drop (l : List RAt) (i : Nat) (h : i ≤ l.length) : raCells (l.drop i) = (raCells l).drop (i * 3):=by
 have h1:=raCells_app (l.take i) (l.drop i)
 rw [List.take_append_drop] at h1
 have hl : (raCells (l.take i)).length = i * 3:=by rw [raCells_len,List.length_take]; omega
 rw [h1,← hl,List.drop_left]
theorem any_step {fr : List Bool} {k : Nat} (h : ∀ j,j < k → fr.getD j false = false) (hk : fr.getD k false = false) : ∀ j,j < k + 1 → fr.getD j false = false:=fun j hj=>by
 by_cases e : j = k
 ·rw [e]; exact hk
 ·exact h j (by omega)
theorem any_none {fr : List Bool} (h : ∀ j,j < fr.length → fr.getD j false = false) : fr.any id = false:=by
 rw [List.any_eq_false]
 intro b hb
 obtain ⟨j,hj,rfl⟩:=List.mem_iff_getElem.1 hb
 have:=h j hj
 simp [hj] at this
 simp [this]
theorem any_some {fr : List Bool} {k : Nat} (hk : k < fr.length) (h : fr.getD k false = true) : fr.any id = true:=by
 rw [List.any_eq_true]
 exact ⟨fr[k],List.getElem_mem hk,by simpa [hk] using h⟩
end Go.Proofs.YtciihepbeacppaaGreat
