import Derived.Test.YtciihepbeacppaaGreatM11
import Derived.Deep.LoopGhost
namespace Go.Proofs.YtciihepbeacppaaGreat
open Go.RowKit
set_option maxRecDepth 100000 in
set_option maxHeartbeats 2000000 in
theorem number_any (k i : Nat) (hk : k ≤ 2) (hi : i ≤ 1000) (w : World) : Calls Tryz.prog 152 #[.agg #[.int .i64 k,.int .i64 i]] w fun e w'=>e = .returned (.int .i64 (tNo k i : Nat)) ∧ Below w.heap.size w w':=by
 have hk3 : k = 0 ∨ k = 1 ∨ k = 2:=by omega
 have hb:=(Below.refl w.heap.size w).alloc (Nat.le_refl _) (.cells #[Value.int .i64 k,.int .i64 i] 184)
 have HB:=hide hb
 clear hb
 rcases hk3 with rfl | rfl | rfl
 ·go_enter Tryz.func152,Tryz.ntmps152
  go_wp2_with fail
  go_ret
  exact ⟨rfl,uh HB⟩
 ·go_enter Tryz.func152,Tryz.ntmps152
  go_wp2_with fail
  go_ret
  exact ⟨ret_int (by unfold tNo; rw [if_pos rfl]; omega),uh HB⟩
 ·go_enter Tryz.func152,Tryz.ntmps152
  go_wp2_with fail
  go_ret
  exact ⟨ret_int (by unfold tNo; rw [if_neg (by decide),if_pos rfl]; omega),uh HB⟩
theorem at_get {l : List Atm} {k : Nat} (h : k < l.length) : (atCells l)[k * 5]? = some (.int .i64 l[k].k) ∧ (atCells l)[k * 5 + 1]? = some (.int .i64 l[k].lk) ∧ (atCells l)[k * 5 + 2]? = some (.int .i64 l[k].li) ∧ (atCells l)[k * 5 + 3]? = some (.int .i64 l[k].rk) ∧ (atCells l)[k * 5 + 4]? = some (.int .i64 l[k].ri):=by
 induction l generalizing k with
 | nil=>simp at h
 | cons x l ih =>
  have hx : atCells (x :: l) = [Value.int .i64 x.k,.int .i64 x.lk,.int .i64 x.li,.int .i64 x.rk,.int .i64 x.ri] ++ atCells l:=rfl
  cases k with
  | zero=>rw [hx]; simp
  | succ k =>
   have:=ih (k:=k) (by simpa using h)
   rw [hx,show (k + 1) * 5 = k * 5 + 5 by omega]
   simp only [List.getElem_cons_succ]
   refine ⟨?_,?_,?_,?_,?_⟩
   ·rw [List.getElem?_append_right (by simp)]; simpa using this.1
   ·rw [List.getElem?_append_right (by simp)]; simpa [show k * 5 + 5 + 1 - 5 = k * 5 + 1 by omega] using this.2.1
   ·rw [List.getElem?_append_right (by simp)]; simpa [show k * 5 + 5 + 2 - 5 = k * 5 + 2 by omega] using this.2.2.1
   ·rw [List.getElem?_append_right (by simp)]; simpa [show k * 5 + 5 + 3 - 5 = k * 5 + 3 by omega] using this.2.2.2.1
   ·rw [List.getElem?_append_right (by simp)]; simpa [show k * 5 + 5 + 4 - 5 = k * 5 + 4 by omega] using this.2.2.2.2
theorem at_of_own {w : World} {B : Nat} {v : Value} {l : List Atm} (h : w.ownsRow B 239 5 v l.length (atCells l)) :
  ∃ ao cap,v = .slice ao l.length cap ∧ cap ≤ 9223372036854775807 ∧ l.length ≤ cap ∧ (l ≠ [] → ∃ g,ao = some ⟨g,0,none⟩ ∧ g < w.heap.size ∧ ∀ j,(h : j < l.length) → w.cell? ⟨g,j * 5,none⟩ = some (.int .i64 l[j].k) ∧ w.cell? ⟨g,j * 5 + 1,none⟩ = some (.int .i64 l[j].lk) ∧ w.cell? ⟨g,j * 5 + 2,none⟩ = some (.int .i64 l[j].li) ∧ w.cell? ⟨g,j * 5 + 3,none⟩ = some (.int .i64 l[j].rk) ∧ w.cell? ⟨g,j * 5 + 4,none⟩ = some (.int .i64 l[j].ri)):=by
 have hw:=h
 rcases h.2 with ⟨rfl,h0⟩ | ⟨g,cap,cur,rfl,_,_,hn,hm,_,_⟩
 ·have : l = []:=List.eq_nil_of_length_eq_zero h0
  subst this
  exact ⟨_,_,rfl,by omega,by simp,fun h=>absurd rfl h⟩
 ·refine ⟨_,_,rfl,by unfold maxLen at hm; omega,hn,fun _=>⟨g,rfl,(hw.lt g rfl).2,fun j hj=>?_⟩⟩
  have hg:=at_get hj
  exact ⟨(hw.cellAt _ (by omega)).trans hg.1,(hw.cellAt _ (by omega)).trans hg.2.1,(hw.cellAt _ (by omega)).trans hg.2.2.1,(hw.cellAt _ (by omega)).trans hg.2.2.2.1,(hw.cellAt _ (by omega)).trans hg.2.2.2.2⟩
def naC (l : List Nat) : List Value:=l.map (fun n : Nat=>Value.int .i64 (n : Int))
theorem naC_len (l : List Nat) : (naC l).length = l.length:=by simp [naC]
theorem naC_get {l : List Nat} {j : Nat} (h : j < l.length) : (naC l)[j]? = some (.int .i64 ((l.getD j 0 : Nat) : Int)):=by simp [naC,h]
theorem naC_set (l : List Nat) (j n : Nat) : (naC l).set j (.int .i64 (n : Int)) = naC (l.set j n):=by simp [naC,List.map_set]
def rgK (k : Nat) : List Nat:=List.range k ++ List.replicate (13 - k) 0
theorem rgK_set {k : Nat} (h : k < 13) : (rgK k).set k k = rgK (k + 1):=by
 unfold rgK
 rw [List.set_append_right _ _ (by simp),List.length_range,Nat.sub_self,show 13 - k = (13 - (k + 1)) + 1 by omega,List.replicate_succ,List.set_cons_zero,List.range_succ,List.append_assoc]
 rfl
def mpK (f : Nat → Nat) (c : List Nat) (j : Nat) : List Nat:=(c.map f).take j ++ c.drop j
theorem mpK_len (f : Nat → Nat) (c : List Nat) (j : Nat) : (mpK f c j).length = c.length:=by
 unfold mpK; rw [List.length_append,List.length_take,List.length_map,List.length_drop]; omega
theorem mpK_at (f : Nat → Nat) {c : List Nat} {j : Nat} (h : j < c.length) : (mpK f c j).getD j 0 = c.getD j 0:=by
 unfold mpK
 have e : ((c.map f).take j).length = j:=by rw [List.length_take,List.length_map]; omega
 simp only [List.getD_eq_getElem?_getD]
 rw [List.getElem?_append_right (by omega),e,Nat.sub_self,List.getElem?_drop,Nat.add_zero]
theorem mpK_set (f : Nat → Nat) {c : List Nat} {j : Nat} (h : j < c.length) : (mpK f c j).set j (f (c.getD j 0)) = mpK f c (j + 1):=by
 unfold mpK
 have e : ((c.map f).take j).length = j:=by rw [List.length_take,List.length_map]; omega
 have hm : j < (c.map f).length:=by simpa using h
 rw [List.set_append_right _ _ (by omega),e,Nat.sub_self,List.drop_eq_getElem_cons h,List.set_cons_zero,List.take_succ_eq_append_getElem hm,List.append_assoc]
 simp [h]
theorem mpK_keep (f : Nat → Nat) {c : List Nat} {j : Nat} (h : j < c.length) (hf : f (c.getD j 0) = c.getD j 0) : mpK f c (j + 1) = mpK f c j:=by
 rw [← mpK_set f h,hf,← mpK_at f h,set_getD]
theorem Tryz.info13 : (Tryz.prog.info? 236).map (·.size) = some 13:=by kernel_rfl
set_option maxRecDepth 100000 in
set_option maxHeartbeats 8000000 in
theorem merge_any {w : World} {B : Nat} {av : Value} {al : List Atm} (h : w.ownsRow B 239 5 av al.length (atCells al)) (ht : TmOK al) (hal : al.length ≤ 1000) (hb : ∀ a ∈ al,a.lk ≤ 2 ∧ a.rk ≤ 2 ∧ a.li ≤ 100 ∧ a.ri ≤ 100) :
  Calls Tryz.prog 151 #[av] w fun e w'=>e = .returned (.agg (naC (mrg al)).toArray) ∧ Below w.heap.size w w':=by
 obtain ⟨ao,cap,hav,hcm,hcn,hcell⟩:=at_of_own h
 have HC:=hide hcell
 rw [hav]
 clear h hcell hav
 go_enter Tryz.func151,Tryz.ntmps151
 go_wp2_with fail
 obtain ⟨w0,hw0⟩ : ∃ w0,w0 = ((w.alloc (Obj.cells #[Value.int IntKind.i64 0,Value.int IntKind.i64 0,Value.int IntKind.i64 0,Value.int IntKind.i64 0,Value.int IntKind.i64 0,Value.int IntKind.i64 0,Value.int IntKind.i64 0,Value.int IntKind.i64 0,Value.int IntKind.i64 0,Value.int IntKind.i64 0,Value.int IntKind.i64 0,Value.int IntKind.i64 0,Value.int IntKind.i64 0] 236)).alloc (Obj.cells #[Value.int IntKind.i64 0,Value.int IntKind.i64 0,Value.int IntKind.i64 0,Value.int IntKind.i64 0,Value.int IntKind.i64 0,Value.int IntKind.i64 0,Value.int IntKind.i64 0,Value.int IntKind.i64 0,Value.int IntKind.i64 0,Value.int IntKind.i64 0,Value.int IntKind.i64 0,Value.int IntKind.i64 0,Value.int IntKind.i64 0] 236)):=⟨_,rfl⟩
 rw [← hw0]
 have hR0 : Ob w0 236 13 w.heap.size (naC (List.replicate 13 0)):=by
  rw [hw0]
  exact Ob.alloc (World.ownsRow_lit (base:=0) (e:=236) (size:=13) w #[Value.int IntKind.i64 0,Value.int IntKind.i64 0,Value.int IntKind.i64 0,Value.int IntKind.i64 0,Value.int IntKind.i64 0,Value.int IntKind.i64 0,Value.int IntKind.i64 0,Value.int IntKind.i64 0,Value.int IntKind.i64 0,Value.int IntKind.i64 0,Value.int IntKind.i64 0,Value.int IntKind.i64 0,Value.int IntKind.i64 0] 1 (Nat.zero_le _) (by simp [maxLen]) rfl) _
 have hC0 : Ob w0 236 13 (w.heap.size + 1) (naC (rgK 0)):=by
  have h1:=World.ownsRow_lit (base:=0) (e:=236) (size:=13) (w.alloc (Obj.cells #[Value.int IntKind.i64 0,Value.int IntKind.i64 0,Value.int IntKind.i64 0,Value.int IntKind.i64 0,Value.int IntKind.i64 0,Value.int IntKind.i64 0,Value.int IntKind.i64 0,Value.int IntKind.i64 0,Value.int IntKind.i64 0,Value.int IntKind.i64 0,Value.int IntKind.i64 0,Value.int IntKind.i64 0,Value.int IntKind.i64 0] 236)) #[Value.int IntKind.i64 0,Value.int IntKind.i64 0,Value.int IntKind.i64 0,Value.int IntKind.i64 0,Value.int IntKind.i64 0,Value.int IntKind.i64 0,Value.int IntKind.i64 0,Value.int IntKind.i64 0,Value.int IntKind.i64 0,Value.int IntKind.i64 0,Value.int IntKind.i64 0,Value.int IntKind.i64 0,Value.int IntKind.i64 0] 1 (Nat.zero_le _) (by simp [maxLen]) rfl
  have e : (w.alloc (Obj.cells #[Value.int IntKind.i64 0,Value.int IntKind.i64 0,Value.int IntKind.i64 0,Value.int IntKind.i64 0,Value.int IntKind.i64 0,Value.int IntKind.i64 0,Value.int IntKind.i64 0,Value.int IntKind.i64 0,Value.int IntKind.i64 0,Value.int IntKind.i64 0,Value.int IntKind.i64 0,Value.int IntKind.i64 0,Value.int IntKind.i64 0] 236)).heap.size = w.heap.size + 1:=by simp
  rw [e] at h1
  rw [hw0]
  exact h1
 have hB0 : Below w.heap.size w w0:=by rw [hw0]; exact ((Below.refl _ _).alloc (Nat.le_refl _) _).alloc (by simp) _
 obtain ⟨R,hR⟩ : ∃ R,R = w.heap.size:=⟨_,rfl⟩
 obtain ⟨C,hC⟩ : ∃ C,C = w.heap.size + 1:=⟨_,rfl⟩
 rw [← hR] at hR0
 rw [← hC] at hC0 ⊢
 rw [← hR]
 have hRC : R ≠ C:=by omega
 have hRB : w.heap.size ≤ R:=by omega
 have hCB : w.heap.size ≤ C:=by omega
 clear hw0 hR hC
 go_loopw [4] (fun i wr=>∃ k : Nat,k ≤ 13 ∧ i = .int .i64 k ∧ Hid (Ob wr 236 13 C (naC (rgK k))) ∧ Hid (Ob wr 236 13 R (naC (List.replicate 13 0))) ∧ Hid (Below w.heap.size w wr)) (fun i _=>13 - (intOf i).toNat)
 case atStart=>exact ⟨0,Nat.zero_le _,rfl,hide hC0,hide hR0,hide hB0⟩
 case round =>
  obtain ⟨k,hk,rfl,hC1,hR1,hB1⟩:=hrel
  by_cases hlt : k < 13
  ·have hd : decide ((k : Int) < 13) = true:=by simp; omega
   obtain ⟨⟨u,hu⟩,hz⟩:=(uh hC1).some (j:=k) hlt
   have hC2:=(uh hC1).set k (.int .i64 (k : Int))
   rw [naC_set,rgK_set hlt] at hC2
   have HC2:=hide hC2
   have HR2:=hide ((uh hR1).of_eq (w':=wr.setCell ⟨C,k,none⟩ (.int .i64 (k : Int))) (Below.heap_setCell _ _ _ _ hRC))
   have HB2:=hide ((uh hB1).setCell (p:=⟨C,k,none⟩) hCB (.int .i64 (k : Int)))
   clear hC2
   go_wp2_with fail
   go_roundw
   case rel=>exact ⟨k + 1,by omega,by go_num,HC2,HR2,HB2⟩
   case measure=>simp [intOf]; omega
  ·have hd : decide ((k : Int) < 13) = false:=by simp; omega
   have hk13 : k = 13:=by omega
   subst hk13
   clear hC0 hR0 hB0
   go_wp2_with fail
   go_loopg [19] al.length (fun gn i wr=>∃ k : Nat,k + gn = al.length ∧ i = .int .i64 k ∧ Hid (Ob wr 236 13 C (naC ((al.take k).foldl mrg1 (List.range 13)))) ∧ Hid (Ob wr 236 13 R (naC (List.replicate 13 0))) ∧ Hid (Below w.heap.size w wr))
   case atStart=>exact ⟨0,by omega,rfl,hC1,hR1,hB1⟩
   case round =>
    obtain ⟨k,hk,rfl,hC1,hR1,hB1⟩:=hrel
    by_cases hlt : k < al.length
    ·have hd2 : decide ((k : Int) < (al.length : Int)) = true:=by simp; omega
     obtain ⟨g,hao,hgl,hcell⟩:=uh HC (by intro h; rw [h] at hlt; simp at hlt)
     subst hao
     obtain ⟨x0,x1,x2,x3,x4⟩:=hcell k hlt
     obtain ⟨a,ha⟩ : ∃ a,a = al[k]:=⟨_,rfl⟩
     have hta:=ht _ (List.getElem_mem hlt)
     have hba:=hb _ (List.getElem_mem hlt)
     rw [← ha] at x0 x1 x2 x3 x4 hta hba
     have c0:=((uh hB1).cell (World.block_lt_of_cell? w _ x0)).trans x0
     have c1:=((uh hB1).cell (World.block_lt_of_cell? w _ x1)).trans x1
     have c2:=((uh hB1).cell (World.block_lt_of_cell? w _ x2)).trans x2
     have c3:=((uh hB1).cell (World.block_lt_of_cell? w _ x3)).trans x3
     have c4:=((uh hB1).cell (World.block_lt_of_cell? w _ x4)).trans x4
     clear hcell x0 x1 x2 x3 x4
     obtain ⟨c,hc⟩ : ∃ c,c = (al.take k).foldl mrg1 (List.range 13):=⟨_,rfl⟩
     rw [← hc] at hC1
     have hcl : c.length = 13:=by
      rw [hc]
      exact (mrg_inv (al.take k) _ (fun b hb=>ht b (List.mem_of_mem_take hb)) (by simp) (fun i hi=>by rw [range13 i hi]; exact hi)).1
     have hstep : (al.take (k + 1)).foldl mrg1 (List.range 13) = mrg1 c a:=by
      rw [List.take_succ_eq_append_getElem hlt,List.foldl_append,← hc,ha]; rfl
     have HST:=hide hstep
     have HCc:=hide hc
     have HA:=hide ha
     -- behind the copy of the atom
     have hB2:=(uh hB1).alloc (uh hB1).size (.cells #[Value.int .i64 a.k,.int .i64 a.lk,.int .i64 a.li,.int .i64 a.rk,.int .i64 a.ri] 239)
     have hC2:=(uh hC1).alloc (.cells #[Value.int .i64 a.k,.int .i64 a.lk,.int .i64 a.li,.int .i64 a.rk,.int .i64 a.ri] 239)
     have hR2:=(uh hR1).alloc (.cells #[Value.int .i64 a.k,.int .i64 a.lk,.int .i64 a.li,.int .i64 a.rk,.int .i64 a.ri] 239)
     have hnew:=fun j=>cell_of_row (wr.alloc (.cells #[Value.int .i64 a.k,.int .i64 a.lk,.int .i64 a.li,.int .i64 a.rk,.int .i64 a.ri] 239)) wr.heap.size j #[Value.int .i64 a.k,.int .i64 a.lk,.int .i64 a.li,.int .i64 a.rk,.int .i64 a.ri] 239 (0,0) (heap_alloc_new wr _)
     have n0:=hnew 0
     have n1:=hnew 1
     have n2:=hnew 2
     have n3:=hnew 3
     have n4:=hnew 4
     simp only [List.getElem?_toArray,List.getElem?_cons_zero,List.getElem?_cons_succ] at n0 n1 n2 n3 n4
     have HB2:=hide hB2
     have HC2:=hide hC2
     have HR2:=hide hR2
     clear hB2 hC2 hR2 hnew hstep hc ha hC1 hR1 hB1
     by_cases hk1 : a.k = 1
     ·have hne : ((a.k : Int) != 1) = false:=by simp; omega
      have HN1:=hide (number_any a.lk a.li hba.1 (by omega) (wr.alloc (.cells #[Value.int .i64 a.k,.int .i64 a.lk,.int .i64 a.li,.int .i64 a.rk,.int .i64 a.ri] 239)))
      have HK1:=hide hk1
      clear hk1
      go_wp2_with fail
      refine (uh HN1).mono ?_
      rintro e w1 ⟨rfl,hb1⟩
      have hlt1 : tNo a.lk a.li < 13:=hta.1
      have hlt2 : tNo a.rk a.ri < 13:=hta.2
      obtain ⟨t1,ht1⟩ : ∃ t1,t1 = tNo a.lk a.li:=⟨_,rfl⟩
      obtain ⟨t2,ht2⟩ : ∃ t2,t2 = tNo a.rk a.ri:=⟨_,rfl⟩
      rw [← ht1] at hlt1 ⊢
      rw [← ht2] at hlt2
      have hC3:=(uh HC2).of_eq (hb1.block C (World.ownsRow.lt (uh HC2) _ rfl).2)
      have hR3:=(uh HR2).of_eq (hb1.block R (World.ownsRow.lt (uh HR2) _ rfl).2)
      have hB3 : Below w.heap.size w w1:=(uh HB2).trans (hb1.mono (uh HB2).size)
      have d1:=(World.ownsRow.cellAt hC3 t1 (by omega)).trans (naC_get (l:=c) (by omega))
      have m3:=(hb1.cell (World.block_lt_of_cell? _ _ n3)).trans n3
      have m4:=(hb1.cell (World.block_lt_of_cell? _ _ n4)).trans n4
      obtain ⟨kept,hkept⟩ : ∃ kept,kept = c.getD t1 0:=⟨_,rfl⟩
      rw [← hkept] at d1
      have HN2:=hide (number_any a.rk a.ri hba.2.1 (by omega) w1)
      have HC3:=hide hC3
      have HR3:=hide hR3
      have HB3:=hide hB3
      have HT1:=hide ht1
      have HT2:=hide ht2
      have HKe:=hide hkept
      clear hC3 hR3 hB3 hb1 ht1 hkept n0 n1 n2 n3 n4
      go_wp2_with fail
      refine (uh HN2).mono ?_
      rintro e w2 ⟨rfl,hb2⟩
      rw [← ht2]
      have hC4:=(uh HC3).of_eq (hb2.block C (World.ownsRow.lt (uh HC3) _ rfl).2)
      have hR4:=(uh HR3).of_eq (hb2.block R (World.ownsRow.lt (uh HR3) _ rfl).2)
      have hB4 : Below w.heap.size w w2:=(uh HB3).trans (hb2.mono (uh HB3).size)
      have d2:=(World.ownsRow.cellAt hC4 t2 (by omega)).trans (naC_get (l:=c) (by omega))
      obtain ⟨gone,hgone⟩ : ∃ gone,gone = c.getD t2 0:=⟨_,rfl⟩
      rw [← hgone] at d2
      have HC4:=hide hC4
      have HR4:=hide hR4
      have HB4:=hide hB4
      have HGo:=hide hgone
      have HMr : Hid (mrg1 c a = c.map (fun x=>if x = gone then kept else x)):=hide (by
       unfold mrg1
       rw [if_pos (uh HK1),← uh HT1,← ht2,← hgone,← uh HKe])
      clear hC4 hR4 hB4 hb2 hgone ht2 d1
      go_wp2_with fail
      go_loopw [9] (fun i wr=>∃ j : Nat,j ≤ 13 ∧ i = .int .i64 j ∧ Hid (Ob wr 236 13 C (naC (mpK (fun x=>if x = gone then kept else x) c j))) ∧ Hid (Ob wr 236 13 R (naC (List.replicate 13 0))) ∧ Hid (Below w.heap.size w wr)) (fun i _=>13 - (intOf i).toNat)
      case atStart=>exact ⟨0,Nat.zero_le _,rfl,HC4,HR4,HB4⟩
      case round =>
       obtain ⟨j,hj,rfl,hC5,hR5,hB5⟩:=hrel
       by_cases hjl : j < 13
       ·have hd3 : decide ((j : Int) < 13) = true:=by simp; omega
        have hjc : j < c.length:=by omega
        have hcj:=(World.ownsRow.cellAt (uh hC5) j (by omega)).trans (naC_get (by rw [mpK_len]; omega))
        rw [mpK_at _ hjc] at hcj
        have hzj:=World.ownsRow.frozenAt (uh hC5) j
        obtain ⟨x,hx⟩ : ∃ x,x = c.getD j 0:=⟨_,rfl⟩
        rw [← hx] at hcj
        have HNx:=hide (mpK_set (fun x=>if x = gone then kept else x) hjc)
        have HKp:=hide (mpK_keep (fun x=>if x = gone then kept else x) hjc)
        rw [← hx] at HNx HKp
        by_cases hxg : x = gone
        ·have he : ((x : Int) == (gone : Int)) = true:=by rw [nat_beq]; simpa using hxg
         have hC6:=(uh hC5).set j (.int .i64 (kept : Int))
         have hnx:=uh HNx
         rw [if_pos hxg] at hnx
         rw [naC_set,hnx] at hC6
         clear hnx
         have HC6:=hide hC6
         have HR6:=hide ((uh hR5).of_eq (w':=wr.setCell ⟨C,j,none⟩ (.int .i64 (kept : Int))) (Below.heap_setCell _ _ _ _ hRC))
         have HB6:=hide ((uh hB5).setCell (p:=⟨C,j,none⟩) hCB (.int .i64 (kept : Int)))
         clear hC6 hxg hx
         go_wp2_with fail
         go_roundw
         case rel=>exact ⟨j + 1,by omega,by go_num,HC6,HR6,HB6⟩
         case measure=>simp [intOf]; omega
        ·have he : ((x : Int) == (gone : Int)) = false:=by rw [nat_beq]; simpa using hxg
         have hself:=uh HKp (if_neg hxg)
         have HC6:=hC5
         rw [← hself] at HC6
         clear hself hxg hx
         go_wp2_with fail
         go_roundw
         case rel=>exact ⟨j + 1,by omega,by go_num,HC6,hR5,hB5⟩
         case measure=>simp [intOf]; omega
       ·have hd3 : decide ((j : Int) < 13) = false:=by simp; omega
        have hj13 : j = 13:=by omega
        subst hj13
        have hfin : mpK (fun x=>if x = gone then kept else x) c 13 = mrg1 c a:=by
         unfold mpK
         rw [uh HMr,List.drop_of_length_le (by omega),List.append_nil,List.take_of_length_le (by simp; omega)]
        rw [hfin] at hC5
        clear hfin
        go_wp2_with fail
        go_roundg (gk - 1)
        case rel=>exact ⟨k + 1,by omega,by go_num,hide (by rw [uh HST]; exact uh hC5),hR5,hB5⟩
        case measure=>omega
     ·have hne : ((a.k : Int) != 1) = true:=by rw [bne_iff_ne]; omega
      have HMr : Hid (mrg1 c a = c):=hide (by unfold mrg1; rw [if_neg hk1])
      clear hk1
      go_wp2_with fail
      go_roundg (gk - 1)
      case rel=>exact ⟨k + 1,by omega,by go_num,hide (by rw [uh HST,uh HMr]; exact uh HC2),HR2,HB2⟩
      case measure=>omega
    ·have hd2 : decide ((k : Int) < (al.length : Int)) = false:=by simp; omega
     have hkl : k = al.length:=by omega
     subst hkl
     rw [List.take_length] at hC1
     have hml : (mrg al).length = 13:=mrg_len ht
     have hC1' : Ob wr 236 13 C (naC (mrg al)):=uh hC1
     have hRg : wr.rangeAt C 0 (naC (mrg al)):=by
      intro j v hj
      have hjl:=(List.getElem?_eq_some_iff.1 hj).1
      rw [naC_len,hml] at hjl
      rw [Nat.zero_add,World.ownsRow.cellAt hC1' j (by omega)]; exact hj
     have hTh : wr.there R 0 (naC (mrg al)).toArray.size:=by
      intro j hj
      rw [List.size_toArray,naC_len,hml] at hj
      obtain ⟨⟨u,hu⟩,hz⟩:=(uh hR1).some (j:=j) hj
      rw [Nat.zero_add]
      exact ⟨by rw [hu]; rfl,hz⟩
     have hI1 : (Tryz.prog.info? 236).map (·.size) = some (naC (mrg al)).length:=by rw [naC_len,hml]; exact Tryz.info13
     have hI2 : (Tryz.prog.info? 236).map (·.size) = some (naC (mrg al)).toArray.size:=by rw [List.size_toArray,naC_len,hml]; exact Tryz.info13
     have hO : (naC (mrg al)).toArray.all (·.oneCell') = true:=all_oneCell_toArray (by
      intro v hv
      obtain ⟨o,_,rfl⟩:=List.mem_map.1 hv
      rfl)
     have hOb5:=Ob.setCells (naC (mrg al)) 0 (uh hR1)
     have hsl:=setL_mid (naC (mrg al)) [] (naC (List.replicate 13 0)) [] (by rw [naC_len,naC_len,hml]; rfl)
     simp only [List.nil_append,List.append_nil,List.length_nil] at hsl
     rw [hsl] at hOb5
     have hB5 : ∀ (vs : List Value) (o : Nat) (x : World),Below w.heap.size w x → Below w.heap.size w (x.setCells R o vs):=by
      intro vs
      induction vs with
      | nil=>intro o x h; exact h
      | cons v r ih=>intro o x h; exact ih (o + 1) _ (h.setCell hRB v)
     have HB5:=hide (hB5 (naC (mrg al)) 0 wr (uh hB1))
     obtain ⟨M,hM⟩ : ∃ M,M = naC (mrg al):=⟨_,rfl⟩
     rw [← hM] at hRg hTh hI1 hI2 hO hOb5 HB5
     have HM:=hide hM
     have HRg:=hide hRg
     have HTh:=hide hTh
     have HI1:=hide hI1
     have HI2:=hide hI2
     have HO:=hide hO
     have HOb5:=hide hOb5
     clear hRg hTh hI1 hI2 hO hOb5 hsl hB5 hM hC1' hC1 hR1 hB1
     go_wp2_with (first | refine wpList_load_mid rfl 236 (.tmp 3) rfl C 0 rfl M _ (uh HRg) Tryz.underlying236 rfl (uh HI1) ?_ | refine wpList_store_mid rfl 236 (.tmp 2) (.tmp 49) rfl R 0 M.toArray rfl rfl (uh HTh) (uh HI2) (uh HO) ?_)
     have hrg2 : (wr.setCells R 0 M).rangeAt R 0 M:=by
      intro j v hj
      have hjl:=(List.getElem?_eq_some_iff.1 hj).1
      rw [uh HM,naC_len,hml] at hjl
      rw [Nat.zero_add,World.ownsRow.cellAt (uh HOb5) j (by omega)]; exact hj
     have hld:=run_loadVar_mid (P:=Tryz.prog) (wr.setCells R 0 M) R 0 236 M _ hrg2 Tryz.underlying236 rfl (uh HI1)
     refine bodyPost_ret (v:=.agg M.toArray) ?_ rfl ⟨by rw [uh HM],uh HB5⟩
     simp [results,Tryz.results151,Act.put,asAddr,hld]
end Go.Proofs.YtciihepbeacppaaGreat
