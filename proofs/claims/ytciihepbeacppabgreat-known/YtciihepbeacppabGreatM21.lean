import Derived.Test.YtciihepbeacppabGreatM20
import Derived.Test.YtciihepbeacppabGreatGR
namespace Go.Proofs.YtciihepbeacppabGreat
open Go.RowKit
set_option linter.unusedVariables false
def eqK (f : CF) (i k : Nat) : Nat:=((List.range' k (i + 1 - k)).find? (fun j=>f.cl.getD j 0 == f.cl.getD i 0)).getD 0
theorem eqK_step {f : CF} {i k : Nat} (hk : k ≤ i) : eqK f i k = if f.cl.getD k 0 = f.cl.getD i 0 then k else eqK f i (k + 1):=by
 unfold eqK
 rw [show i + 1 - k = (i + 1 - (k + 1)) + 1 by omega,List.range'_succ,List.find?_cons]
 by_cases h : f.cl.getD k 0 = f.cl.getD i 0
 ·rw [if_pos h]; simp only [beq_iff_eq.2 h]; rfl
 ·rw [if_neg h]
  have : (f.cl.getD k 0 == f.cl.getD i 0) = false:=by simpa using h
  rw [this]
theorem eqK_zero (f : CF) (i : Nat) : eqK f i 0 = eqD f i:=by unfold eqK eqD; rw [Nat.sub_zero,List.range_eq_range']
theorem eqK_top (f : CF) (i : Nat) : eqK f i (i + 1) = 0:=by unfold eqK; simp
theorem eqD_lt (f : CF) {i : Nat} (hi : i < 5) : eqD f i < 5:=by
 unfold eqD
 cases h : (List.range (i + 1)).find? (fun k=>f.cl.getD k 0 == f.cl.getD i 0) with
 | none=>decide
 | some j =>
  have:=List.mem_of_find?_eq_some h
  rw [List.mem_range] at this
  simp only [Option.getD_some]
  omega
def natV (l : List Nat) : List Value:=l.map (fun n=>Value.int .i64 (n : Nat))
def drC (A : Nat) (es bs : List Nat) (pt li : Nat) : List Value:=ptr A :: (natV es ++ (natV bs ++ [.int .i64 (pt : Nat),.int .i64 (li : Nat)]))
def esK (f : CF) (k : Nat) : List Nat:=(List.range 5).map (fun j=>if j < k then eqD f j else 0)
def bsK (f : CF) (k : Nat) : List Nat:=(List.range 5).map (fun j=>if j < k then bgD f j else 0)
theorem esK_len (f : CF) (k : Nat) : (esK f k).length = 5:=by simp [esK]
theorem bsK_len (f : CF) (k : Nat) : (bsK f k).length = 5:=by simp [bsK]
theorem esK_set (f : CF) {k : Nat} (hk : k < 5) : (esK f k).set k (eqD f k) = esK f (k + 1):=by
 have : k = 0 ∨ k = 1 ∨ k = 2 ∨ k = 3 ∨ k = 4:=by omega
 rcases this with rfl | rfl | rfl | rfl | rfl <;> rfl
theorem bsK_set (f : CF) {k : Nat} (hk : k < 5) : (bsK f k).set k (bgD f k) = bsK f (k + 1):=by
 have : k = 0 ∨ k = 1 ∨ k = 2 ∨ k = 3 ∨ k = 4:=by omega
 rcases this with rfl | rfl | rfl | rfl | rfl <;> rfl
theorem esK_get (f : CF) {k : Nat} (hk : k < 5) : (esK f k).set k 0 = esK f k:=by
 have : k = 0 ∨ k = 1 ∨ k = 2 ∨ k = 3 ∨ k = 4:=by omega
 rcases this with rfl | rfl | rfl | rfl | rfl <;> rfl
theorem bsK_get (f : CF) {k : Nat} (hk : k < 5) : (bsK f k).set k 0 = bsK f k:=by
 have : k = 0 ∨ k = 1 ∨ k = 2 ∨ k = 3 ∨ k = 4:=by omega
 rcases this with rfl | rfl | rfl | rfl | rfl <;> rfl
theorem drC_e {A i n : Nat} {es bs : List Nat} {pt li : Nat} (he : es.length = 5) (hi : i < 5) : (drC A es bs pt li).set (1 + i) (.int .i64 (n : Nat)) = drC A (es.set i n) bs pt li:=by
 unfold drC natV
 rw [Nat.add_comm,List.set_cons_succ,List.set_append_left _ _ (by simpa using by omega),List.map_set]
theorem drC_b {A i n : Nat} {es bs : List Nat} {pt li : Nat} (he : es.length = 5) (hb : bs.length = 5) (hi : i < 5) : (drC A es bs pt li).set (6 + i) (.int .i64 (n : Nat)) = drC A es (bs.set i n) pt li:=by
 unfold drC natV
 rw [show 6 + i = (5 + i) + 1 by omega,List.set_cons_succ,List.set_append_right _ _ (by simp; omega),List.set_append_left _ _ (by simp; omega),List.map_set]
 simp [he]
theorem drC_pt {A n : Nat} {es bs : List Nat} {pt li : Nat} (he : es.length = 5) (hb : bs.length = 5) : (drC A es bs pt li).set 11 (.int .i64 (n : Nat)) = drC A es bs n li ∧ (drC A es bs pt li)[11]? = some (.int .i64 (pt : Nat)):=by
 match es,he,bs,hb with
 | [a,b,c,d,e],_,[a',b',c',d',e'],_=>exact ⟨rfl,rfl⟩
theorem drC_li {A n : Nat} {es bs : List Nat} {pt li : Nat} (he : es.length = 5) (hb : bs.length = 5) : (drC A es bs pt li).set 12 (.int .i64 (n : Nat)) = drC A es bs pt n ∧ (drC A es bs pt li)[12]? = some (.int .i64 (li : Nat)):=by
 match es,he,bs,hb with
 | [a,b,c,d,e],_,[a',b',c',d',e'],_=>exact ⟨rfl,rfl⟩
theorem drC_at {A i : Nat} {es bs : List Nat} {pt li : Nat} (he : es.length = 5) (hb : bs.length = 5) (hi : i < 5) : (drC A es bs pt li)[1 + i]? = some (.int .i64 ((es.getD i 0 : Nat) : Int)) ∧ (drC A es bs pt li)[6 + i]? = some (.int .i64 ((bs.getD i 0 : Nat) : Int)):=by
 match es,he,bs,hb with
 | [a,b,c,d,e],_,[a',b',c',d',e'],_ =>
  have : i = 0 ∨ i = 1 ∨ i = 2 ∨ i = 3 ∨ i = 4:=by omega
  rcases this with rfl | rfl | rfl | rfl | rfl <;> exact ⟨rfl,rfl⟩
structure IsD (w : World) (D A : Nat) (f : CF) (av ov : Value) : Prop where
 bk : Bk w D 164 (drC A (esK f 5) (bsK f 5) (ptD f) (liD f))
 ff : IsF w A f av ov
section
variable {w : World} {A : Nat} {f : CF} {av ov : Value}
set_option maxRecDepth 100000 in
set_option maxHeartbeats 8000000 in
theorem draw_any (h : IsF w A f av ov) (hO : FoOk f) : Calls Tryz.prog 154 #[.pointer (some ⟨A,0,none⟩)] w fun e w'=>∃ D,e = .returned (.pointer (some ⟨D,0,none⟩)) ∧ IsD w' D A f av ov ∧ w.heap.size ≤ D ∧ Below w.heap.size w w':=by
 have hol:=hO.owLen
 obtain ⟨W1,hW1⟩ : ∃ W1,W1 = w.alloc (.cells #[ptr A,.int .i64 0,.int .i64 0,.int .i64 0,.int .i64 0,.int .i64 0,.int .i64 0,.int .i64 0,.int .i64 0,.int .i64 0,.int .i64 0,.int .i64 0,.int .i64 0] 164):=⟨_,rfl⟩
 have hb1 : Below w.heap.size w W1:=by rw [hW1]; exact below_boxQ w _
 have hD : Bk W1 w.heap.size 164 (drC A (esK f 0) (bsK f 0) 0 0):=by rw [hW1]; exact Bk.new w _ _
 obtain ⟨D,hDe⟩ : ∃ D,D = w.heap.size:=⟨_,rfl⟩
 rw [← hDe] at hD
 have HI0:=hide (And.intro hD hb1)
 have H:=hide h
 have HO:=hide hO
 have HDe:=hide hDe
 have hAl : ∀ k ∈ bsF A av ov,k ≠ D:=fun k hk=>by have:=h.lt k hk; omega
 have HAl:=hide hAl
 clear h hO hD hb1 hAl
 unfold ptr at hW1
 go_enter Tryz.func154,Tryz.ntmps154
 go_upto_region 2 with fail
 rw [← hW1,← hDe]
 clear hW1 hDe
 go_wp2_with fail
 go_loopg [4] 5 (fun gn iv wx=>∃ (k : Nat),k + gn = 5 ∧ iv = .int .i64 k ∧ Hid (Bk wx D 164 (drC A (esK f k) (bsK f k) 0 0) ∧ Below w.heap.size w wx))
 case atStart=>exact ⟨0,by omega,rfl,HI0⟩
 case round =>
  clear HI0
  obtain ⟨k,hkn,rfl,hI⟩:=hrel
  obtain ⟨G,hG⟩ : ∃ G,G = gk:=⟨_,rfl⟩
  by_cases hlt : k < 5
  ·have hd : decide ((k : Int) < (5 : Int)) = true:=by simp; omega
   have HJ0 : Hid (Bk wr D 164 (drC A ((esK f k).set k (eqK f k (k + 1))) (bsK f k) 0 0) ∧ Below w.heap.size w wr):=hide ⟨by rw [eqK_top,esK_get f hlt]; exact (uh hI).1,(uh hI).2⟩
   have i1 : (0 : Int) ≤ (k : Int):=by omega
   have i2 : (k : Int) < (5 : Int):=by omega
   clear hI
   go_wp2_with fail
   go_loopg [5] (k + 1) (fun gn jv wx=>∃ (z : Int),z + 1 = (gn : Int) ∧ gn ≤ k + 1 ∧ jv = .int .i64 z ∧ Hid (Bk wx D 164 (drC A ((esK f k).set k (eqK f k gn)) (bsK f k) 0 0) ∧ Below w.heap.size w wx))
   case atStart=>exact ⟨(k : Int),by omega,Nat.le_refl _,rfl,HJ0⟩
   case round =>
    clear HJ0
    obtain ⟨z,hz,hgk,rfl,hJ⟩:=hrel
    have hF:=(uh H).below (uh hJ).2
    cases gk with
    | zero =>
     have hz1 : z = -1:=by omega
     subst hz1
     have hE:=(uh hJ).1
     rw [eqK_zero,esK_set f hlt] at hE
     have hbs:=bsK_get f hlt
     have xk:=hF.cls (i:=k) (by omega)
     unfold clV at xk
     have hbg : bgD f k = match bgn f.ow (f.cl.getD k 0) with | some j=>(owA f j).k | none=>0:=rfl
     obtain ⟨ck,hck⟩ : ∃ c,c = f.cl.getD k 0:=⟨_,rfl⟩
     rw [← hck] at xk hbg
     have HBG:=hide (begins_any ck hF)
     have hg:=opI_ge (bgn f.ow ck)
     have hbk:=hE
     have hset:=bsK_set f hlt
     have hge : w.heap.size ≤ D:=by rw [uh HDe]; exact Nat.le_refl _
     have d0 : decide ((0 : Int) ≤ -1) = false:=by decide
     cases hb : bgn f.ow ck with
     | none =>
      rw [hb] at HBG hg hbg
      have hb0 : bgD f k = 0:=hbg
      rw [hb0,hbs] at hset
      have HN : Hid (Bk wr D 164 (drC A (esK f (k + 1)) (bsK f (k + 1)) 0 0) ∧ Below w.heap.size w wr):=hide ⟨by rw [← hset]; exact hE,(uh hJ).2⟩
      clear hF hE hbs hbg hck hbk hset hge hb hb0 hJ
      go_wp2_with fail
      refine (uh HBG).mono ?_
      rintro e w3 ⟨rfl,rfl⟩
      go_wp2_with fail
      go_roundg (G - 1)
      case rel=>exact ⟨k + 1,by omega,by go_num,HN⟩
      case measure=>omega
     | some j =>
      rw [hb] at HBG hg hbg
      have hb0 : bgD f k = (owA f j).k:=hbg
      obtain ⟨hjl,-⟩:=bgn_lt hb
      have c6:=hF.c6
      obtain ⟨oa,oc,hov,-,-⟩:=own_slc hF.ow
      subst hov
      obtain ⟨go,gc,hgo,-,-⟩:=own_formP hF.ow hjl
      simp only [Value.slice.injEq,true_and] at hgo
      obtain ⟨rfl,rfl⟩:=hgo
      obtain ⟨y0,-,-⟩:=own_cells hF.ow hjl
      obtain ⟨kd,hkd⟩ : ∃ kd,kd = (f.ow.getD j pr0).k:=⟨_,rfl⟩
      rw [← hkd] at y0
      have hb0' : bgD f k = kd:=by rw [hb0,hkd]; rfl
      rw [hb0'] at hset
      have hs2:=hE.set (6 + k) (.int .i64 (kd : Nat))
      rw [drC_b (esK_len f (k + 1)) (bsK_len f k) hlt,hset] at hs2
      have y:=hE.cell (6 + k) (drC_at (esK_len f (k + 1)) (bsK_len f k) hlt).2
      have zf:=hE.frz (6 + k)
      have HN : Hid (Bk (wr.setCell ⟨D,6 + k,none⟩ (.int .i64 (kd : Int))) D 164 (drC A (esK f (k + 1)) (bsK f (k + 1)) 0 0) ∧ Below w.heap.size w (wr.setCell ⟨D,6 + k,none⟩ (.int .i64 (kd : Int)))):=hide ⟨hs2,(uh hJ).2.setCell (p:=⟨D,6 + k,none⟩) hge _⟩
      rw [show opI (some j) = (j : Int) from rfl] at HBG hg
      have k1 : (0 : Int) ≤ (j : Int):=by omega
      have k2 : (j : Int) < (f.ow.length : Int):=by omega
      clear hF hE hbs hbg hck hbk hset hge hb hb0 hb0' hkd hs2 hJ
      go_wp2_with fail
      refine (uh HBG).mono ?_
      rintro e w3 ⟨rfl,rfl⟩
      go_wp2_with fail
      go_region
      go_wp2_with fail
      go_roundg (G - 1)
      case rel=>exact ⟨k + 1,by omega,by go_num,hide ⟨(uh HN).1.of_eq rfl,⟨(uh HN).2.os,(uh HN).2.tape,(uh HN).2.output,(uh HN).2.size,(uh HN).2.block⟩⟩⟩
      case measure=>omega
    | succ m =>
     have hzm : z = (m : Int):=by omega
     subst hzm
     have d0 : decide ((0 : Int) ≤ (m : Int)) = true:=by simp
     have xm:=hF.cls (i:=m) (by omega)
     have xk:=hF.cls (i:=k) (by omega)
     unfold clV at xm xk
     have hst:=eqK_step (f:=f) (i:=k) (k:=m) (by omega)
     obtain ⟨cm,hcm⟩ : ∃ c,c = f.cl.getD m 0:=⟨_,rfl⟩
     obtain ⟨ck,hck⟩ : ∃ c,c = f.cl.getD k 0:=⟨_,rfl⟩
     rw [← hcm] at xm hst
     rw [← hck] at xk hst
     have k1 : (0 : Int) ≤ (m : Int):=by omega
     have k2 : (m : Int) < 5:=by omega
     have hq0 : IntKind.i64.wrap ((m : Int) - 1) = (m : Int) - 1:=by rw [IntKind.wrap_i64]; omega
     by_cases hcc : cm = ck
     ·have d1 : ((cm : Int) == (ck : Int)) = true:=by simp [hcc]
      rw [if_pos hcc] at hst
      have hb2:=(uh hJ).1.set (1 + k) (.int .i64 (m : Nat))
      rw [drC_e (by rw [List.length_set,esK_len]) hlt,List.set_set] at hb2
      have y:=(uh hJ).1.cell (1 + k) (drC_at (by rw [List.length_set,esK_len]) (bsK_len f k) hlt).1
      have zf:=(uh hJ).1.frz (1 + k)
      have hge : w.heap.size ≤ D:=by rw [uh HDe]; exact Nat.le_refl _
      have HN : Hid (Bk (wr.setCell ⟨D,1 + k,none⟩ (.int .i64 (m : Int))) D 164 (drC A ((esK f k).set k (eqK f k m)) (bsK f k) 0 0) ∧ Below w.heap.size w (wr.setCell ⟨D,1 + k,none⟩ (.int .i64 (m : Int)))):=hide ⟨by rw [hst]; exact hb2,(uh hJ).2.setCell (p:=⟨D,1 + k,none⟩) hge _⟩
      clear hF hst hcm hck hcc hb2 hge hJ
      go_wp2_with fail
      go_quiet (fail)
      go_wp2_with fail
      go_roundg m
      case rel=>exact ⟨(m : Int) - 1,by omega,by omega,by go_num,hide ⟨(uh HN).1.of_eq rfl,⟨(uh HN).2.os,(uh HN).2.tape,(uh HN).2.output,(uh HN).2.size,(uh HN).2.block⟩⟩⟩
      case measure=>omega
     ·have d1 : ((cm : Int) == (ck : Int)) = false:=by simp; omega
      rw [if_neg hcc] at hst
      have HN : Hid (Bk wr D 164 (drC A ((esK f k).set k (eqK f k m)) (bsK f k) 0 0) ∧ Below w.heap.size w wr):=hide ⟨by rw [hst]; exact (uh hJ).1,(uh hJ).2⟩
      clear hF hst hcm hck hcc hJ
      go_wp2_with fail
      go_quiet (fail)
      go_wp2_with fail
      go_roundg m
      case rel=>exact ⟨(m : Int) - 1,by omega,by omega,by go_num,hide ⟨(uh HN).1.of_eq rfl,⟨(uh HN).2.os,(uh HN).2.tape,(uh HN).2.output,(uh HN).2.size,(uh HN).2.block⟩⟩⟩
      case measure=>omega
  ·have hd : decide ((k : Int) < (5 : Int)) = false:=by simp; omega
   have hk5 : k = 5:=by omega
   subst hk5
   rw [show ((5 : Nat) : Int) = (5 : Int) from rfl]
   have hF:=(uh H).below (uh hI).2
   have c6:=hF.c6
   obtain ⟨oa,oc,hov,-,-⟩:=own_slc hF.ow
   subst hov
   have HL0 : Hid (Bk wr D 164 (drC A (esK f 5) (bsK f 5) ((f.ow.take 0).countP (fun p=>decide (p.k = 3))) ((f.ow.take 0).countP (fun p=>!decide (p.k = 3)))) ∧ Below w.heap.size w wr):=hide ⟨(uh hI).1,(uh hI).2⟩
   clear hF hI
   go_wp2_with fail
   go_loopg [68] f.ow.length (fun gn iv wx=>∃ (m : Nat),m + gn = f.ow.length ∧ iv = .int .i64 m ∧ Hid (Bk wx D 164 (drC A (esK f 5) (bsK f 5) ((f.ow.take m).countP (fun p=>decide (p.k = 3))) ((f.ow.take m).countP (fun p=>!decide (p.k = 3)))) ∧ Below w.heap.size w wx))
   case atStart=>exact ⟨0,by omega,rfl,HL0⟩
   case round =>
    clear HL0 c6
    obtain ⟨m,hmn,rfl,hI⟩:=hrel
    obtain ⟨G2,hG2⟩ : ∃ G2,G2 = gk:=⟨_,rfl⟩
    have hF:=(uh H).below (uh hI).2
    by_cases hml : m < f.ow.length
    ·have hd2 : decide ((m : Int) < (f.ow.length : Int)) = true:=by simp; omega
     obtain ⟨go,gc,hgo,-,-⟩:=own_formP hF.ow hml
     simp only [Value.slice.injEq,true_and] at hgo
     obtain ⟨rfl,rfl⟩:=hgo
     obtain ⟨y0,y1,y2⟩:=own_cells hF.ow hml
     have hc1 : (f.ow.take (m + 1)).countP (fun p=>decide (p.k = 3)) = (f.ow.take m).countP (fun p=>decide (p.k = 3)) + (if (f.ow.getD m pr0).k = 3 then 1 else 0):=by
      rw [List.take_add_one,List.getElem?_eq_getElem hml,List.countP_append,getD_eq hml]
      by_cases e : f.ow[m].k = 3 <;> simp [e]
     have hc2 : (f.ow.take (m + 1)).countP (fun p=>!decide (p.k = 3)) = (f.ow.take m).countP (fun p=>!decide (p.k = 3)) + (if (f.ow.getD m pr0).k = 3 then 0 else 1):=by
      rw [List.take_add_one,List.getElem?_eq_getElem hml,List.countP_append,getD_eq hml]
      by_cases e : f.ow[m].k = 3 <;> simp [e]
     have hp1 : (f.ow.take m).countP (fun p=>decide (p.k = 3)) ≤ 24:=Nat.le_trans List.countP_le_length (by rw [List.length_take]; omega)
     have hp2 : (f.ow.take m).countP (fun p=>!decide (p.k = 3)) ≤ 24:=Nat.le_trans List.countP_le_length (by rw [List.length_take]; omega)
     obtain ⟨p,hp⟩ : ∃ p,p = f.ow.getD m pr0:=⟨_,rfl⟩
     rw [← hp] at y0 y1 y2 hc1 hc2
     obtain ⟨np,hnp⟩ : ∃ np,np = (f.ow.take m).countP (fun p=>decide (p.k = 3)):=⟨_,rfl⟩
     obtain ⟨nl,hnl⟩ : ∃ nl,nl = (f.ow.take m).countP (fun p=>!decide (p.k = 3)):=⟨_,rfl⟩
     rw [← hnp] at hI hc1 hp1
     rw [← hnl] at hI hc2 hp2
     obtain ⟨W1,hW1⟩ : ∃ W1,W1 = wr.alloc (.cells #[Value.int .i64 p.k,.int .i64 p.l,.int .i64 p.r] 103):=⟨_,rfl⟩
     have hbx : Below wr.heap.size wr W1:=by rw [hW1]; exact below_boxQ wr _
     have hXb : Bk W1 wr.heap.size 103 [Value.int .i64 p.k,.int .i64 p.l,.int .i64 p.r]:=by rw [hW1]; exact Bk.new wr _ _
     obtain ⟨X,hXe⟩ : ∃ X,X = wr.heap.size:=⟨_,rfl⟩
     rw [← hXe] at hXb
     have b0:=hXb.cell 0 rfl
     have hD1:=(uh hI).1.below hbx
     have hB1:=(uh hI).2.trans (hbx.mono (uh hI).2.size)
     have e11:=hD1.cell 11 (drC_pt (n:=0) (esK_len f 5) (bsK_len f 5)).2
     have e12:=hD1.cell 12 (drC_li (n:=0) (esK_len f 5) (bsK_len f 5)).2
     have z11:=hD1.frz 11
     have z12:=hD1.frz 12
     have hge : w.heap.size ≤ D:=by rw [uh HDe]; exact Nat.le_refl _
     have k1 : (0 : Int) ≤ (m : Int):=by omega
     have k2 : (m : Int) < (f.ow.length : Int):=by omega
     by_cases hk3 : p.k = 3
     ·have d3 : ((p.k : Int) == 3) = true:=by simp [hk3]
      rw [if_pos hk3] at hc1 hc2
      have hs:=hD1.set 11 (.int .i64 ((np + 1 : Nat) : Int))
      rw [(drC_pt (esK_len f 5) (bsK_len f 5)).1] at hs
      rw [show ((np + 1 : Nat) : Int) = (np : Int) + 1 by omega] at hs
      have HN : Hid (Bk (W1.setCell ⟨D,11,none⟩ (.int .i64 ((np : Int) + 1))) D 164 (drC A (esK f 5) (bsK f 5) ((f.ow.take (m + 1)).countP (fun p=>decide (p.k = 3))) ((f.ow.take (m + 1)).countP (fun p=>!decide (p.k = 3)))) ∧ Below w.heap.size w (W1.setCell ⟨D,11,none⟩ (.int .i64 ((np : Int) + 1)))):=hide ⟨by rw [hc1,hc2]; exact hs,hB1.setCell (p:=⟨D,11,none⟩) hge _⟩
      clear hF hI hc1 hc2 hp hnp hnl hbx hXb hD1 hB1 hs hge hk3
      go_upto_region 16 with fail
      rw [← hW1,← hXe]
      clear hW1 hXe
      go_wp2_with fail
      go_roundg (G2 - 1)
      case rel=>exact ⟨m + 1,by omega,by go_num,HN⟩
      case measure=>omega
     ·have d3 : ((p.k : Int) == 3) = false:=by simp; omega
      rw [if_neg hk3] at hc1 hc2
      have hs:=hD1.set 12 (.int .i64 ((nl + 1 : Nat) : Int))
      rw [(drC_li (esK_len f 5) (bsK_len f 5)).1] at hs
      rw [show ((nl + 1 : Nat) : Int) = (nl : Int) + 1 by omega] at hs
      have HN : Hid (Bk (W1.setCell ⟨D,12,none⟩ (.int .i64 ((nl : Int) + 1))) D 164 (drC A (esK f 5) (bsK f 5) ((f.ow.take (m + 1)).countP (fun p=>decide (p.k = 3))) ((f.ow.take (m + 1)).countP (fun p=>!decide (p.k = 3)))) ∧ Below w.heap.size w (W1.setCell ⟨D,12,none⟩ (.int .i64 ((nl : Int) + 1)))):=hide ⟨by rw [hc1,hc2]; exact hs,hB1.setCell (p:=⟨D,12,none⟩) hge _⟩
      clear hF hI hc1 hc2 hp hnp hnl hbx hXb hD1 hB1 hs hge hk3
      go_upto_region 16 with fail
      rw [← hW1,← hXe]
      clear hW1 hXe
      go_wp2_with fail
      go_roundg (G2 - 1)
      case rel=>exact ⟨m + 1,by omega,by go_num,HN⟩
      case measure=>omega
    ·have hd2 : decide ((m : Int) < (f.ow.length : Int)) = false:=by simp; omega
     have hte : f.ow.take m = f.ow:=List.take_of_length_le (by omega)
     rw [hte] at hI
     have HN:=hide (And.intro (uh hI).1 hF)
     clear hF hte
     go_wp2_with fail
     go_ret
     exact ⟨D,rfl,⟨(uh HN).1,(uh HN).2⟩,by rw [uh HDe]; exact Nat.le_refl _,(uh hI).2⟩
end
theorem ptD_le {f : CF} (h : FoOk f) : ptD f ≤ 24:=Nat.le_trans List.countP_le_length h.owLen
theorem liD_le {f : CF} (h : FoOk f) : liD f ≤ 24:=Nat.le_trans List.countP_le_length h.owLen
section
variable {w : World} {D A D' A' : Nat} {s t : CF} {av ov av' ov' : Value}
theorem IsD.pt (h : IsD w D A s av ov) : w.cell? ⟨D,11,none⟩ = some (.int .i64 (ptD s : Nat)):=h.bk.cell 11 (drC_pt (n:=0) (esK_len s 5) (bsK_len s 5)).2
theorem IsD.li (h : IsD w D A s av ov) : w.cell? ⟨D,12,none⟩ = some (.int .i64 (liD s : Nat)):=h.bk.cell 12 (drC_li (n:=0) (esK_len s 5) (bsK_len s 5)).2
theorem esK5 (f : CF) {i : Nat} (hi : i < 5) : (esK f 5).getD i 0 = eqD f i ∧ (bsK f 5).getD i 0 = bgD f i:=by
 have : i = 0 ∨ i = 1 ∨ i = 2 ∨ i = 3 ∨ i = 4:=by omega
 rcases this with rfl | rfl | rfl | rfl | rfl <;> exact ⟨rfl,rfl⟩
theorem IsD.eq (h : IsD w D A s av ov) {i : Nat} (hi : i < 5) : w.cell? ⟨D,1 + i,none⟩ = some (.int .i64 (eqD s i : Nat)):=by
 have:=h.bk.cell (1 + i) (drC_at (esK_len s 5) (bsK_len s 5) hi).1
 rwa [(esK5 s hi).1] at this
theorem IsD.bg (h : IsD w D A s av ov) {i : Nat} (hi : i < 5) : w.cell? ⟨D,6 + i,none⟩ = some (.int .i64 (bgD s i : Nat)):=by
 have:=h.bk.cell (6 + i) (drC_at (esK_len s 5) (bsK_len s 5) hi).2
 rwa [(esK5 s hi).2] at this
theorem IsD.fo (h : IsD w D A s av ov) : w.cell? ⟨D,0,none⟩ = some (.pointer (some ⟨A,0,none⟩)):=h.bk.cell 0 rfl
theorem IsD.of_eq {w' : World} (h : IsD w D A s av ov) (he : ∀ k ∈ D :: bsF A av ov,w'.heap[k]? = w.heap[k]?) : IsD w' D A s av ov:=⟨h.bk.of_eq (he D (by simp)),h.ff.of_eq (fun k hk=>he k (List.mem_cons_of_mem _ hk))⟩
theorem IsD.lt (h : IsD w D A s av ov) : ∀ k ∈ D :: bsF A av ov,k < w.heap.size:=fun k hk=>by
 rcases List.mem_cons.1 hk with rfl | hk
 ·exact h.bk.lt
 ·exact h.ff.lt k hk
theorem IsD.below {w' : World} (h : IsD w D A s av ov) (hb : Below w.heap.size w w') : IsD w' D A s av ov:=h.of_eq (fun k hk=>hb.block k (h.lt k hk))
set_option maxRecDepth 100000 in
set_option maxHeartbeats 4000000 in
theorem hasRoom_any (h : IsD w D A s av ov) (h' : IsD w D' A' t av' ov') (hO : FoOk s) (hO' : FoOk t) : Calls Tryz.prog 199 #[.pointer (some ⟨D,0,none⟩),.pointer (some ⟨D',0,none⟩)] w fun e w'=>e = .returned (.bool (roB s t)) ∧ ∃ n,w' = w.drewN n:=by
 have x1:=h.pt
 have x2:=h.li
 have y1:=h'.pt
 have y2:=h'.li
 have l1:=ptD_le hO
 have l2:=liD_le hO
 have l3:=ptD_le hO'
 have l4:=liD_le hO'
 obtain ⟨R,hR⟩ : ∃ R,R = roB s t:=⟨_,rfl⟩
 rw [← hR]
 unfold roB at hR
 obtain ⟨a,ha⟩ : ∃ a,a = ptD s:=⟨_,rfl⟩
 obtain ⟨b,hb⟩ : ∃ b,b = liD s:=⟨_,rfl⟩
 obtain ⟨c,hc⟩ : ∃ c,c = ptD t:=⟨_,rfl⟩
 obtain ⟨d,hd⟩ : ∃ d,d = liD t:=⟨_,rfl⟩
 rw [← ha] at x1 l1 hR
 rw [← hb] at x2 l2 hR
 rw [← hc] at y1 l3 hR
 rw [← hd] at y2 l4 hR
 have q1 : IntKind.i64.wrap ((c : Int) + (d : Int)) = (c : Int) + (d : Int):=by rw [IntKind.wrap_i64]; omega
 have q2 : IntKind.i64.wrap ((a : Int) + (b : Int)) = (a : Int) + (b : Int):=by rw [IntKind.wrap_i64]; omega
 have HR:=hide hR
 clear h h' hO hO' ha hb hc hd hR
 by_cases c1 : a < c
 ·have d1 : decide ((a : Int) < (c : Int)) = true:=by simp; omega
  have n1 : decide (a < c) = true:=by simpa using c1
  have HE : Hid (R = false):=hide (by rw [uh HR]; simp [c1])
  clear c1
  go_enter Tryz.func199,Tryz.ntmps199
  go_upto_region 1 with fail
  go_quiet (fail)
  go_wp2_with fail
  go_ret
  exact ⟨ret_bool (uh HE).symm,_,rfl⟩
 ·have d1 : decide ((a : Int) < (c : Int)) = false:=by simp; omega
  have n1 : decide (a < c) = false:=by simpa using c1
  by_cases c2 : a + b < c + d
  ·have d2 : decide ((a : Int) + (b : Int) < (c : Int) + (d : Int)) = true:=by simp; omega
   have n2 : decide (a + b < c + d) = true:=by simpa using c2
   have HE : Hid (R = false):=hide (by rw [uh HR]; simp [c2])
   clear c1 c2
   go_enter Tryz.func199,Tryz.ntmps199
   go_upto_region 1 with fail
   go_quiet (fail)
   go_wp2_with fail
   go_ret
   exact ⟨ret_bool (uh HE).symm,_,rfl⟩
  ·have d2 : decide ((a : Int) + (b : Int) < (c : Int) + (d : Int)) = false:=by simp; omega
   have n2 : decide (a + b < c + d) = false:=by simpa using c2
   have HR2 : Hid (R = (decide (0 < d) || (decide (b = 0) && decide (a = c)))):=hide (by rw [uh HR]; simp [c1,c2])
   clear c1 c2
   by_cases c3 : 0 < d
   ·have d3 : decide ((0 : Int) < (d : Int)) = true:=by simp; omega
    have n3 : decide (0 < d) = true:=by simpa using c3
    have HE : Hid (R = true):=hide (by rw [uh HR2]; simp [c3])
    clear c3
    go_enter Tryz.func199,Tryz.ntmps199
    go_upto_region 1 with fail
    go_quiet (fail)
    go_wp2_with fail
    go_quiet (fail)
    go_wp2_with fail
    go_ret
    exact ⟨ret_bool (uh HE).symm,_,World.drewN_drewN _ _ _⟩
   ·have d3 : decide ((0 : Int) < (d : Int)) = false:=by simp; omega
    have n3 : decide (0 < d) = false:=by simpa using c3
    by_cases c4 : b = 0
    ·have d4 : ((b : Int) == 0) = true:=by simp [c4]
     have HE : Hid (R = ((a : Int) == (c : Int))):=hide (by rw [uh HR2,nat_beq]; simp [c3,c4])
     clear c3 c4
     cases d5 : ((a : Int) == (c : Int))
     all_goals
      rw [d5] at HE
      go_enter Tryz.func199,Tryz.ntmps199
      go_upto_region 1 with fail
      go_quiet (fail)
      go_wp2_with fail
      go_quiet (fail)
      go_wp2_with fail
      go_ret
      exact ⟨ret_bool (uh HE).symm,_,World.drewN_drewN _ _ _⟩
    ·have d4 : ((b : Int) == 0) = false:=by simp; omega
     have HE : Hid (R = false):=hide (by rw [uh HR2]; simp [c3,c4])
     clear c3 c4
     go_enter Tryz.func199,Tryz.ntmps199
     go_upto_region 1 with fail
     go_quiet (fail)
     go_wp2_with fail
     go_quiet (fail)
     go_wp2_with fail
     go_ret
     exact ⟨ret_bool (uh HE).symm,_,World.drewN_drewN _ _ _⟩
theorem lkB_iff {s t : CF} : lkB s t = true ↔ ∀ i,i < 5 → lk1 s t i = true:=by
 unfold lkB
 simp only [Bool.and_eq_true]
 constructor
 ·rintro ⟨⟨⟨⟨a,b⟩,c⟩,d⟩,e⟩ i hi
  have : i = 0 ∨ i = 1 ∨ i = 2 ∨ i = 3 ∨ i = 4:=by omega
  rcases this with rfl | rfl | rfl | rfl | rfl <;> assumption
 ·intro h
  exact ⟨⟨⟨⟨h 0 (by omega),h 1 (by omega)⟩,h 2 (by omega)⟩,h 3 (by omega)⟩,h 4 (by omega)⟩
theorem lkB_no {s t : CF} {i : Nat} (hi : i < 5) (h : lk1 s t i = false) : lkB s t = false:=by
 cases hb : lkB s t with
 | false=>rfl
 | true=>have:=lkB_iff.1 hb i hi; rw [h] at this; cases this
set_option maxRecDepth 100000 in
set_option maxHeartbeats 8000000 in
theorem looksLike_any (h : IsD w D A s av ov) (h' : IsD w D' A' t av' ov') : Calls Tryz.prog 200 #[.pointer (some ⟨D,0,none⟩),.pointer (some ⟨D',0,none⟩)] w fun e w'=>e = .returned (.bool (lkB s t)) ∧ ∃ n,w' = w.drewN n:=by
 obtain ⟨R,hR⟩ : ∃ R,R = lkB s t:=⟨_,rfl⟩
 rw [← hR]
 have HR:=hide hR
 have H:=hide h
 have H':=hide h'
 have HI0 : Hid ((∃ n,w = w.drewN n) ∧ ∀ i,i < 0 → lk1 s t i = true):=hide ⟨⟨0,rfl⟩,fun i hi=>by omega⟩
 clear h h' hR
 go_enter Tryz.func200,Tryz.ntmps200
 go_wp2_with fail
 go_loopw [5] (fun iv wx=>∃ (k : Nat),k ≤ 5 ∧ iv = .int .i64 k ∧ Hid ((∃ n,wx = w.drewN n) ∧ ∀ i,i < k → lk1 s t i = true)) (fun iv _=>5 - (intOf iv).toNat)
 case atStart=>exact ⟨0,Nat.zero_le _,rfl,HI0⟩
 case round =>
  clear HI0
  obtain ⟨k,hk,rfl,hI⟩:=hrel
  obtain ⟨n0,hn0⟩:=(uh hI).1
  subst hn0
  by_cases hlt : k < 5
  ·have hd : decide ((k : Int) < (5 : Int)) = true:=by simp; omega
   have x1:=(uh H).eq hlt
   have y1:=(uh H').eq hlt
   have x2:=(uh H).bg hlt
   have y2:=(uh H').bg hlt
   have hel:=eqD_lt t hlt
   have x3:=(uh H).eq hel
   have hl1 : lk1 s t k = (decide (eqD s (eqD t k) = eqD s k) && !(decide (bgD t k = 3) && !decide (bgD s k = 3)) && !(decide (bgD t k = 4) && decide (bgD s k = 0))):=rfl
   obtain ⟨a,ha⟩ : ∃ a,a = eqD s k:=⟨_,rfl⟩
   obtain ⟨b,hb⟩ : ∃ b,b = eqD t k:=⟨_,rfl⟩
   obtain ⟨c,hc⟩ : ∃ c,c = bgD s k:=⟨_,rfl⟩
   obtain ⟨d,hdd⟩ : ∃ d,d = bgD t k:=⟨_,rfl⟩
   rw [← hb] at y1 hel x3 hl1
   obtain ⟨e,he⟩ : ∃ e,e = eqD s b:=⟨_,rfl⟩
   rw [← ha] at x1 hl1
   rw [← hc] at x2 hl1
   rw [← hdd] at y2 hl1
   rw [← he] at x3 hl1
   have HL:=hide hl1
   have HNo : Hid (lk1 s t k = false → R = false):=hide (fun h=>by rw [uh HR]; exact lkB_no hlt h)
   have i1 : (0 : Int) ≤ (k : Int):=by omega
   have i2 : (k : Int) < 5:=by omega
   have i3 : (0 : Int) ≤ (b : Int):=by omega
   have i4 : (b : Int) < 5:=by omega
   clear hl1 ha hb hc hdd he
   by_cases q1 : e = a
   ·have d1 : ((e : Int) != (a : Int)) = false:=by simp [q1]
    by_cases q2 : d = 3
    ·have d2 : ((d : Int) == 3) = true:=by simp [q2]
     have d4 : ((d : Int) == 4) = false:=by simp [q2]
     by_cases q3 : c = 3
     ·have d3 : ((c : Int) != 3) = false:=by simp [q3]
      have HY : Hid (lk1 s t k = true):=hide (by rw [uh HL]; simp [q1,q2,q3])
      clear q1 q2 q3
      go_wp2_with fail
      go_quiet (fail)
      go_wp2_with fail
      go_roundw
      case rel=>exact ⟨k + 1,by omega,by go_num,hide ⟨⟨_,rfl⟩,fun i hi=>by
       by_cases e : i = k
       ·rw [e]; exact uh HY
       ·exact (uh hI).2 i (by omega)⟩⟩
      case measure=>simp [intOf]; omega
     ·have d3 : ((c : Int) != 3) = true:=by rw [bne_iff_ne]; omega
      have HE : Hid (R = false):=hide (uh HNo (by rw [uh HL]; simp [q1,q2,q3]))
      clear q1 q2 q3
      go_wp2_with fail
      go_quiet (fail)
      go_wp2_with fail
      go_ret
      exact ⟨ret_bool (uh HE).symm,_,rfl⟩
    ·have d2 : ((d : Int) == 3) = false:=by simp; omega
     by_cases q4 : d = 4
     ·have d4 : ((d : Int) == 4) = true:=by simp [q4]
      by_cases q5 : c = 0
      ·have d5 : ((c : Int) == 0) = true:=by simp [q5]
       have HE : Hid (R = false):=hide (uh HNo (by rw [uh HL]; simp [q1,q4,q5]))
       clear q1 q2 q4 q5
       go_wp2_with fail
       go_quiet (fail)
       go_wp2_with fail
       go_ret
       exact ⟨ret_bool (uh HE).symm,_,rfl⟩
      ·have d5 : ((c : Int) == 0) = false:=by simp; omega
       have HY : Hid (lk1 s t k = true):=hide (by rw [uh HL]; simp [q1,q4,q5])
       clear q1 q2 q4 q5
       go_wp2_with fail
       go_quiet (fail)
       go_wp2_with fail
       go_roundw
       case rel=>exact ⟨k + 1,by omega,by go_num,hide ⟨⟨_,rfl⟩,fun i hi=>by
        by_cases e : i = k
        ·rw [e]; exact uh HY
        ·exact (uh hI).2 i (by omega)⟩⟩
       case measure=>simp [intOf]; omega
     ·have d4 : ((d : Int) == 4) = false:=by simp; omega
      have HY : Hid (lk1 s t k = true):=hide (by rw [uh HL]; simp [q1,q2,q4])
      clear q1 q2 q4
      go_wp2_with fail
      go_quiet (fail)
      go_wp2_with fail
      go_roundw
      case rel=>exact ⟨k + 1,by omega,by go_num,hide ⟨⟨_,rfl⟩,fun i hi=>by
       by_cases e : i = k
       ·rw [e]; exact uh HY
       ·exact (uh hI).2 i (by omega)⟩⟩
      case measure=>simp [intOf]; omega
   ·have d1 : ((e : Int) != (a : Int)) = true:=by rw [bne_iff_ne]; omega
    have HE : Hid (R = false):=hide (uh HNo (by rw [uh HL]; simp [q1]))
    clear q1
    go_wp2_with fail
    go_quiet (fail)
    go_wp2_with fail
    go_ret
    exact ⟨ret_bool (uh HE).symm,_,World.drewN_drewN _ _ _⟩
  ·have hd : decide ((k : Int) < (5 : Int)) = false:=by simp; omega
   have HE : Hid (R = true):=hide (by rw [uh HR]; exact lkB_iff.2 (fun i hi=>(uh hI).2 i (by omega)))
   go_wp2_with fail
   go_ret
   exact ⟨ret_bool (uh HE).symm,_,rfl⟩
end
theorem nWh_le (n : Nat) (l : List Pr) : nWh n l ≤ n:=by
 have h:=List.length_filter_le (fun i=>(l.getD i pr0).k == 4) (List.range n)
 rw [List.length_range] at h
 exact h
theorem prOf_lt {al : List Atm} (ht : TmOK al) {a : Atm} (ha : a ∈ al) : (prOf (mrg al) a).l < 24 ∧ (prOf (mrg al) a).r < 24:=by
 have h1:=mrg_lt ht (ht a ha).1
 have h2:=mrg_lt ht (ht a ha).2
 have e1 : (prOf (mrg al) a).l = (mrg al).getD (tm a).l 0:=rfl
 have e2 : (prOf (mrg al) a).r = (mrg al).getD (tm a).r 0:=rfl
 omega
theorem cf_rm {al : List Atm} (ht : TmOK al) : Rm (cfOf al):=by
 intro p hp
 obtain ⟨a,ha,rfl⟩:=List.mem_map.1 hp
 exact prOf_lt ht (List.mem_filter.1 ha).1
theorem cf_rmA {al : List Atm} (ht : TmOK al) : RmA (cfOf al):=by
 intro p hp
 obtain ⟨a,ha,rfl⟩:=List.mem_map.1 hp
 exact prOf_lt ht (List.mem_filter.1 ha).1
theorem cf_cl {al : List Atm} (ht : TmOK al) (i : Nat) (hi : i < 5) : (cfOf al).cl.getD i 0 < 24:=by
 rw [cl_at hi]
 have:=mrg_lt ht (i:=i) (by omega)
 omega
theorem cf_ow (al : List Atm) : (cfOf al).ow.length ≤ al.length:=by
 show (List.map _ _).length ≤ _
 rw [List.length_map]
 exact List.length_filter_le _ _
theorem fol_false {al bl : List Atm} (h : falB (cfOf al) = true) : fol al bl = (false,7):=by unfold fol; rw [if_pos h]
theorem fol_none {al bl : List Atm} (h : falB (cfOf al) = false) (h2 : drp (cfOf al) (cfOf bl) [0,1,2,3,4] (List.replicate 24 none) = none) : fol al bl = (false,0):=by unfold fol; rw [if_neg (by rw [h]; decide),h2]
theorem fol_some {al bl : List Atm} {an : List (Option Nat)} (h : falB (cfOf al) = false) (h2 : drp (cfOf al) (cfOf bl) [0,1,2,3,4] (List.replicate 24 none) = some an) : fol al bl = ((alw (cfOf al) (cfOf bl) an ((cfOf al).ow.length + 1) 262144 (cfOf al).ow).1,0):=by unfold fol; rw [if_neg (by rw [h]; decide),h2]
def srch (A A' : Nat) : Array Value:=#[Value.pointer (some ⟨A,0,none⟩),Value.pointer (some ⟨A',0,none⟩),Value.int IntKind.i64 0,Value.int IntKind.i64 0,Value.int IntKind.i64 0,Value.int IntKind.i64 0,Value.int IntKind.i64 0,Value.int IntKind.i64 0,Value.int IntKind.i64 0,Value.int IntKind.i64 0,Value.int IntKind.i64 0,Value.int IntKind.i64 0,Value.int IntKind.i64 0,Value.int IntKind.i64 0,Value.int IntKind.i64 0,Value.int IntKind.i64 0,Value.int IntKind.i64 0,Value.int IntKind.i64 0,Value.int IntKind.i64 0,Value.int IntKind.i64 0,Value.int IntKind.i64 0,Value.int IntKind.i64 0,Value.int IntKind.i64 0,Value.int IntKind.i64 0,Value.int IntKind.i64 0,Value.int IntKind.i64 0,Value.int IntKind.i64 0,Value.int IntKind.i64 0,Value.int IntKind.i64 0,Value.int IntKind.i64 0,Value.int IntKind.i64 0,Value.int IntKind.i64 0,Value.int IntKind.i64 0,Value.int IntKind.i64 0,Value.int IntKind.i64 0,Value.int IntKind.i64 0,Value.int IntKind.i64 0,Value.int IntKind.i64 0,Value.int IntKind.i64 0,Value.int IntKind.i64 0,Value.int IntKind.i64 0,Value.int IntKind.i64 0,Value.int IntKind.i64 0,Value.int IntKind.i64 0,Value.int IntKind.i64 0,Value.int IntKind.i64 0,Value.int IntKind.i64 0,Value.int IntKind.i64 0,Value.int IntKind.i64 0,Value.int IntKind.i64 0,Value.pointer none,Value.slice none 0 0,Value.int IntKind.i64 0,Value.slice none 0 0,Value.int IntKind.i64 262144]
theorem new_search (w : World) (A A' : Nat) : Sn (w.alloc (.cells (srch A A') 72)) w.heap.size A A' 262144 (List.replicate 24 (.int .i64 0)) (List.replicate 24 (.int .i64 0) ++ [.pointer none,.slice none 0 0,.int .i64 0,.slice none 0 0,.int .i64 262144]) :=
 ⟨World.ownsRow_lit (base:=0) (e:=72) (size:=55) w (srch A A') 1 (Nat.zero_le _) (by simp [maxLen]) rfl,by simp,_,_,_,_,_,rfl,by simp⟩
set_option maxRecDepth 100000 in
set_option maxHeartbeats 8000000 in
theorem follows_any {w : World} {B B' : Nat} {sv tv : Value} {al bl : List Atm} (h : w.ownsRow B 100 5 sv al.length (atCells al)) (h' : w.ownsRow B' 100 5 tv bl.length (atCells bl)) (ht : TmOK al) (ht' : TmOK bl) (hal : al.length ≤ 300) (hbl : bl.length ≤ 300)
  (hb : ∀ a ∈ al,a.lk ≤ 2 ∧ a.rk ≤ 2 ∧ a.li ≤ 100 ∧ a.ri ≤ 100) (hb' : ∀ a ∈ bl,a.lk ≤ 2 ∧ a.rk ≤ 2 ∧ a.li ≤ 100 ∧ a.ri ≤ 100) :
  Calls Tryz.prog 12 #[sv,tv] w fun e w'=>e = .returned (.tuple #[.bool (fol al bl).1,.int .i64 (fol al bl).2]) ∧ Below w.heap.size w w':=by
 have HO1:=hide (of_any h ht (by omega) hb)
 have HR2:=hide h'
 obtain ⟨F,hF⟩ : ∃ F,F = cfOf al:=⟨_,rfl⟩
 obtain ⟨T,hT⟩ : ∃ T,T = cfOf bl:=⟨_,rfl⟩
 have HF0:=hide hF
 have HT0:=hide hT
 have HRm:=hide (cf_rm ht)
 have HRm':=hide (cf_rm ht')
 have HRa':=hide (cf_rmA ht')
 have HCl:=hide (cf_cl ht)
 have HCl':=hide (cf_cl ht')
 have HLo:=hide (cf_ow al)
 have HLo':=hide (cf_ow bl)
 have HT':=hide ht'
 have HB':=hide hb'
 rw [← hF] at HO1 HRm HCl HLo
 rw [← hT] at HRm' HRa' HCl' HLo'
 clear h h' hF hT ht ht' hb hb'
 go_enter Tryz.func12,Tryz.ntmps12
 go_wp2_with fail
 refine (uh HO1).mono ?_
 rintro e w1 ⟨A,fav,fov,rfl,hIF,hfr,hb1⟩
 have HIF:=hide hIF
 have HFr:=hide hfr
 have HB1:=hide hb1
 clear hIF hfr hb1 HO1
 go_wp2_with fail
 refine (false_any (uh HIF) (uh HRm) (uh HCl 0 (by omega))).mono ?_
 rintro e w2 ⟨rfl,hb2⟩
 have HIF2:=hide ((uh HIF).of_eq (fun k hk=>hb2.block k ((uh HIF).lt k hk)))
 have HB2:=hide ((uh HB1).trans (hb2.mono (uh HB1).size))
 clear hb2 HIF HB1
 by_cases hfl : falB F = true
 ·have HE : Hid (fol al bl = (false,7)):=hide (fol_false (by rw [← uh HF0]; exact hfl))
  go_wp2_with fail
  go_ret2
  exact ⟨by rw [uh HE]; rfl,uh HB2⟩
 ·have hfl' : falB F = false:=by simpa using hfl
  have HO2:=hide (of_any (rowB (uh HR2) ⟨(uh HB2).os,(uh HB2).tape,(uh HB2).output,(uh HB2).size,(uh HB2).block⟩) (uh HT') (by omega) (uh HB'))
  go_wp2_with fail
  refine (uh HO2).mono ?_
  rintro e w3 ⟨A',tav,tov,rfl,hIT,hfr',hb3⟩
  rw [← uh HT0] at hIT
  have HIF3:=hide ((uh HIF2).of_eq (fun k hk=>hb3.block k ((uh HIF2).lt k hk)))
  have HB3:=hide ((uh HB2).trans (hb3.mono (uh HB2).size))
  have HIT3:=hide hIT
  have HFr':=hide hfr'
  clear hb3 hIT hfr' HIF2 HB2 HO2
  go_wp2_with fail
  have hlt:=(uh HIF3).lt
  have hlt':=(uh HIT3).lt
  have HNf : Hid (∀ k ∈ bsF A fav fov,k ≠ w3.heap.size):=hide (fun k hk=>by have:=hlt k hk; omega)
  have HNt : Hid (∀ k ∈ bsF A' tav tov,k ≠ w3.heap.size):=hide (fun k hk=>by have:=hlt' k hk; omega)
  clear hlt hlt'
  refine (drop_any (F:=F) (T:=T) (new_search w3 A A') ((uh HIF3).alloc _) ((uh HIT3).alloc _) (uh HNf) (uh HNt) (uh HCl')).mono ?_
  rintro e w4 ⟨rfl,hsq,hst⟩
  have HB4:=hide (((Stp.refl [w3.heap.size] w3).alloc _).trans hst |>.below (Nat.le_refl _) (by simp))
  have HIF4:=hide (((uh HIF3).alloc (.cells (srch A A') 72)).of_eq (fun k hk=>hst.blk k (((uh HIF3).alloc _).lt k hk) (uh HNf k hk)))
  have HIT4:=hide (((uh HIT3).alloc (.cells (srch A A') 72)).of_eq (fun k hk=>hst.blk k (((uh HIT3).alloc _).lt k hk) (uh HNt k hk)))
  have HSQ:=hide hsq
  clear hsq hst HIF3 HIT3
  cases hdr : drp F T [0,1,2,3,4] (List.replicate 24 none) with
  | none =>
   have HE : Hid (fol al bl = (false,0)):=hide (fol_none (by rw [← uh HF0]; exact hfl') (by rw [← uh HF0,← uh HT0]; exact hdr))
   rw [hdr] at HSQ
   clear HSQ
   go_wp2_with fail
   go_ret2
   exact ⟨by rw [uh HE]; rfl,(uh HB3).trans ((uh HB4).mono (uh HB3).size)⟩
  | some an =>
   have HE:=hide (fol_some (by rw [← uh HF0]; exact hfl') (by rw [← uh HF0,← uh HT0]; exact hdr) : fol al bl = _)
   rw [← uh HF0,← uh HT0] at HE
   have c6:=(uh HIF4).c6
   have hAl : Al w4 w3.heap.size A A' an F T fav fov tav tov 262144 F.ow fov:=by
    refine ⟨⟨uh HSQ an hdr,uh HIF4,uh HIT4,uh HNf,uh HNt⟩,(uh HIF4).ow,fun k hk=>uh HNf k (by simp [bsF,hk]),Nat.le_refl _,?_⟩
    have h1:=nWh_le F.ow.length F.ow
    have h2:=uh HLo
    omega
   have HA:=hide (always_all (F:=F) (T:=T) (an:=an) (uh HRm') (uh HRa') (by have:=uh HLo'; omega) (F.ow.length + 1) w4 w3.heap.size A A' fav fov tav tov 262144 F.ow fov hAl (by have:=nWh_le F.ow.length F.ow; omega))
   clear hAl HSQ hdr
   go_wp2_with fail
   refine (uh HA).mono ?_
   rintro e w5 ⟨rfl,-,hst5⟩
   have HB5 : Hid (Below w3.heap.size w3 w5):=hide ⟨hst5.os.trans (uh HB4).os,hst5.tape.trans (uh HB4).tape,hst5.output.trans (uh HB4).output,Nat.le_trans (uh HB4).size hst5.size,fun k hk=>(hst5.blk k (Nat.lt_of_lt_of_le hk (uh HB4).size) (by omega)).trans ((uh HB4).block k hk)⟩
   clear hst5
   go_wp2_with fail
   go_ret2
   exact ⟨by rw [uh HE]; rfl,(uh HB3).trans ((uh HB5).mono (uh HB3).size)⟩
def srchS (A A' : Nat) : Array Value:=(#[Value.pointer (some ⟨A,0,none⟩),Value.pointer (some ⟨A',0,none⟩)].toList ++ (List.replicate 48 (Value.int .i64 0) ++ [Value.pointer none,Value.slice none 0 0,Value.int .i64 0,Value.slice none 0 0,Value.int .i64 128])).toArray
theorem new_searchS (w : World) (A A' : Nat) : Sn (w.alloc (.cells (srchS A A') 72)) w.heap.size A A' 128 (List.replicate 24 (.int .i64 0)) (List.replicate 24 (.int .i64 0) ++ [.pointer none,.slice none 0 0,.int .i64 0,.slice none 0 0,.int .i64 128]) :=
 ⟨World.ownsRow_lit (base:=0) (e:=72) (size:=55) w (srchS A A') 1 (Nat.zero_le _) (by simp [maxLen]) rfl,by simp,_,_,_,_,_,rfl,by simp⟩
section
variable {w : World} {D A D' A' : Nat} {s t : CF} {av ov av' ov' : Value}
set_option maxRecDepth 100000 in
set_option maxHeartbeats 8000000 in
theorem within_any (h : IsD w D A s av ov) (h' : IsD w D' A' t av' ov') (hT : Td s) (hT' : Td t) : Calls Tryz.prog 156 #[.pointer (some ⟨D,0,none⟩),.pointer (some ⟨D',0,none⟩)] w fun e w'=>e = .returned (.bool (wiB s t)) ∧ Below w.heap.size w w':=by
 have HHR : Hid (∀ m : Nat,Calls Tryz.prog 199 #[.pointer (some ⟨D,0,none⟩),.pointer (some ⟨D',0,none⟩)] (w.drewN m) fun e w'=>e = .returned (.bool (roB s t)) ∧ ∃ j,w' = w.drewN j):=hide (fun m=>(hasRoom_any (w:=w.drewN m) (h.of_eq (fun _ _=>rfl)) (h'.of_eq (fun _ _=>rfl)) hT.ok hT'.ok).mono (fun e w' hw=>⟨hw.1,by obtain ⟨n,rfl⟩:=hw.2; exact ⟨_,World.drewN_drewN _ _ _⟩⟩))
 have HLL : Hid (∀ m : Nat,Calls Tryz.prog 200 #[.pointer (some ⟨D,0,none⟩),.pointer (some ⟨D',0,none⟩)] (w.drewN m) fun e w'=>e = .returned (.bool (lkB s t)) ∧ ∃ j,w' = w.drewN j):=hide (fun m=>(looksLike_any (w:=w.drewN m) (h.of_eq (fun _ _=>rfl)) (h'.of_eq (fun _ _=>rfl))).mono (fun e w' hw=>⟨hw.1,by obtain ⟨n,rfl⟩:=hw.2; exact ⟨_,World.drewN_drewN _ _ _⟩⟩))
 have hwi : wiB s t = (roB s t && lkB s t && (match drp s t [0,1,2,3,4] (List.replicate 24 none) with | none=>false | some an=>(fit s t an 128).1)):=rfl
 obtain ⟨R,hR⟩ : ∃ R,R = wiB s t:=⟨_,rfl⟩
 rw [← hR]
 rw [← hR] at hwi
 have HW:=hide hwi
 have H:=hide h
 have H':=hide h'
 have HT:=hide hT
 have HT':=hide hT'
 have f1:=h.fo
 have f2:=h'.fo
 clear h h' hT hT' hwi hR
 go_enter Tryz.func156,Tryz.ntmps156
 go_wp2_with fail
 refine (uh HHR 0).mono ?_
 rintro e w1 ⟨rfl,n1,rfl⟩
 cases hro : roB s t
 ·have HE : Hid (R = false):=hide (by rw [uh HW,hro]; rfl)
  clear hro
  go_wp2_with fail
  go_ret
  exact ⟨ret_bool (uh HE).symm,bw_drewN _ _⟩
 ·go_wp2_with fail
  refine (uh HLL n1).mono ?_
  rintro e w2 ⟨rfl,n2,rfl⟩
  cases hlk : lkB s t
  ·have HE : Hid (R = false):=hide (by rw [uh HW,hro,hlk]; rfl)
   clear hro hlk
   go_wp2_with fail
   go_ret
   exact ⟨ret_bool (uh HE).symm,bw_drewN _ _⟩
  ·have HE : Hid (R = (match drp s t [0,1,2,3,4] (List.replicate 24 none) with | none=>false | some an=>(fit s t an 128).1)):=hide (by rw [uh HW,hro,hlk]; rfl)
   clear hro hlk
   go_wp2_with fail
   go_region
   obtain ⟨W,hW⟩ : ∃ W,W = w.drewN (n2 + 1):=⟨_,rfl⟩
   rw [← hW]
   have hbW : Below w.heap.size w W:=by rw [hW]; exact bw_drewN w _
   have hsz : W.heap.size = w.heap.size:=by rw [hW]; rfl
   have h1:=(uh H).below hbW
   have h1':=(uh H').below hbW
   have HNf : Hid (∀ k ∈ bsF A av ov,k ≠ W.heap.size):=hide (fun k hk=>by have:=h1.ff.lt k hk; omega)
   have HNt : Hid (∀ k ∈ bsF A' av' ov',k ≠ W.heap.size):=hide (fun k hk=>by have:=h1'.ff.lt k hk; omega)
   have HDn : Hid (D ≠ W.heap.size):=hide (by have:=h1.bk.lt; omega)
   have HBW:=hide hbW
   have HI:=hide h1
   have HI':=hide h1'
   rw [show w.heap.size = W.heap.size from hsz.symm]
   clear hW hbW hsz h1 h1' f1 f2
   go_wp2_with fail
   refine (drop_any (F:=s) (T:=t) (new_searchS W A A') ((uh HI).ff.alloc _) ((uh HI').ff.alloc _) (uh HNf) (uh HNt) (fun i _=>(uh HT').ok.get i)).mono ?_
   rintro e w4 ⟨rfl,hsq,hst⟩
   have hb4 : Below W.heap.size W w4:=((Stp.refl [W.heap.size] W).alloc _).trans hst |>.below (Nat.le_refl _) (by simp)
   have HB4:=hide hb4
   have hI4 : IsD w4 D A s av ov:=((uh HI).below (below_boxQ W (.cells (srchS A A') 72))).of_eq (fun k hk=>hst.blk k (Nat.lt_of_lt_of_le ((uh HI).lt k hk) (below_boxQ W _).size) (by
    rcases List.mem_cons.1 hk with rfl | hk
    ·exact uh HDn
    ·exact uh HNf k hk))
   have hF4 : IsF w4 A' t av' ov':=((uh HI').ff.alloc (.cells (srchS A A') 72)).of_eq (fun k hk=>hst.blk k (((uh HI').ff.alloc _).lt k hk) (uh HNt k hk))
   have HSQ:=hide hsq
   have HI4:=hide hI4
   have HF4:=hide hF4
   clear hsq hst hb4 hI4 hF4 HI HI'
   cases hdr : drp s t [0,1,2,3,4] (List.replicate 24 none) with
   | none =>
    rw [hdr] at HE HSQ
    have HE2 : Hid (R = false):=hide (uh HE)
    clear HSQ HE hdr
    go_wp2_with fail
    go_ret
    exact ⟨ret_bool (uh HE2).symm,(uh HBW).trans ((uh HB4).mono (uh HBW).size)⟩
   | some an =>
    rw [hdr] at HE
    have HE2 : Hid (R = (fit s t an 128).1):=hide (uh HE)
    have f0:=(uh HI4).fo
    have c6:=(uh HI4).ff.c6
    have hSe : Se w4 W.heap.size A A' an s t av ov av' ov' 128:=⟨uh HSQ an hdr,(uh HI4).ff,uh HF4,uh HNf,uh HNt⟩
    have hol:=(uh HT).ok.owLen
    have hol':=(uh HT').ok.owLen
    have HFI:=hide (fits_any hSe (uh HI4).ff.ow (fun k hk=>uh HNf k (by simp [bsF,hk])) (by omega) (by omega) (uh HT').ok.ow (uh HT').ok.ap)
    obtain ⟨oa,oc,hov,-,-⟩:=own_slc (uh HI4).ff.ow
    subst hov
    clear hSe HSQ hdr HE
    go_wp2_with fail
    refine (uh HFI).mono ?_
    rintro e w5 ⟨rfl,v5,ov5,pv5,-,hs5,-⟩
    have HB5 : Hid (Below W.heap.size W w5):=hide ⟨hs5.os.trans (uh HB4).os,hs5.tape.trans (uh HB4).tape,hs5.output.trans (uh HB4).output,Nat.le_trans (uh HB4).size hs5.size,fun k hk=>(hs5.block k (Nat.lt_of_lt_of_le hk (uh HB4).size) (by simp; omega)).trans ((uh HB4).block k hk)⟩
    clear hs5 HFI
    go_wp2_with fail
    go_ret
    exact ⟨ret_bool (by rw [uh HE2]; rfl),(uh HBW).trans ((uh HB5).mono (uh HBW).size)⟩
end
theorem lay24 (w : World) (f : CF) : ∃ M,M = blC (rcA f) ∧ M.length = 24 ∧ (w.alloc (.cells (blC (List.replicate 24 false)).toArray 104)).there w.heap.size 0 M.toArray.size ∧ (Tryz.prog.info? 104).map (·.size) = some M.toArray.size ∧ M.toArray.all (·.oneCell') = true ∧
  Ob ((w.alloc (.cells (blC (List.replicate 24 false)).toArray 104)).setCells w.heap.size 0 M) 104 24 w.heap.size (blC (rcA f)) ∧ Below w.heap.size w ((w.alloc (.cells (blC (List.replicate 24 false)).toArray 104)).setCells w.heap.size 0 M):=by
 have hml : (blC (rcA f)).length = 24:=by simp [blC,rcA]
 have hX:=f24_ob w
 refine ⟨blC (rcA f),rfl,hml,?_,?_,?_,?_,?_⟩
 ·intro j hj
  rw [List.size_toArray,hml] at hj
  obtain ⟨⟨u,hu⟩,hz⟩:=hX.some (j:=j) hj
  rw [Nat.zero_add]
  exact ⟨by rw [hu]; rfl,hz⟩
 ·rw [List.size_toArray,hml]; exact Tryz.infoB24
 ·exact all_oneCell_toArray (by
   intro v hv
   obtain ⟨o,_,rfl⟩:=List.mem_map.1 hv
   rfl)
 ·have h5:=Ob.setCells (blC (rcA f)) 0 hX
  have hsl:=setL_mid (blC (rcA f)) [] (blC (List.replicate 24 false)) [] (by rw [hml]; rfl)
  simp only [List.nil_append,List.append_nil,List.length_nil] at hsl
  rw [hsl] at h5
  exact h5
 ·have hB5 : ∀ (vs : List Value) (o : Nat) (x : World),Below w.heap.size w x → Below w.heap.size w (x.setCells w.heap.size o vs):=by
   intro vs
   induction vs with
   | nil=>intro o x h; exact h
   | cons v r ih=>intro o x h; exact ih (o + 1) _ (h.setCell (Nat.le_refl _) v)
  exact hB5 _ 0 _ (below_boxQ w _)
theorem rcA_get (f : CF) {c : Nat} (hc : c < 24) : (rcA f).getD c false = decide (c ∈ rcL f):=by
 unfold rcA
 rw [List.getD_eq_getElem?_getD,List.getElem?_map,List.getElem?_range hc]
 rfl
theorem rcA_len (f : CF) : (rcA f).length = 24:=by simp [rcA]
def loK (f : CF) (k : Nat) : List Nat:=(List.range k).filter (fun i=>!decide ((owA f i).l ∈ rcL f))
theorem loK_step (f : CF) (k : Nat) : loK f (k + 1) = loK f k ++ (if (owA f k).l ∈ rcL f then [] else [k]):=by
 unfold loK
 rw [List.range_succ,List.filter_append]
 congr 1
 by_cases h : (owA f k).l ∈ rcL f <;> simp [h]
theorem loK_len (f : CF) (k : Nat) : (loK f k).length ≤ k:=by
 unfold loK
 exact Nat.le_trans (List.length_filter_le _ _) (by simp)
section
variable {w : World} {A : Nat} {f : CF} {av ov : Value}
set_option maxRecDepth 100000 in
set_option maxHeartbeats 8000000 in
theorem lost_any (h : IsF w A f av ov) (hO : FoOk f) : Calls Tryz.prog 111 #[.pointer (some ⟨A,0,none⟩)] w fun e w'=>∃ v,e = .returned v ∧ w'.ownsRow w.heap.size 3 1 v (loL f).length (natV (loL f)) ∧ Below w.heap.size w w':=by
 obtain ⟨i0,hi0,hz0,hz1,hz2⟩:=info_parts Tryz.infoInt
 have hol:=hO.owLen
 have HRE:=hide (reached_any h hO)
 have H:=hide h
 have HO:=hide hO
 clear h hO
 go_enter Tryz.func111,Tryz.ntmps111
 go_wp2_with fail
 refine (uh HRE).mono ?_
 rintro e w1 ⟨rfl,hb1⟩
 obtain ⟨M,hM,hml,hTh,hI2,hOn,hOb,hbl⟩:=lay24 w1 f
 rw [← hM]
 have HTh:=hide hTh
 have HI2:=hide hI2
 have HOn:=hide hOn
 obtain ⟨X,hXe⟩ : ∃ X,X = w1.heap.size:=⟨_,rfl⟩
 obtain ⟨W2,hW2⟩ : ∃ W2,W2 = (w1.alloc (.cells (blC (List.replicate 24 false)).toArray 104)).setCells w1.heap.size 0 M:=⟨_,rfl⟩
 rw [← hW2] at hOb hbl
 rw [← hXe] at hOb
 have hb2:=hb1.trans (hbl.mono hb1.size)
 have HOb:=hide hOb
 have HB2:=hide hb2
 have HXw : Hid (w.heap.size ≤ X):=hide (by rw [hXe]; exact hb1.size)
 clear hTh hI2 hOn hOb hbl hb1 hb2 hM HRE
 simp only [blC,List.replicate,List.map_cons,List.map_nil] at hW2
 go_upto_region 2 with (refine wpList_store_mid rfl 104 (.tmp 3) (.tmp 7) rfl _ 0 M.toArray rfl rfl (uh HTh) (uh HI2) (uh HOn) ?_)
 rw [← hW2,← hXe]
 clear hW2 hXe HTh HI2 HOn hml
 have HR0 : Hid ((W2.alloc (.cells #[] 3)).ownsRow w.heap.size 3 1 (.slice (some ⟨W2.heap.size,0,none⟩) 0 0) (loK f 0).length (natV (loK f 0)) ∧ Below W2.heap.size W2 (W2.alloc (.cells #[] 3))):=hide ⟨own_le (World.ownsRow_lit (base:=W2.heap.size) (e:=3) (size:=1) W2 #[] 0 (Nat.le_refl _) (by simp [maxLen]) rfl) (uh HB2).size,below_boxQ W2 _⟩
 go_wp2_with fail
 go_loopg [4,5] f.ow.length (fun gn lv iv wx=>∃ (k : Nat),k + gn = f.ow.length ∧ iv = .int .i64 k ∧ Hid (wx.ownsRow w.heap.size 3 1 lv (loK f k).length (natV (loK f k)) ∧ Below W2.heap.size W2 wx ∧ ∀ j,lv.ownBlock = some j → W2.heap.size ≤ j))
 case atStart=>exact ⟨0,by omega,rfl,hide ⟨(uh HR0).1,(uh HR0).2,fun j hj=>by simp only [Value.ownBlock,Option.some.injEq] at hj; omega⟩⟩
 case round =>
  clear HR0
  obtain ⟨k,hkn,rfl,hI⟩:=hrel
  obtain ⟨G,hG⟩ : ∃ G,G = gk:=⟨_,rfl⟩
  obtain ⟨la,lc,hlv,-,-⟩:=own_slc (uh hI).1
  subst hlv
  have hF:=((uh H).below (uh HB2)).below (uh hI).2.1
  have hob:=(uh HOb).of_eq (w':=wr) ((uh hI).2.1.block X (World.ownsRow.lt (uh HOb) X rfl).2)
  have c6:=hF.c6
  obtain ⟨oa,oc,hov,-,-⟩:=own_slc hF.ow
  subst hov
  by_cases hlt : k < f.ow.length
  ·have hd : decide ((k : Int) < (f.ow.length : Int)) = true:=by simp; omega
   obtain ⟨go,gc,hgo,-,-⟩:=own_formP hF.ow hlt
   simp only [Value.slice.injEq,true_and] at hgo
   obtain ⟨rfl,rfl⟩:=hgo
   obtain ⟨-,y1,-⟩:=own_cells hF.ow hlt
   have hpl:=((uh HO).ow _ (mem_getD hlt)).1
   have hst:=loK_step f k
   have hoe : owA f k = f.ow.getD k pr0:=rfl
   rw [hoe] at hst
   obtain ⟨p,hp⟩ : ∃ p,p = f.ow.getD k pr0:=⟨_,rfl⟩
   rw [← hp] at y1 hpl hst
   have d1:=(World.ownsRow.cellAt hob p.l (by omega)).trans (blC_get (by rw [rcA_len]; exact hpl))
   rw [rcA_get f hpl] at d1
   have i1 : (0 : Int) ≤ (k : Int):=by omega
   have i2 : (k : Int) < (f.ow.length : Int):=by omega
   have i3 : (p.l : Int) < 24:=by omega
   have hlen:=loK_len f k
   by_cases hm : p.l ∈ rcL f
   ·rw [show decide (p.l ∈ rcL f) = true by simpa using hm] at d1
    rw [if_pos hm,List.append_nil] at hst
    have HN : Hid (wr.ownsRow w.heap.size 3 1 (.slice la (loK f k).length lc) (loK f (k + 1)).length (natV (loK f (k + 1))) ∧ Below W2.heap.size W2 wr ∧ ∀ j,(Value.slice la (loK f k).length lc).ownBlock = some j → W2.heap.size ≤ j):=hide (by rw [hst]; exact uh hI)
    clear hF hob hp hst hoe hm hI
    go_wp2_with fail
    go_roundg (G - 1)
    case rel=>exact ⟨k + 1,by omega,by go_num,HN⟩
    case measure=>omega
   ·rw [show decide (p.l ∈ rcL f) = false by simpa using hm] at d1
    rw [if_neg hm] at hst
    have HR:=hide (uh hI).1
    have HBR:=hide (uh hI).2
    have HST:=hide hst
    have hszz:=(uh HB2).size
    have hsz2:=(uh hI).2.1.size
    obtain ⟨L,hL⟩ : ∃ L,L = loK f k:=⟨_,rfl⟩
    rw [← hL] at HR HBR HST hlen hI ⊢
    clear hF hob hp hst hoe hm hI hL
    go_wp2_with (at_builtin; refine wpList_app1 _ rfl (.tmp 29) (.tmp 31) 36 rfl w.heap.size 3 i0 _ 1 8 Tryz.underlying36 hi0 hz0 hz1 hz2 rfl (by decide) _ L.length (natV L) rfl ((uh HR).alloc _) ⟨_,0,none⟩ 1 [.int .i64 (k : Int)] rfl rfl (new_cells _ _ (by simp) [.int .i64 (k : Int)] _) (by intro u hu; simp only [List.mem_singleton] at hu; subst hu; rfl) (by omega) (by omega) (by simp; omega) ?_)
    intro g4 cap4 w4 hown4 hgrow4 hblk4
    have HN : Hid (w4.ownsRow w.heap.size 3 1 (.slice (some ⟨g4,0,none⟩) (L.length + 1) cap4) (loK f (k + 1)).length (natV (loK f (k + 1))) ∧ Below W2.heap.size W2 w4 ∧ ∀ j,(Value.slice (some ⟨g4,0,none⟩) (L.length + 1) cap4).ownBlock = some j → W2.heap.size ≤ j):=hide ⟨by
     rw [uh HST,List.length_append,List.length_singleton]
     show w4.ownsRow _ _ _ _ _ (List.map _ (L ++ [k]))
     rw [List.map_append]
     exact hown4,by
     have hb:=(uh HBR).1.alloc (uh HBR).1.size (.cells #[.int .i64 (k : Int)] 3)
     exact hb.grown hgrow4 hb.size (fun q hq=>(uh HBR).2 q hq),fun j hj=>by
     have e : j = g4:=by simpa [Value.ownBlock,eq_comm] using hj
     subst e
     rcases hblk4 with q | q
     ·exact (uh HBR).2 j q.symm
     ·omega⟩
    clear hown4 hgrow4 hblk4 HR HBR
    go_wp2_with fail
    go_roundg (G - 1)
    case rel=>exact ⟨k + 1,by omega,by go_num,HN⟩
    case measure=>omega
  ·have hd : decide ((k : Int) < (f.ow.length : Int)) = false:=by simp; omega
   have hke : loK f k = loL f:=by unfold loK loL; rw [show k = f.ow.length by omega]
   rw [hke] at hI ⊢
   clear hke hF hob
   go_wp2_with fail
   go_ret
   exact ⟨_,rfl,(uh hI).1,(uh HB2).trans ((uh hI).2.1.mono (uh HB2).size)⟩
end
end Go.Proofs.YtciihepbeacppabGreat
