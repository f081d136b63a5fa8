import Derived.Test.YtciihepbeacppabGreatM16
import Derived.Test.YtciihepbeacppabGreatM09
import Derived.Test.YtciihepbeacppabGreatM15
namespace Go.Proofs.YtciihepbeacppabGreat
open Go.RowKit
set_option linter.unusedVariables false
theorem Seen.me {bl : List Bool} {s : List Nat} (h : Seen bl s) {c : Nat} (hc : c < 24) : Seen (bl.set c true) (meN s c):=(h.add hc).congr (fun d=>by
 unfold meN
 split
 ·rename_i hm
  rw [List.mem_cons]
  exact ⟨fun h=>by rcases h with rfl | h; exact hm; exact h,Or.inr⟩
 ·rw [List.mem_cons,List.mem_append,List.mem_singleton]
  exact ⟨fun h=>h.elim Or.inr Or.inl,fun h=>h.elim Or.inr Or.inl⟩)
theorem Seen.eq {bl : List Bool} {s : List Nat} (h : Seen bl s) : bl = (List.range 24).map (fun c=>decide (c ∈ s)):=by
 refine List.ext_getElem (by rw [h.1]; simp) (fun j h1 h2=>?_)
 have hj : j < 24:=by have:=h.1; omega
 have:=h.2 j hj
 rw [List.getD_eq_getElem?_getD,List.getElem?_eq_getElem h1] at this
 simp only [Option.getD_some] at this
 rw [List.getElem_map,List.getElem_range]
 cases hb : bl[j] with
 | true=>rw [hb] at this; simp [this.1 rfl]
 | false=>rw [hb] at this; simp; intro hm; exact absurd (this.2 hm) (by simp)
theorem rcF_le (l : List Pr) : ∀ {s : List Nat},s.length ≤ (l.foldl rcS s).length:=by
 induction l with
 | nil=>intro s; exact Nat.le_refl _
 | cons p r ih=>intro s; exact Nat.le_trans (rcS_len s p) ih
theorem rcF_pre : ∀ (l : List Pr) (s : List Nat),∃ t,l.foldl rcS s = s ++ t
 | [],s=>⟨[],by simp⟩
 | p :: r,s=>by
  obtain ⟨t,ht⟩:=rcF_pre r (rcS s p)
  rw [List.foldl_cons,ht]
  unfold rcS
  split
  ·exact ⟨[p.r] ++ t,by rw [List.append_assoc]⟩
  ·exact ⟨t,rfl⟩
theorem z24_eq : (blC (List.replicate 24 false)).toArray = (List.replicate 24 (Value.bool false)).toArray:=rfl
theorem Tryz.infoB24 : (Tryz.prog.info? 104).map (·.size) = some 24:=by kernel_rfl
section
variable {w : World} {A : Nat} {f : CF} {av ov : Value}
set_option maxRecDepth 100000 in
set_option maxHeartbeats 8000000 in
theorem reached_any (h : IsF w A f av ov) (hO : FoOk f) : Calls Tryz.prog 152 #[.pointer (some ⟨A,0,none⟩)] w fun e w'=>e = .returned (.agg (blC (rcA f)).toArray) ∧ Below w.heap.size w w':=by
 obtain ⟨oa,oc,hov,-,-⟩:=own_slc h.ow
 subst hov
 have hol:=hO.owLen
 obtain ⟨w0,hw0⟩ : ∃ w0,w0 = (w.alloc (.cells (List.replicate 24 (Value.bool false)).toArray 104)).alloc (.cells (List.replicate 24 (Value.bool false)).toArray 104):=⟨_,rfl⟩
 have hb0 : Below w.heap.size w w0:=by rw [hw0]; exact (below_boxQ w _).alloc (below_boxQ w _).size _
 have hR0 : Ob w0 104 24 w.heap.size (blC (List.replicate 24 false)):=by rw [hw0,← z24_eq]; exact (f24_ob w).alloc _
 have hD0 : Ob w0 104 24 (w.heap.size + 1) (blC (List.replicate 24 false)):=by
  rw [hw0,← z24_eq]
  have:=f24_ob (w.alloc (.cells (blC (List.replicate 24 false)).toArray 104))
  simpa using this
 obtain ⟨R,hR⟩ : ∃ R,R = w.heap.size:=⟨_,rfl⟩
 obtain ⟨D,hD⟩ : ∃ D,D = R + 1:=⟨_,rfl⟩
 rw [← hR,← hD] at hD0
 rw [← hR] at hR0
 have H:=hide h
 have HO:=hide hO
 have HR:=hide hR
 have HD:=hide hD
 have HI0 : Hid (Ob w0 104 24 D (blC (List.replicate 24 false)) ∧ Seen (List.replicate 24 false) (([f.cl.getD 1 0,f.cl.getD 2 0,f.cl.getD 3 0,f.cl.getD 4 0].take 0).foldl meN []) ∧ Ob w0 104 24 R (blC (List.replicate 24 false)) ∧ Below w.heap.size w w0):=hide ⟨hD0,f24_seen,hR0,hb0⟩
 clear h hO hb0 hR0 hD0
 simp only [List.replicate] at hw0
 go_enter Tryz.func152,Tryz.ntmps152
 go_upto_region 2 with fail
 rw [← hw0,← hR,← hD]
 clear hw0 hR hD
 go_wp2_with fail
 go_loopw [4] (fun i wx=>∃ (k : Nat) (bl : List Bool),k ≤ 4 ∧ i = .int .i64 ((k : Int) + 1) ∧ Hid (Ob wx 104 24 D (blC bl) ∧ Seen bl (([f.cl.getD 1 0,f.cl.getD 2 0,f.cl.getD 3 0,f.cl.getD 4 0].take k).foldl meN []) ∧ Ob wx 104 24 R (blC (List.replicate 24 false)) ∧ Below w.heap.size w wx)) (fun i _=>5 - (intOf i).toNat)
 case atStart=>exact ⟨0,_,Nat.zero_le _,rfl,HI0⟩
 case round =>
  clear HI0
  obtain ⟨k,bl,hk,rfl,hI⟩:=hrel
  have hDR : D ≠ R:=by have:=uh HD; omega
  by_cases hlt : k < 4
  ·have hd : decide ((k : Int) + 1 < (5 : Int)) = true:=by simp; omega
   have hF:=(uh H).below (uh hI).2.2.2
   have x:=hF.cls (i:=k + 1) (by omega)
   unfold clV at x
   have hst : ([f.cl.getD 1 0,f.cl.getD 2 0,f.cl.getD 3 0,f.cl.getD 4 0].take (k + 1)).foldl meN [] = meN (([f.cl.getD 1 0,f.cl.getD 2 0,f.cl.getD 3 0,f.cl.getD 4 0].take k).foldl meN []) (f.cl.getD (k + 1) 0):=by
    have : k = 0 ∨ k = 1 ∨ k = 2 ∨ k = 3:=by omega
    rcases this with rfl | rfl | rfl | rfl <;> rfl
   have hc:=(uh HO).get (k + 1)
   obtain ⟨c,hce⟩ : ∃ c,c = f.cl.getD (k + 1) 0:=⟨_,rfl⟩
   rw [← hce] at x hst hc
   obtain ⟨⟨u,hu⟩,hz⟩:=(uh hI).1.some (j:=c) hc
   have o1:=(uh hI).1.stored c (.bool true)
   rw [blC_set] at o1
   have hge : w.heap.size ≤ D:=by have:=uh HD; have:=uh HR; omega
   have HN : Hid (Ob (wr.setCell ⟨D,c,none⟩ (.bool true)) 104 24 D (blC (bl.set c true)) ∧ Seen (bl.set c true) (([f.cl.getD 1 0,f.cl.getD 2 0,f.cl.getD 3 0,f.cl.getD 4 0].take (k + 1)).foldl meN []) ∧ Ob (wr.setCell ⟨D,c,none⟩ (.bool true)) 104 24 R (blC (List.replicate 24 false)) ∧ Below w.heap.size w (wr.setCell ⟨D,c,none⟩ (.bool true))):=hide ⟨o1,by rw [hst]; exact (uh hI).2.1.me hc,(uh hI).2.2.1.of_eq (Below.heap_setCell _ _ _ _ (fun e=>hDR e.symm)),(uh hI).2.2.2.setCell (p:=⟨D,c,none⟩) hge _⟩
   have i1 : (0 : Int) ≤ (k : Int) + 1:=by omega
   have i2 : (k : Int) + 1 < (5 : Int):=by omega
   have i3 : (c : Int) < (24 : Int):=by omega
   have i4 : ((k : Int) + 1).toNat = k + 1:=by omega
   clear hF hst hce o1 hI hge
   go_wp2_with fail
   go_roundw
   case rel=>exact ⟨k + 1,_,by omega,by go_num,HN⟩
   case measure=>simp [intOf]; omega
  ·have hd : decide ((k : Int) + 1 < (5 : Int)) = false:=by simp; omega
   have hk4 : k = 4:=by omega
   subst hk4
   have hs0 : ([f.cl.getD 1 0,f.cl.getD 2 0,f.cl.getD 3 0,f.cl.getD 4 0].take 4).foldl meN [] = rc0 f:=rfl
   rw [hs0] at hI
   have HI1 : Hid (Ob wr 104 24 D (blC bl) ∧ Seen bl (rc0 f) ∧ MsOk (rc0 f) ∧ Ob wr 104 24 R (blC (List.replicate 24 false)) ∧ Below w.heap.size w wr ∧ rcN f 25 (rc0 f) = rcL f):=hide ⟨(uh hI).1,(uh hI).2.1,rc0_ok (uh HO).cl,(uh hI).2.2.1,(uh hI).2.2.2,rfl⟩
   clear hs0 hI
   rw [show ((4 : Nat) : Int) + 1 = (5 : Int) from rfl]
   have hge : w.heap.size ≤ D:=by have:=uh HD; have:=uh HR; omega
   go_wp2_with fail
   go_loopg [5] (26 - (rc0 f).length) (fun gn gv wx=>∃ (s : List Nat) (bl : List Bool) (n : Nat) (gr : Bool),gv = .bool gr ∧ gn = (if gr = true then 26 - s.length else 0) ∧ s.length ≤ 24 ∧ Hid (Ob wx 104 24 D (blC bl) ∧ Seen bl s ∧ MsOk s ∧ Ob wx 104 24 R (blC (List.replicate 24 false)) ∧ Below w.heap.size w wx ∧ (gr = true → rcN f n s = rcL f ∧ 24 < n + s.length) ∧ (gr = false → s = rcL f)))
   case atStart=>exact ⟨rc0 f,bl,25,true,rfl,rfl,(uh HI1).2.2.1.len,hide ⟨(uh HI1).1,(uh HI1).2.1,(uh HI1).2.2.1,(uh HI1).2.2.2.1,(uh HI1).2.2.2.2.1,fun _=>⟨rfl,by omega⟩,fun h=>by cases h⟩⟩
   case round =>
    clear HI1
    obtain ⟨s,bl,n,gr,rfl,hgn,hsl,hI⟩:=hrel
    obtain ⟨G,hG⟩ : ∃ G,G = gk:=⟨_,rfl⟩
    cases gr with
    | false =>
     have hsl':=(uh hI).2.2.2.2.2.2 rfl
     have hbl : blC bl = blC (rcA f):=by rw [(uh hI).2.1.eq,hsl']; rfl
     obtain ⟨M,hM⟩ : ∃ M,M = blC (rcA f):=⟨_,rfl⟩
     have hml : M.length = 24:=by rw [hM]; simp [blC,rcA]
     have hC1' : Ob wr 104 24 D M:=by rw [hM,← hbl]; exact (uh hI).1
     have hR1:=(uh hI).2.2.2.1
     have hRg : wr.rangeAt D 0 M:=by
      intro j v hj
      have hjl:=(List.getElem?_eq_some_iff.1 hj).1
      rw [Nat.zero_add,World.ownsRow.cellAt hC1' j (by omega)]; exact hj
     have hTh : wr.there R 0 M.toArray.size:=by
      intro j hj
      rw [List.size_toArray,hml] at hj
      obtain ⟨⟨u,hu⟩,hz⟩:=hR1.some (j:=j) hj
      rw [Nat.zero_add]
      exact ⟨by rw [hu]; rfl,hz⟩
     have hI1 : (Tryz.prog.info? 104).map (·.size) = some M.length:=by rw [hml]; exact Tryz.infoB24
     have hI2 : (Tryz.prog.info? 104).map (·.size) = some M.toArray.size:=by rw [List.size_toArray,hml]; exact Tryz.infoB24
     have hOn : M.toArray.all (·.oneCell') = true:=all_oneCell_toArray (by
      intro v hv
      rw [hM] at hv
      obtain ⟨o,_,rfl⟩:=List.mem_map.1 hv
      rfl)
     have hOb5:=Ob.setCells M 0 hR1
     have hsl2:=setL_mid M [] (blC (List.replicate 24 false)) [] (by rw [hml]; rfl)
     simp only [List.nil_append,List.append_nil,List.length_nil] at hsl2
     rw [hsl2] at hOb5
     have hRB : w.heap.size ≤ R:=by have:=uh HR; omega
     have hB5 : ∀ (vs : List Value) (o : Nat) (x : World),Below w.heap.size w x → Below w.heap.size w (x.setCells R o vs):=by
      intro vs
      induction vs with
      | nil=>intro o x h; exact h
      | cons v r ih=>intro o x h; exact ih (o + 1) _ (h.setCell hRB v)
     have HB5:=hide (hB5 M 0 wr (uh hI).2.2.2.2.1)
     have HM:=hide hM
     have HML:=hide hml
     have HRg:=hide hRg
     have HTh:=hide hTh
     have HI1:=hide hI1
     have HI2:=hide hI2
     have HOn:=hide hOn
     have HOb5:=hide hOb5
     clear hRg hTh hI1 hI2 hOn hOb5 hsl2 hB5 hM hml hC1' hR1 hbl hsl' hI hgn
     go_wp2_with (first | refine wpList_load_mid rfl 104 (.tmp 3) rfl D 0 rfl M _ (uh HRg) Tryz.underlying104 rfl (uh HI1) ?_ | refine wpList_store_mid rfl 104 (.tmp 2) (.tmp 44) rfl R 0 M.toArray rfl rfl (uh HTh) (uh HI2) (uh HOn) ?_)
     have hrg2 : (wr.setCells R 0 M).rangeAt R 0 M:=by
      intro j v hj
      have hjl:=(List.getElem?_eq_some_iff.1 hj).1
      rw [uh HML] at hjl
      rw [Nat.zero_add,World.ownsRow.cellAt (uh HOb5) j (by omega)]; exact hj
     have hld:=run_loadVar_mid (P:=Tryz.prog) (wr.setCells R 0 M) R 0 104 M _ hrg2 Tryz.underlying104 rfl (uh HI1)
     refine bodyPost_ret (v:=.agg M.toArray) ?_ rfl ⟨by rw [uh HM],uh HB5⟩
     simp [results,Tryz.results152,Act.put,asAddr,hld]
    | true =>
     have hgn' : gk = 26 - s.length:=hgn
     obtain ⟨hrc,hn24⟩:=(uh hI).2.2.2.2.2.1 rfl
     have HRC:=hide hrc
     have hF:=(uh H).below (uh hI).2.2.2.2.1
     have c6:=hF.c6
     have HI2 : Hid (Ob wr 104 24 D (blC bl) ∧ Seen bl ((f.ow.take 0).foldl rcS s) ∧ Ob wr 104 24 R (blC (List.replicate 24 false)) ∧ Below w.heap.size w wr):=hide ⟨(uh hI).1,(uh hI).2.1,(uh hI).2.2.2.1,(uh hI).2.2.2.2.1⟩
     have HMS:=hide (uh hI).2.2.1
     clear hgn hrc hF hI
     go_wp2_with fail
     go_loopg [5,25] f.ow.length (fun gn gv i wx=>∃ (j : Nat) (bl : List Bool),j + gn = f.ow.length ∧ i = .int .i64 j ∧ gv = .bool (decide (((f.ow.take j).foldl rcS s).length ≠ s.length)) ∧ Hid (Ob wx 104 24 D (blC bl) ∧ Seen bl ((f.ow.take j).foldl rcS s) ∧ Ob wx 104 24 R (blC (List.replicate 24 false)) ∧ Below w.heap.size w wx))
     case atStart=>exact ⟨0,bl,by omega,rfl,by simp,HI2⟩
     case round =>
      clear HI2 c6
      obtain ⟨j,bl,hjn,rfl,rfl,hJ⟩:=hrel
      obtain ⟨G2,hG2⟩ : ∃ G2,G2 = gk:=⟨_,rfl⟩
      have hF:=(uh H).below (uh hJ).2.2.2
      have hDR : D ≠ R:=by have:=uh HD; omega
      obtain ⟨m,hm⟩ : ∃ m,m = (f.ow.take j).foldl rcS s:=⟨_,rfl⟩
      have hle : s.length ≤ m.length:=by rw [hm]; exact rcF_le _
      by_cases hlt : j < f.ow.length
      ·have hd : decide ((j : Int) < (f.ow.length : Int)) = true:=by simp; omega
       obtain ⟨g,cap,hgv,-,-⟩:=own_formP hF.ow hlt
       simp only [Value.slice.injEq,true_and] at hgv
       obtain ⟨rfl,rfl⟩:=hgv
       obtain ⟨x0,x1,x2⟩:=own_cells hF.ow hlt
       obtain ⟨hpl,hpr⟩:=(uh HO).ow _ (mem_getD hlt)
       have hfs:=foldl_step (g:=rcS) (a:=s) hlt
       obtain ⟨p,hp⟩ : ∃ p,p = f.ow.getD j pr0:=⟨_,rfl⟩
       rw [← hp] at x0 x1 x2 hpl hpr hfs
       rw [← hm] at hJ hfs ⊢
       obtain ⟨gr,hgr⟩ : ∃ gr,gr = decide (m.length ≠ s.length):=⟨_,rfl⟩
       rw [← hgr]
       have HGR:=hide hgr
       obtain ⟨W1,hW1⟩ : ∃ W1,W1 = wr.alloc (.cells #[Value.int .i64 p.k,.int .i64 p.l,.int .i64 p.r] 103):=⟨_,rfl⟩
       have hbx : Below wr.heap.size wr W1:=by rw [hW1]; exact below_boxQ wr _
       have hX : Bk W1 wr.heap.size 103 [Value.int .i64 p.k,.int .i64 p.l,.int .i64 p.r]:=by rw [hW1]; exact Bk.new wr _ _
       have b1:=hX.cell 1 rfl
       have b2:=hX.cell 2 rfl
       have oD : Ob W1 104 24 D (blC bl):=(uh hJ).1.of_eq (hbx.block D (World.ownsRow.lt (uh hJ).1 D rfl).2)
       have oR : Ob W1 104 24 R (blC (List.replicate 24 false)):=(uh hJ).2.2.1.of_eq (hbx.block R (World.ownsRow.lt (uh hJ).2.2.1 R rfl).2)
       have hb1:=(uh hJ).2.2.2.trans (hbx.mono (uh hJ).2.2.2.size)
       have hSe:=(uh hJ).2.1
       have d1:=(World.ownsRow.cellAt oD p.l (by omega)).trans (blC_get (by rw [hSe.1]; exact hpl))
       have d2:=(World.ownsRow.cellAt oD p.r (by omega)).trans (blC_get (by rw [hSe.1]; exact hpr))
       have fz:=World.ownsRow.frozenAt oD p.r
       have e1 : bl.getD p.l false = decide (p.l ∈ m):=by have:=hSe.2 p.l hpl; cases hb : bl.getD p.l false <;> simp_all
       have e2 : bl.getD p.r false = decide (p.r ∈ m):=by have:=hSe.2 p.r hpr; cases hb : bl.getD p.r false <;> simp_all
       rw [e1] at d1
       rw [e2] at d2
       have o1:=oD.stored p.r (.bool true)
       rw [blC_set] at o1
       have i1 : (0 : Int) ≤ (j : Int):=by omega
       have i2 : (j : Int) < (f.ow.length : Int):=by omega
       have i3 : (p.l : Int) < (24 : Int):=by omega
       have i4 : (p.r : Int) < (24 : Int):=by omega
       obtain ⟨X,hXe⟩ : ∃ X,X = wr.heap.size:=⟨_,rfl⟩
       rw [← hXe] at b1 b2
       have HFS:=hide hfs
       have HNo : Hid (rcS m p = m → Ob W1 104 24 D (blC bl) ∧ Seen bl ((f.ow.take (j + 1)).foldl rcS s) ∧ Ob W1 104 24 R (blC (List.replicate 24 false)) ∧ Below w.heap.size w W1):=hide (fun e=>⟨oD,by rw [hfs,e]; exact hSe,oR,hb1⟩)
       have HYes : Hid (rcS m p = m ++ [p.r] → Ob (W1.setCell ⟨D,p.r,none⟩ (.bool true)) 104 24 D (blC (bl.set p.r true)) ∧ Seen (bl.set p.r true) ((f.ow.take (j + 1)).foldl rcS s) ∧ Ob (W1.setCell ⟨D,p.r,none⟩ (.bool true)) 104 24 R (blC (List.replicate 24 false)) ∧ Below w.heap.size w (W1.setCell ⟨D,p.r,none⟩ (.bool true))):=hide (fun e=>⟨o1,by
        rw [hfs,e]
        exact (hSe.add hpr).congr (fun d=>by simp only [List.mem_cons,List.mem_append,List.not_mem_nil,or_false]; exact ⟨fun h=>h.elim Or.inr Or.inl,fun h=>h.elim Or.inr Or.inl⟩),oR.of_eq (Below.heap_setCell _ _ _ _ (fun e=>hDR e.symm)),hb1.setCell (p:=⟨D,p.r,none⟩) hge _⟩)
       clear hbx hX oD oR hb1 hSe e1 e2 o1 hfs hp hm hF hJ hgr
       by_cases q1 : p.l ∈ m
       ·rw [show decide (p.l ∈ m) = true by simpa using q1] at d1
        by_cases q2 : p.r ∈ m
        ·rw [show decide (p.r ∈ m) = true by simpa using q2] at d2
         have HE : Hid (rcS m p = m):=hide (by unfold rcS; rw [if_neg (by rintro ⟨-,h⟩; exact h q2)])
         clear q1 q2
         go_upto_region 12 with fail
         rw [← hW1,← hXe]
         clear hW1 hXe
         go_wp2_with fail
         go_roundg (G2 - 1)
         case rel=>exact ⟨j + 1,bl,by omega,by go_num,by rw [uh HFS,uh HE,← uh HGR],hide (uh HNo (uh HE))⟩
         case measure=>omega
        ·rw [show decide (p.r ∈ m) = false by simpa using q2] at d2
         have HE : Hid (rcS m p = m ++ [p.r]):=hide (by unfold rcS; rw [if_pos ⟨q1,q2⟩])
         clear q1 q2
         go_upto_region 12 with fail
         rw [← hW1,← hXe]
         clear hW1 hXe
         go_wp2_with fail
         go_roundg (G2 - 1)
         case rel=>exact ⟨j + 1,_,by omega,by go_num,by
          rw [uh HFS,uh HE,List.length_append,List.length_singleton]
          rw [show decide (m.length + 1 ≠ s.length) = true by simp; omega],hide (uh HYes (uh HE))⟩
         case measure=>omega
       ·rw [show decide (p.l ∈ m) = false by simpa using q1] at d1
        have HE : Hid (rcS m p = m):=hide (by unfold rcS; rw [if_neg (by rintro ⟨h,-⟩; exact q1 h)])
        clear q1
        go_upto_region 12 with fail
        rw [← hW1,← hXe]
        clear hW1 hXe
        go_wp2_with fail
        go_roundg (G2 - 1)
        case rel=>exact ⟨j + 1,bl,by omega,by go_num,by rw [uh HFS,uh HE,← uh HGR],hide (uh HNo (uh HE))⟩
        case measure=>omega
      ·have hd : decide ((j : Int) < (f.ow.length : Int)) = false:=by simp; omega
       have hrr : (f.ow.take j).foldl rcS s = rcR f s:=by rw [List.take_of_length_le (by omega)]; rfl
       rw [hrr] at hJ ⊢
       obtain ⟨n',rfl⟩ : ∃ n',n = n' + 1:=⟨n - 1,by omega⟩
       have hrn : rcN f (n' + 1) s = if (rcR f s).length = s.length then s else rcN f n' (rcR f s):=rfl
       have hok:=(rcF_ok f.ow (uh HMS) (fun p hp=>((uh HO).ow p hp).2)).1
       have hok' : MsOk (rcR f s):=hok
       have hll:=hok'.len
       have hle2 : s.length ≤ (rcR f s).length:=rcF_le _
       have HJ : Hid (Ob wr 104 24 D (blC bl) ∧ Seen bl (rcR f s) ∧ MsOk (rcR f s) ∧ Ob wr 104 24 R (blC (List.replicate 24 false)) ∧ Below w.heap.size w wr):=hide ⟨(uh hJ).1,(uh hJ).2.1,hok',(uh hJ).2.2.1,(uh hJ).2.2.2⟩
       by_cases hch : (rcR f s).length = s.length
       ·have hsame : rcR f s = s:=by
         obtain ⟨t,ht⟩:=rcF_pre f.ow s
         have h1 : rcR f s = s ++ t:=ht
         have h2:=congrArg List.length h1
         rw [List.length_append] at h2
         have : t = []:=List.length_eq_zero_iff.1 (by omega)
         rw [h1,this,List.append_nil]
        have HE : Hid (rcR f s = rcL f):=hide (by
         have h1:=uh HRC
         rw [hrn,if_pos hch] at h1
         rw [hsame]; exact h1)
        rw [show decide ((rcR f s).length ≠ s.length) = false by simp [hch]]
        clear hsame hch hrr hrn hok hok' hJ hle2 hll
        go_wp2_with fail
        go_roundg 0
        case rel=>exact ⟨rcR f s,bl,0,false,rfl,rfl,(uh HJ).2.2.1.len,hide ⟨(uh HJ).1,(uh HJ).2.1,(uh HJ).2.2.1,(uh HJ).2.2.2.1,(uh HJ).2.2.2.2,(fun h=>by cases h),fun _=>uh HE⟩⟩
        case measure=>omega
       ·have HE : Hid (rcN f n' (rcR f s) = rcL f ∧ 24 < n' + (rcR f s).length):=hide ⟨by
         have h1:=uh HRC
         rw [hrn,if_neg hch] at h1
         exact h1,by omega⟩
        rw [show decide ((rcR f s).length ≠ s.length) = true by simp [hch]]
        have hlt2 : 26 - (rcR f s).length < G:=by omega
        clear hch hrr hrn hok hok' hJ hle2
        go_wp2_with fail
        go_roundg (26 - (rcR f s).length)
        case rel=>exact ⟨rcR f s,bl,n',true,rfl,rfl,(uh HJ).2.2.1.len,hide ⟨(uh HJ).1,(uh HJ).2.1,(uh HJ).2.2.1,(uh HJ).2.2.2.1,(uh HJ).2.2.2.2,(fun _=>uh HE),fun h=>by cases h⟩⟩
        case measure=>omega
end
def eqD (f : CF) (i : Nat) : Nat:=((List.range (i + 1)).find? (fun k=>f.cl.getD k 0 == f.cl.getD i 0)).getD 0
def bgD (f : CF) (i : Nat) : Nat:=match bgn f.ow (f.cl.getD i 0) with | some j=>(owA f j).k | none=>0
def ptD (f : CF) : Nat:=f.ow.countP (fun p=>decide (p.k = 3))
def liD (f : CF) : Nat:=f.ow.countP (fun p=>!decide (p.k = 3))
def roB (s t : CF) : Bool:=!(decide (ptD s < ptD t) || decide (ptD s + liD s < ptD t + liD t)) && (decide (0 < liD t) || (decide (liD s = 0) && decide (ptD s = ptD t)))
def lk1 (s t : CF) (i : Nat) : Bool:=decide (eqD s (eqD t i) = eqD s i) && !(decide (bgD t i = 3) && !decide (bgD s i = 3)) && !(decide (bgD t i = 4) && decide (bgD s i = 0))
def lkB (s t : CF) : Bool:=lk1 s t 0 && lk1 s t 1 && lk1 s t 2 && lk1 s t 3 && lk1 s t 4
def wiB (s t : CF) : Bool:=roB s t && lkB s t && (match drp s t [0,1,2,3,4] (List.replicate 24 none) with | none=>false | some an=>(fit s t an 128).1)
structure Ent where
 f : CF
 d : Bool
structure Sr where
 kn : List (List Ent)
 wr : List (List Bool)
 lf : Int
 lo : Int
 fu : Bool
 ok : Bool
structure Cd where
 nds : List Nd
 hd : List Bool
 lp : Bool
 bd : Bool
def nd0 : Nd:=⟨0,0,0,0,0,0⟩
def spS' (c : Cd) (s : Sr) : Sr:={ s with lf:=wrap64 (s.lf - 1),fu:=s.fu || (decide (wrap64 (s.lf - 1) < 0) && c.bd) }
def lkS' (c : Cd) (s : Sr) (n : Nat) : Sr:={ s with lo:=wrap64 (s.lo - n),fu:=s.fu || (decide (wrap64 (s.lo - n) < 0) && c.bd) }
def knA (s : Sr) (n : Nat) : List Ent:=s.kn.getD n []
def layN (c : Cd) (n : Nat) (f : CF) : CF:=if c.hd.getD n false = true then tdF (foF f) else f
def big : Nat:=1000000000000
def bigC : Nat:=900000
def layR (n : Nat) (g : CF) (s : Sr) : Sr:={ s with ok:=s.ok && decide ((knA s n).length ≤ big),kn:=s.kn.set n ((knA s n).filter (fun e=>!wiB e.f g) ++ [⟨g,false⟩]) }
def layS (c : Cd) (n : Nat) (f : CF) (s : Sr) : Sr :=
 if (knA s n).any (fun e=>wiB (layN c n f) e.f) = true then { lkS' c s (2 * (knA s n).length) with ok:=s.ok && decide ((knA s n).length ≤ big) }
 else spS' c (layR n (layN c n f) (lkS' c s (2 * (knA s n).length)))
def loL (f : CF) : List Nat:=(List.range f.ow.length).filter (fun i=>!decide ((owA f i).l ∈ rcL f))
def wiO (f : CF) : CF:=tdF { f with ow:=f.ow.filter (fun p=>decide (p.l ∈ rcL f)) }
def prE' (a b : List Pr) : Bool:=decide (a.length = b.length) && (List.range a.length).all (fun i=>prE (a.getD i pr0) (b.getD i pr0))
def saB (f g : CF) : Bool:=decide (clL f = clL g) && prE' f.ap g.ap && prE' f.ow g.ow
def neB (cs : List CF) (f : CF) : Bool:=!cs.any (fun g=>saB f g)
def fnG (c : Cd) (r : List CF × Sr) (g : CF) : List CF × Sr:=if neB r.1 (tdF g) = true then (r.1 ++ [tdF g],spS' c { r.2 with ok:=r.2.ok && decide (r.1.length ≤ bigC) }) else r
def fnA (f : CF) (a : Nat) : Bool:=decide (a ∈ rcL f) && !decide (a = f.cl.getD 0 0) && !(bgn f.ow a).isSome
def fnS (c : Cd) (f : CF) (i : Nat) (r : List CF × Sr) (a : Nat) : List CF × Sr:=if fnA f a = true then (meF f a i).foldl (fnG c) r else r
def fndF (c : Cd) (f : CF) (r : List CF × Sr) (i : Nat) : List CF × Sr:=(List.range 24).foldl (fnS c f i) r
def fgS (c : Cd) (g : CF) (r : List CF × Sr) (res : List CF) : List CF × List CF × Sr :=
 if loL g = [] then (res ++ [g],r) else (res ++ [wiO g],(loL g).foldl (fndF c g) r)
def fgN (c : Cd) : Nat → Nat → List CF → List CF × Sr → List CF × Sr
 | 0,_,res,r=>(res,{ r.2 with ok:=false })
 | n + 1,k,res,r=>if k < r.1.length ∧ r.2.fu = false then fgN c n (k + 1) (fgS c (r.1.getD k ⟨[],[],[]⟩) r res).1 (fgS c (r.1.getD k ⟨[],[],[]⟩) r res).2 else (res,r.2)
def wrS (n k : Nat) (s : Sr) : Sr:={ s with wr:=s.wr.set n ((s.wr.getD n []).set k true) }
def arS (c : Cd) (fuel from_ to_ : Nat) (f : CF) (s : Sr) : Sr :=
 if c.lp = false ∨ loL f = [] then layS c to_ f s
 else
  let r:=fgN c fuel 0 [] ([f],wrS from_ 2 s)
  r.1.foldl (fun s g=>layS c to_ g s) r.2
def fuS (b : Bool) (s : Sr) : Sr:={ s with fu:=s.fu || b }
def wrI (b : Bool) (n k : Nat) (s : Sr) : Sr:=if b = true then wrS n k s else s
def stS (c : Cd) (fuel : Nat) (n : Nat) (f : CF) (s : Sr) : Sr :=
 let nd:=c.nds.getD n nd0
 let o:=efO nd f
 let s1:=wrI (decide (nd.op = 0) && !decide (loL f = [])) n 2 s
 let s2:=fuS o.fu (wrI o.da n 4 (wrI o.nu n 3 s1))
 let s3:=o.nx.foldl (fun s g=>arS c fuel n nd.nx g s) s2
 o.ot.foldl (fun s g=>arS c fuel n nd.ot g s) s3
def viN (c : Cd) (fuel n : Nat) : List CF → Sr → Sr
 | [],s=>s
 | f :: r,s=>if s.fu = true then s else viN c fuel n r (stS c fuel n f s)
def frE (l : List Ent) : List CF:=(l.filter (fun e=>!e.d)).map (·.f)
def viS (c : Cd) (fuel n : Nat) (s : Sr) : Sr:=viN c fuel n (frE (knA s n)) { s with kn:=s.kn.set n ((knA s n).map (fun e=>⟨e.f,true⟩)) }
def peS (s : Sr) : Option Nat:=s.kn.findIdx? (fun l=>l.any (fun e=>!e.d))
def ruN (c : Cd) (fuel : Nat) : Nat → Sr → Sr
 | 0,s=>{ s with ok:=false }
 | n + 1,s=>match peS s with
  | none=>s
  | some k=>if s.fu = true then s else ruN c fuel n (viS c fuel k s)
def hiN (al : List Atm) : Nat:=al.foldl (fun m a=>let m1:=if a.lk = 2 ∧ m ≤ a.li then a.li + 1 else m; if a.rk = 2 ∧ m1 ≤ a.ri then a.ri + 1 else m1) 0
def bkJ (nds : List Nd) (i : Nat) : Bool:=decide ((nds.getD i nd0).op = 10) && decide ((nds.getD i nd0).nx < i)
def siB (nds : List Nd) (nv : Nat) (al : List Atm) : Bool :=
 !(List.range nds.length).any (bkJ nds) && !al.any (fun a=>decide (a.k = 4)) &&
 decide (nds.countP (fun n=>decide (n.op = 7 ∨ n.op = 8 ∨ n.op = 9)) ≤ 5) && decide (nds.countP (fun n=>decide (n.op = 4)) ≤ 4) && decide (nv + hiN al ≤ 6) && decide (nv + hiN al + nds.countP (fun n=>decide (n.op = 4)) ≤ 8)
def hdL (nds : List Nd) : List Bool:=(List.range nds.length).foldl (fun h i=>if bkJ nds i = true then h.set (nds.getD i nd0).nx true else h) (List.replicate nds.length false)
def cdO (nds : List Nd) (nv : Nat) (al : List Atm) : Cd:=⟨nds,hdL nds,(List.range nds.length).any (bkJ nds),!siB nds nv al⟩
def sr0 (nds : List Nd) : Sr:=⟨List.replicate nds.length [],List.replicate nds.length (List.replicate 5 false),3000,2097152,false,true⟩
def enC (f : CF) (nv : Nat) : CF:={ f with cl:=(List.range 5).map (fun i=>if nv < i then f.cl.getD 0 0 else f.cl.getD i 0) }
def enS' (c : Cd) (fuel nv : Nat) (al : List Atm) (s : Sr) : Sr:=if falB (cfOf al) = true then s else arS c fuel (c.nds.length - 1) 0 (tdF (enC (cfOf al) nv)) s
structure Rs where
 vd : Nat
 al : List (Nat × Nat)
 kn : List (List CF)
def alL (wr : List (List Bool)) : List (Nat × Nat):=(List.range wr.length).flatMap (fun n=>([2,3,4].filter (fun k=>(wr.getD n []).getD k false)).map (fun k=>(n,k)))
def rsO (s : Sr) : Rs:=if s.fu = true then ⟨2,[],[]⟩ else ⟨if alL s.wr = [] then 0 else 1,alL s.wr,s.kn.map (fun l=>l.map (·.f))⟩
section
variable {w : World} {v1 v2 : Value} {l1 l2 : List Pr}
set_option maxRecDepth 100000 in
set_option maxHeartbeats 4000000 in
theorem alike_any (h1 : w.ownsRow 0 103 3 v1 l1.length (prCells l1)) (h2 : w.ownsRow 0 103 3 v2 l2.length (prCells l2)) (hl : l1.length ≤ 100000) (hl2 : l2.length ≤ 100000) : Calls Tryz.prog 238 #[v1,v2] w fun e w'=>e = .returned (.bool (prE' l1 l2)) ∧ ∃ n,w' = w.drewN n:=by
 obtain ⟨a1,c1,hv1,-,-⟩:=own_slc h1
 subst hv1
 obtain ⟨a2,c2,hv2,-,-⟩:=own_slc h2
 subst hv2
 by_cases hll : l1.length = l2.length
 ·have d0 : ((l1.length : Int) != (l2.length : Int)) = false:=by simp [hll]
  have HLL:=hide hll
  obtain ⟨B,hB⟩ : ∃ B,B = prE' l1 l2:=⟨_,rfl⟩
  have HB:=hide hB
  rw [← hB]
  have H1:=hide h1
  have H2:=hide h2
  have HI0 : Hid ((∃ n,w = w.drewN n) ∧ ∀ i,i < 0 → prE (l1.getD i pr0) (l2.getD i pr0) = true):=hide ⟨⟨0,rfl⟩,fun i hi=>by omega⟩
  clear h1 h2 hB hll
  go_enter Tryz.func238,Tryz.ntmps238
  go_wp2_with fail
  go_loopw [5] (fun iv wx=>∃ (k : Nat),k ≤ l1.length ∧ iv = .int .i64 k ∧ Hid ((∃ n,wx = w.drewN n) ∧ ∀ i,i < k → prE (l1.getD i pr0) (l2.getD i pr0) = true)) (fun iv _=>l1.length - (intOf iv).toNat)
  case atStart=>exact ⟨0,Nat.zero_le _,rfl,HI0⟩
  case round =>
   clear HI0
   obtain ⟨k,hk,rfl,hI⟩:=hrel
   obtain ⟨n0,hn0⟩:=(uh hI).1
   subst hn0
   by_cases hlt : k < l1.length
   ·have hd : decide ((k : Int) < (l1.length : Int)) = true:=by simp; omega
    have hlt2 : k < l2.length:=by have:=uh HLL; omega
    obtain ⟨g1,cap1,hg1,-,-⟩:=own_formP (uh H1) hlt
    simp only [Value.slice.injEq,true_and] at hg1
    obtain ⟨rfl,rfl⟩:=hg1
    obtain ⟨g2,cap2,hg2,-,-⟩:=own_formP (uh H2) hlt2
    simp only [Value.slice.injEq,true_and] at hg2
    obtain ⟨rfl,rfl⟩:=hg2
    obtain ⟨x0,x1,x2⟩:=own_cells (uh H1) hlt
    obtain ⟨y0,y1,y2⟩:=own_cells (uh H2) hlt2
    obtain ⟨p,hp⟩ : ∃ p,p = l1.getD k pr0:=⟨_,rfl⟩
    obtain ⟨q,hq⟩ : ∃ q,q = l2.getD k pr0:=⟨_,rfl⟩
    rw [← hp] at x0 x1 x2
    rw [← hq] at y0 y1 y2
    have hgd:=guardP
    have hneq : ∀ W : World,(binOp .neq 103 (.agg #[.int .i64 (p.k : Int),.int .i64 (p.l : Int),.int .i64 (p.r : Int)]) (.agg #[.int .i64 (q.k : Int),.int .i64 (q.l : Int),.int .i64 (q.r : Int)])).run Tryz.prog W = .ok (.bool (!prE p q)) W:=fun W=>by rw [neqP,prE_int]
    have HPQ : Hid (prE p q = prE (l1.getD k pr0) (l2.getD k pr0)):=hide (by rw [hp,hq])
    have i1 : (0 : Int) ≤ (k : Int):=by omega
    have i2 : (k : Int) < (l1.length : Int):=by omega
    have i3 : (k : Int) < (l2.length : Int):=by omega
    clear hp hq
    cases hpq : prE p q
    ·rw [hpq] at hneq HPQ
     rw [show (!false) = true from rfl] at hneq
     have HF : Hid (B = false):=hide (by
      rw [uh HB]
      unfold prE'
      rw [Bool.and_eq_false_iff]
      right
      rw [List.all_eq_false]
      exact ⟨k,List.mem_range.2 hlt,by rw [← uh HPQ]; simp⟩)
     clear hpq
     go_wp2_with fail
     go_quiet (fail)
     go_wp2_with fail
     go_ret
     exact ⟨ret_bool (uh HF).symm,_,World.drewN_drewN _ _ _⟩
    ·rw [hpq] at hneq HPQ
     rw [show (!true) = false from rfl] at hneq
     clear hpq
     go_wp2_with fail
     go_quiet (fail)
     go_wp2_with fail
     go_roundw
     case rel=>exact ⟨k + 1,by omega,by go_num,hide ⟨⟨_,rfl⟩,fun i hi=>by
      by_cases e : i = k
      ·rw [e]; exact (uh HPQ).symm
      ·exact (uh hI).2 i (by omega)⟩⟩
     case measure=>simp [intOf]; omega
   ·have hd : decide ((k : Int) < (l1.length : Int)) = false:=by simp; omega
    have HT : Hid (B = true):=hide (by
     rw [uh HB]
     unfold prE'
     rw [Bool.and_eq_true,List.all_eq_true]
     exact ⟨by simpa using uh HLL,fun i hi=>(uh hI).2 i (by have:=List.mem_range.1 hi; omega)⟩)
    go_wp2_with fail
    go_ret
    exact ⟨ret_bool (uh HT).symm,n0,rfl⟩
 ·have d0 : ((l1.length : Int) != (l2.length : Int)) = true:=by rw [bne_iff_ne]; omega
  have HF : Hid (prE' l1 l2 = false):=hide (by unfold prE'; simp [hll])
  clear h1 h2
  go_enter Tryz.func238,Tryz.ntmps238
  go_wp2_with fail
  go_ret
  exact ⟨ret_bool (uh HF).symm,0,rfl⟩
end
theorem eqC_in (a b c d e a' b' c' d' e' : Int) (w : World) : (Op.equalIn 10000 74 (.agg #[.int .i64 a,.int .i64 b,.int .i64 c,.int .i64 d,.int .i64 e]) (.agg #[.int .i64 a',.int .i64 b',.int .i64 c',.int .i64 d',.int .i64 e'])).run Tryz.prog w = .ok (a == a' && (b == b' && (c == c' && (d == d' && e == e')))) w:=by
 have u3:=Tryz.underlying3
 have a3:=Tryz.isAgg3
 have z3:=Tryz.sizeOf3
 rw [show (10000 : Nat) = 9999 + 1 from rfl,Op.equalIn]
 simp only [Sem.run_bind,run_underlying Tryz.underlying74,Result.andThen_ok]
 simp only [Std.Legacy.Range.forIn_eq_forIn_range',Std.Legacy.Range.size,Nat.sub_zero,Nat.add_sub_cancel,Nat.div_one,List.range'_succ,List.range'_zero,List.forIn_cons,List.forIn_nil]
 go_simp
 by_cases h1 : a = a' <;> by_cases h2 : b = b' <;> by_cases h3 : c = c' <;> by_cases h4 : d = d' <;> by_cases h5 : e = e' <;> simp [h1,h2,h3,h4,h5]
theorem eqlC (a b c d e a' b' c' d' e' : Int) (w : World) : (binOp .eql 74 (.agg #[.int .i64 a,.int .i64 b,.int .i64 c,.int .i64 d,.int .i64 e]) (.agg #[.int .i64 a',.int .i64 b',.int .i64 c',.int .i64 d',.int .i64 e'])).run Tryz.prog w = .ok (.bool (a == a' && (b == b' && (c == c' && (d == d' && e == e'))))) w:=by
 rw [run_eql_struct,eqC_in]
 rfl
theorem guardC : Tryz.prog.eqGuardType Tryz.prog.depth 74 = false:=by kernel_rfl
theorem clL_dec (f g : CF) : ((f.cl.getD 0 0 : Int) == (g.cl.getD 0 0 : Int) && ((f.cl.getD 1 0 : Int) == (g.cl.getD 1 0 : Int) && ((f.cl.getD 2 0 : Int) == (g.cl.getD 2 0 : Int) && ((f.cl.getD 3 0 : Int) == (g.cl.getD 3 0 : Int) && (f.cl.getD 4 0 : Int) == (g.cl.getD 4 0 : Int))))) = decide (clL f = clL g):=by
 unfold clL
 rw [nat_beq,nat_beq,nat_beq,nat_beq,nat_beq]
 simp only [List.cons.injEq,and_true,Bool.decide_and]
section
variable {w : World} {A A' : Nat} {f f' : CF} {av ov av' ov' : Value}
set_option maxRecDepth 100000 in
set_option maxHeartbeats 4000000 in
theorem same_any (h : IsF w A f av ov) (h' : IsF w A' f' av' ov') (ha : f.ap.length ≤ 100000) (ho : f.ow.length ≤ 100000) (ha' : f'.ap.length ≤ 100000) (ho' : f'.ow.length ≤ 100000) : Calls Tryz.prog 229 #[.pointer (some ⟨A,0,none⟩),.pointer (some ⟨A',0,none⟩)] w fun e w'=>e = .returned (.bool (saB f f')) ∧ Below w.heap.size w w':=by
 have HA1 : Hid (∀ m : Nat,Calls Tryz.prog 238 #[av,av'] (w.drewN m) fun e w'=>e = .returned (.bool (prE' f.ap f'.ap)) ∧ ∃ j,w' = w.drewN j):=hide (fun m=>(alike_any (w:=w.drewN m) h.ap h'.ap ha ha').mono (fun e w' hw=>⟨hw.1,by obtain ⟨n,rfl⟩:=hw.2; exact ⟨_,World.drewN_drewN _ _ _⟩⟩))
 have HA2 : Hid (∀ m : Nat,Calls Tryz.prog 238 #[ov,ov'] (w.drewN m) fun e w'=>e = .returned (.bool (prE' f.ow f'.ow)) ∧ ∃ j,w' = w.drewN j):=hide (fun m=>(alike_any (w:=w.drewN m) h.ow h'.ow ho ho').mono (fun e w' hw=>⟨hw.1,by obtain ⟨n,rfl⟩:=hw.2; exact ⟨_,World.drewN_drewN _ _ _⟩⟩))
 obtain ⟨oa,oc,hov,-,-⟩:=own_slc h.ow
 subst hov
 obtain ⟨aa,ac,hav,-,-⟩:=own_slc h.ap
 subst hav
 obtain ⟨oa',oc',hov',-,-⟩:=own_slc h'.ow
 subst hov'
 obtain ⟨aa',ac',hav',-,-⟩:=own_slc h'.ap
 subst hav'
 have p0:=h.cls (i:=0) (by omega)
 have p1:=h.cls (i:=1) (by omega)
 have p2:=h.cls (i:=2) (by omega)
 have p3:=h.cls (i:=3) (by omega)
 have p4:=h.cls (i:=4) (by omega)
 have p5:=h'.cls (i:=0) (by omega)
 have p6:=h'.cls (i:=1) (by omega)
 have p7:=h'.cls (i:=2) (by omega)
 have p8:=h'.cls (i:=3) (by omega)
 have p9:=h'.cls (i:=4) (by omega)
 have pa:=h.c5
 have pb:=h'.c5
 have pc:=h.c6
 have pd:=h'.c6
 have hcd:=clL_dec f f'
 have hsa : saB f f' = (decide (clL f = clL f') && prE' f.ap f'.ap && prE' f.ow f'.ow):=rfl
 have HSA:=hide hsa
 have hgd:=guardC
 have heq : ∀ W : World,(binOp .eql 74 (.agg #[clV f 0,clV f 1,clV f 2,clV f 3,clV f 4]) (.agg #[clV f' 0,clV f' 1,clV f' 2,clV f' 3,clV f' 4])).run Tryz.prog W = .ok (.bool (decide (clL f = clL f'))) W:=fun W=>by unfold clV; rw [eqlC,hcd]
 obtain ⟨B,hB⟩ : ∃ B,B = saB f f':=⟨_,rfl⟩
 rw [← hB] at HSA ⊢
 clear hsa hcd h h' hB
 obtain ⟨bc,hbc⟩ : ∃ b,b = decide (clL f = clL f'):=⟨_,rfl⟩
 obtain ⟨b1,hb1⟩ : ∃ b,b = prE' f.ap f'.ap:=⟨_,rfl⟩
 obtain ⟨b2,hb2⟩ : ∃ b,b = prE' f.ow f'.ow:=⟨_,rfl⟩
 rw [← hbc] at heq
 rw [← hb1] at HA1
 rw [← hb2] at HA2
 rw [← hbc,← hb1,← hb2] at HSA
 clear hbc hb1 hb2
 go_enter Tryz.func229,Tryz.ntmps229
 go_upto_region 1 with fail
 cases bc
 ·go_quiet (fail)
  go_wp2_with fail
  go_ret
  exact ⟨ret_bool (uh HSA).symm,⟨rfl,rfl,rfl,Nat.le_refl _,fun _ _=>rfl⟩⟩
 ·cases b1
  ·go_quiet ((go_at_call 238; exact uh HA1 _))
   go_wp2_with fail
   go_ret
   exact ⟨ret_bool (uh HSA).symm,⟨rfl,rfl,rfl,Nat.le_refl _,fun _ _=>rfl⟩⟩
  ·go_quiet (first | (go_at_call 238; with_reducible exact uh HA1 _) | (go_at_call 238; with_reducible exact uh HA2 _))
   go_wp2_with fail
   go_ret
   exact ⟨ret_bool (by rw [uh HSA]; rfl),⟨rfl,rfl,rfl,Nat.le_refl _,fun _ _=>rfl⟩⟩
end
structure FE where
 A : Nat
 f : CF
 av : Value
 ov : Value
def FE.bs (x : FE) : List Nat:=bsF x.A x.av x.ov
def FE.p (x : FE) : Value:=.pointer (some ⟨x.A,0,none⟩)
def flF (v : Value) (L : List FE) : List Nat:=v.ownBlock.toList ++ L.flatMap FE.bs
structure Fl (w : World) (B : Nat) (v : Value) (L : List FE) : Prop where
 row : w.ownsRow B 66 1 v L.length (L.map FE.p)
 fm : ∀ x ∈ L,Fm w x.A x.f x.av x.ov
 ge : ∀ x ∈ L,∀ k ∈ x.bs,B ≤ k
 nd : (flF v L).Nodup
theorem Tryz.infoPF : (Tryz.prog.info? 66).map (fun i=>(i.zero,i.size,i.bytes)) = some (some (.pointer none),1,8):=by kernel_rfl
section
variable {w w' w1 : World} {B : Nat} {v : Value} {L : List FE}
theorem Fl.lt (h : Fl w B v L) : ∀ k ∈ flF v L,k < w.heap.size:=by
 intro k hk
 rcases List.mem_append.1 hk with hk | hk
 ·exact (h.row.lt k (by simpa using hk)).2
 ·obtain ⟨x,hx,hk⟩:=List.mem_flatMap.1 hk
  exact (h.fm x hx).lt k hk
theorem Fl.geB (h : Fl w B v L) : ∀ k ∈ flF v L,B ≤ k:=by
 intro k hk
 rcases List.mem_append.1 hk with hk | hk
 ·exact (h.row.lt k (by simpa using hk)).1
 ·obtain ⟨x,hx,hk⟩:=List.mem_flatMap.1 hk
  exact h.ge x hx k hk
theorem Fl.of_eq (h : Fl w B v L) (he : ∀ k ∈ flF v L,w'.heap[k]? = w.heap[k]?) : Fl w' B v L :=
 ⟨ownsRow_of_eq h.row (fun k hk=>he k (List.mem_append_left _ (by simpa using hk))),fun x hx=>(h.fm x hx).of_eq (fun k hk=>he k (List.mem_append_right _ (List.mem_flatMap.2 ⟨x,hx,hk⟩))),h.ge,h.nd⟩
theorem Fl.stp {F F' : List Nat} (h : Fl w B v L) (hs : Stp F w F' w') (hd : ∀ k ∈ flF v L,k ∉ F) : Fl w' B v L:=h.of_eq (fun k hk=>hs.block k (h.lt k hk) (hd k hk))
theorem Fl.below (h : Fl w B v L) (hb : Below w.heap.size w w') : Fl w' B v L:=h.of_eq (fun k hk=>hb.block k (h.lt k hk))
theorem Fl.nil0 (w : World) (B : Nat) : Fl w B (.slice none 0 0) []:=⟨⟨rfl,.inl ⟨rfl,rfl⟩⟩,fun x hx=>by simp at hx,fun x hx=>by simp at hx,by simp [flF,Value.ownBlock]⟩
theorem Fl.app {g1 c1 : Nat} {o : Obj} {x : FE} (h : Fl w B v L) (hx : Fm w x.A x.f x.av x.ov) (hB : ∀ k ∈ x.bs,B ≤ k) (hd : ∀ k ∈ x.bs,k ∉ flF v L) (hBw : B ≤ w.heap.size)
  (hown : w1.ownsRow B 66 1 (.slice (some ⟨g1,0,none⟩) (L.length + 1) c1) (L.length + 1) (L.map FE.p ++ [x.p])) (hg : (w.alloc o).grownBy w1 v.ownBlock) (hblk : some g1 = v.ownBlock ∨ g1 = (w.alloc o).heap.size) :
  Fl w1 B (.slice (some ⟨g1,0,none⟩) (L.length + 1) c1) (L ++ [x]) ∧ Stp v.ownBlock.toList w [g1] w1 ∧ (∀ k ∈ flF (.slice (some ⟨g1,0,none⟩) (L.length + 1) c1) (L ++ [x]),k ∈ flF v L ∨ k ∈ x.bs ∨ w.heap.size ≤ k):=by
 have hs:=stp_grow hg hblk
 have hnd:=h.nd
 unfold flF at hnd
 rw [List.nodup_append] at hnd
 have key : ∀ y : FE,Fm w y.A y.f y.av y.ov → (∀ k ∈ y.bs,v.ownBlock ≠ some k) → Fm w1 y.A y.f y.av y.ov:=fun y hy hv=>hy.of_eq (fun k hk=>hs.block k (hy.lt k hk) (by simpa using hv k hk))
 have hg1 : ∀ k ∈ (L ++ [x]).flatMap FE.bs,g1 ≠ k:=by
  intro k hk e
  subst e
  have hlt : g1 < w.heap.size:=by
   obtain ⟨y,hy,hk'⟩:=List.mem_flatMap.1 hk
   rcases List.mem_append.1 hy with hy | hy
   ·exact (h.fm y hy).lt _ hk'
   ·rw [List.mem_singleton] at hy; subst hy; exact hx.lt _ hk'
  rcases hblk with e | e
  ·rw [List.flatMap_append,List.mem_append] at hk
   rcases hk with hk | hk
   ·exact hnd.2.2 g1 (by rw [← e]; simp) g1 hk rfl
   ·simp only [List.flatMap_cons,List.flatMap_nil,List.append_nil] at hk
    exact hd g1 hk (List.mem_append_left _ (by rw [← e]; simp))
  ·rw [e] at hlt
   simp at hlt
   omega
 refine ⟨⟨?_,?_,?_,?_⟩,hs,?_⟩
 ·rw [List.length_append,List.length_singleton,List.map_append]; exact hown
 ·intro y hy
  rcases List.mem_append.1 hy with hy | hy
  ·exact key y (h.fm y hy) (fun k hk e=>hnd.2.2 k (by rw [e]; simp) k (List.mem_flatMap.2 ⟨y,hy,hk⟩) rfl)
  ·rw [List.mem_singleton] at hy; subst hy
   exact key y hx (fun k hk e=>hd k hk (List.mem_append_left _ (by rw [e]; simp)))
 ·intro y hy
  rcases List.mem_append.1 hy with hy | hy
  ·exact h.ge y hy
  ·rw [List.mem_singleton] at hy; subst hy; exact hB
 ·show ([g1] ++ (L ++ [x]).flatMap FE.bs).Nodup
  rw [List.nodup_append]
  refine ⟨by simp,?_,fun a ha b hb e=>hg1 b hb (by rw [List.mem_singleton] at ha; rw [← ha]; exact e)⟩
  rw [List.flatMap_append,List.nodup_append]
  refine ⟨hnd.2.1,by simpa [FE.bs] using hx.nd,?_⟩
  intro a ha b hb e
  simp only [List.flatMap_cons,List.flatMap_nil,List.append_nil] at hb
  subst e
  exact hd a hb (List.mem_append_right _ ha)
 ·intro k hk
  rcases List.mem_append.1 hk with hk | hk
  ·have e : k = g1:=by simpa [Value.ownBlock,eq_comm] using hk
   subst e
   rcases hblk with e | e
   ·exact Or.inl (List.mem_append_left _ (by rw [← e]; simp))
   ·right; right; rw [e]; simp
  ·rw [List.flatMap_append,List.mem_append] at hk
   rcases hk with hk | hk
   ·exact Or.inl (List.mem_append_right _ hk)
   ·simp only [List.flatMap_cons,List.flatMap_nil,List.append_nil] at hk
    exact Or.inr (Or.inl hk)
end
section
variable {w : World} {A : Nat} {f : CF} {av ov : Value}
set_option maxRecDepth 100000 in
set_option maxHeartbeats 2000000 in
theorem class_any (h : IsF w A f av ov) (k i : Nat) (hi : i < 4) : Calls Tryz.prog 161 #[.pointer (some ⟨A,0,none⟩),.agg #[.int .i64 k,.int .i64 i]] w fun e w'=>e = .returned (.int .i64 (clT f k i : Nat)) ∧ Below w.heap.size w w':=by
 obtain ⟨W1,hW1⟩ : ∃ W1,W1 = w.alloc (.cells #[Value.int .i64 (k : Int),.int .i64 (i : Int)] 98):=⟨_,rfl⟩
 have hbx : Below w.heap.size w W1:=by rw [hW1]; exact below_boxQ w _
 have hX : Bk W1 w.heap.size 98 [Value.int .i64 (k : Int),.int .i64 (i : Int)]:=by rw [hW1]; exact Bk.new w _ _
 have b0:=hX.cell 0 rfl
 have b1:=hX.cell 1 rfl
 have x0:=(h.below hbx).cls (i:=0) (by omega)
 have x1:=(h.below hbx).cls (i:=1 + i) (by omega)
 unfold clV at x0 x1
 obtain ⟨c,hc⟩ : ∃ c,c = clT f k i:=⟨_,rfl⟩
 rw [← hc]
 have HB:=hide hbx
 have i1 : (0 : Int) ≤ 1 + (i : Int):=by omega
 have i2 : 1 + (i : Int) < 5:=by omega
 have i3 : (1 + (i : Int)).toNat = 1 + i:=by omega
 obtain ⟨c0,hc0⟩ : ∃ c0,c0 = f.cl.getD 0 0:=⟨_,rfl⟩
 obtain ⟨c1,hc1⟩ : ∃ c1,c1 = f.cl.getD (1 + i) 0:=⟨_,rfl⟩
 rw [← hc0] at x0
 rw [← hc1] at x1
 unfold clT at hc
 rw [← hc0,← hc1] at hc
 by_cases hk : k = 1
 ·have d0 : ((k : Int) == 1) = true:=by simp [hk]
  rw [if_pos hk] at hc
  have HC:=hide hc
  clear h hbx hX hc hk hc0 hc1
  go_enter Tryz.func161,Tryz.ntmps161
  go_upto_region 1 with fail
  rw [← hW1]
  clear hW1
  go_wp2_with fail
  go_quiet (fail)
  go_wp2_with fail
  go_ret
  exact ⟨by rw [uh HC]; rfl,⟨(uh HB).os,(uh HB).tape,(uh HB).output,(uh HB).size,(uh HB).block⟩⟩
 ·have d0 : ((k : Int) == 1) = false:=by simp; omega
  rw [if_neg hk] at hc
  have HC:=hide hc
  clear h hbx hX hc hk hc0 hc1
  go_enter Tryz.func161,Tryz.ntmps161
  go_upto_region 1 with fail
  rw [← hW1]
  clear hW1
  go_wp2_with fail
  go_ret
  exact ⟨by rw [uh HC]; rfl,uh HB⟩
end
structure Oo (w : World) (O : Nat) (nu da fu : Bool) (nv tv : Value) (Ln Lt : List FE) : Prop where
 bk : Bk w O 210 [nv,tv,.bool nu,.bool da,.bool fu]
 nx : Fl w 0 nv Ln
 ot : Fl w 0 tv Lt
 nd : (O :: (flF nv Ln ++ flF tv Lt)).Nodup
def fpO (O : Nat) (nv tv : Value) (Ln Lt : List FE) : List Nat:=O :: (flF nv Ln ++ flF tv Lt)
section
variable {w w' : World} {O : Nat} {nu da fu : Bool} {nv tv : Value} {Ln Lt : List FE}
theorem Oo.lt (h : Oo w O nu da fu nv tv Ln Lt) : ∀ k ∈ fpO O nv tv Ln Lt,k < w.heap.size:=by
 intro k hk
 rcases List.mem_cons.1 hk with rfl | hk
 ·exact h.bk.lt
 ·rcases List.mem_append.1 hk with hk | hk
  ·exact h.nx.lt k hk
  ·exact h.ot.lt k hk
theorem Oo.of_eq (h : Oo w O nu da fu nv tv Ln Lt) (he : ∀ k ∈ fpO O nv tv Ln Lt,w'.heap[k]? = w.heap[k]?) : Oo w' O nu da fu nv tv Ln Lt :=
 ⟨h.bk.of_eq (he O (by simp [fpO])),h.nx.of_eq (fun k hk=>he k (by simp only [fpO,List.mem_cons,List.mem_append]; exact Or.inr (Or.inl hk))),h.ot.of_eq (fun k hk=>he k (by simp only [fpO,List.mem_cons,List.mem_append]; exact Or.inr (Or.inr hk))),h.nd⟩
theorem Oo.stp {F F' : List Nat} (h : Oo w O nu da fu nv tv Ln Lt) (hs : Stp F w F' w') (hd : ∀ k ∈ fpO O nv tv Ln Lt,k ∉ F) : Oo w' O nu da fu nv tv Ln Lt:=h.of_eq (fun k hk=>hs.block k (h.lt k hk) (hd k hk))
theorem Oo.below (h : Oo w O nu da fu nv tv Ln Lt) (hb : Below w.heap.size w w') : Oo w' O nu da fu nv tv Ln Lt:=h.of_eq (fun k hk=>hb.block k (h.lt k hk))
theorem Oo.flag (h : Oo w O nu da fu nv tv Ln Lt) {nu' da' fu' : Bool} (j : Nat) (hj : 2 ≤ j ∧ j ≤ 4) (he : [nv,tv,.bool nu,.bool da,.bool fu].set j (.bool true) = [nv,tv,Value.bool nu',.bool da',.bool fu']) : Oo (w.setCell ⟨O,j,none⟩ (.bool true)) O nu' da' fu' nv tv Ln Lt:=by
 have hnd:=List.nodup_cons.1 h.nd
 refine ⟨?_,h.nx.of_eq (fun k hk=>Below.heap_setCell _ _ _ _ ?_),h.ot.of_eq (fun k hk=>Below.heap_setCell _ _ _ _ ?_),h.nd⟩
 ·have:=h.bk.set j (.bool true)
  rw [he] at this
  exact this
 ·rintro rfl
  exact hnd.1 (List.mem_append_left _ hk)
 ·rintro rfl
  exact hnd.1 (List.mem_append_right _ hk)
theorem Oo.addN {g1 c1 : Nat} {o : Obj} {x : FE} {w1 : World} (h : Oo w O nu da fu nv tv Ln Lt) (hx : Fm w x.A x.f x.av x.ov) (hd : ∀ k ∈ x.bs,k ∉ fpO O nv tv Ln Lt)
  (hown : w1.ownsRow 0 66 1 (.slice (some ⟨g1,0,none⟩) (Ln.length + 1) c1) (Ln.length + 1) (Ln.map FE.p ++ [x.p])) (hg : (w.alloc o).grownBy w1 nv.ownBlock) (hblk : some g1 = nv.ownBlock ∨ g1 = (w.alloc o).heap.size) :
  Oo (w1.setCell ⟨O,0,none⟩ (.slice (some ⟨g1,0,none⟩) (Ln.length + 1) c1)) O nu da fu (.slice (some ⟨g1,0,none⟩) (Ln.length + 1) c1) tv (Ln ++ [x]) Lt ∧
  Stp (fpO O nv tv Ln Lt ++ x.bs) w (fpO O (.slice (some ⟨g1,0,none⟩) (Ln.length + 1) c1) tv (Ln ++ [x]) Lt) (w1.setCell ⟨O,0,none⟩ (.slice (some ⟨g1,0,none⟩) (Ln.length + 1) c1)) ∧
  (∃ u,w1.cell? ⟨O,0,none⟩ = some u) ∧ w1.frozen? ⟨O,0,none⟩ = false:=by
 have hnd:=List.nodup_cons.1 h.nd
 have hnd2:=List.nodup_append.1 hnd.2
 obtain ⟨a1,a2,a3⟩:=h.nx.app hx (fun k _=>Nat.zero_le _) (fun k hk hn=>hd k hk (by simp only [fpO,List.mem_cons,List.mem_append]; exact Or.inr (Or.inl hn))) (Nat.zero_le _) hown hg hblk
 have hOv : nv.ownBlock ≠ some O:=fun e=>hnd.1 (List.mem_append_left _ (List.mem_append_left _ (by rw [e]; simp)))
 have hb1 : Bk w1 O 210 [nv,tv,.bool nu,.bool da,.bool fu]:=h.bk.of_eq (a2.block O h.bk.lt (by simpa using hOv))
 have ht1 : Fl w1 0 tv Lt:=h.ot.stp a2 (fun k hk hn=>hnd2.2.2 k (List.mem_append_left _ hn) k hk rfl)
 have hOn : ∀ k ∈ flF (.slice (some ⟨g1,0,none⟩) (Ln.length + 1) c1) (Ln ++ [x]),k ≠ O:=by
  intro k hk e
  subst e
  rcases a3 k hk with q | q | q
  ·exact hnd.1 (List.mem_append_left _ q)
  ·exact hd k q (by simp [fpO])
  ·have:=h.bk.lt; omega
 have hOt : ∀ k ∈ flF tv Lt,k ≠ O:=fun k hk e=>hnd.1 (by subst e; exact List.mem_append_right _ hk)
 refine ⟨⟨hb1.set 0 _,a1.of_eq (fun k hk=>Below.heap_setCell _ _ _ _ (hOn k hk)),ht1.of_eq (fun k hk=>Below.heap_setCell _ _ _ _ (hOt k hk)),?_⟩,?_,⟨_,hb1.cell 0 rfl⟩,hb1.frz 0⟩
 ·rw [List.nodup_cons,List.nodup_append]
  refine ⟨fun hm=>?_,a1.nd,h.ot.nd,fun a ha b hb e=>?_⟩
  ·rcases List.mem_append.1 hm with hm | hm
   ·exact hOn O hm rfl
   ·exact hOt O hm rfl
  ·subst e
   rcases a3 a ha with q | q | q
   ·exact hnd2.2.2 a q a hb rfl
   ·exact hd a q (by simp only [fpO,List.mem_cons,List.mem_append]; exact Or.inr (Or.inr hb))
   ·have:=h.ot.lt a hb; omega
 ·refine ((a2.wide (G:=fpO O nv tv Ln Lt ++ x.bs) (fun k hk=>List.mem_append_left _ (by simp only [fpO,flF,List.mem_cons,List.mem_append]; exact Or.inr (Or.inl (Or.inl hk))))).setCell (p:=⟨O,0,none⟩) (Or.inl (by simp [fpO])) _).foots (fun k hk=>?_)
  rcases List.mem_cons.1 hk with rfl | hk
  ·exact Or.inl (by simp [fpO])
  ·rcases List.mem_append.1 hk with hk | hk
   ·rcases a3 k hk with q | q | q
    ·exact Or.inl (List.mem_append_left _ (by simp only [fpO,List.mem_cons,List.mem_append]; exact Or.inr (Or.inl q)))
    ·exact Or.inl (List.mem_append_right _ q)
    ·exact Or.inr q
   ·exact Or.inl (List.mem_append_left _ (by simp only [fpO,List.mem_cons,List.mem_append]; exact Or.inr (Or.inr hk)))
theorem Oo.addT {g1 c1 : Nat} {o : Obj} {x : FE} {w1 : World} (h : Oo w O nu da fu nv tv Ln Lt) (hx : Fm w x.A x.f x.av x.ov) (hd : ∀ k ∈ x.bs,k ∉ fpO O nv tv Ln Lt)
  (hown : w1.ownsRow 0 66 1 (.slice (some ⟨g1,0,none⟩) (Lt.length + 1) c1) (Lt.length + 1) (Lt.map FE.p ++ [x.p])) (hg : (w.alloc o).grownBy w1 tv.ownBlock) (hblk : some g1 = tv.ownBlock ∨ g1 = (w.alloc o).heap.size) :
  Oo (w1.setCell ⟨O,1,none⟩ (.slice (some ⟨g1,0,none⟩) (Lt.length + 1) c1)) O nu da fu nv (.slice (some ⟨g1,0,none⟩) (Lt.length + 1) c1) Ln (Lt ++ [x]) ∧
  Stp (fpO O nv tv Ln Lt ++ x.bs) w (fpO O nv (.slice (some ⟨g1,0,none⟩) (Lt.length + 1) c1) Ln (Lt ++ [x])) (w1.setCell ⟨O,1,none⟩ (.slice (some ⟨g1,0,none⟩) (Lt.length + 1) c1)) ∧
  (∃ u,w1.cell? ⟨O,1,none⟩ = some u) ∧ w1.frozen? ⟨O,1,none⟩ = false:=by
 have hnd:=List.nodup_cons.1 h.nd
 have hnd2:=List.nodup_append.1 hnd.2
 obtain ⟨a1,a2,a3⟩:=h.ot.app hx (fun k _=>Nat.zero_le _) (fun k hk hn=>hd k hk (by simp only [fpO,List.mem_cons,List.mem_append]; exact Or.inr (Or.inr hn))) (Nat.zero_le _) hown hg hblk
 have hOv : tv.ownBlock ≠ some O:=fun e=>hnd.1 (List.mem_append_right _ (List.mem_append_left _ (by rw [e]; simp)))
 have hb1 : Bk w1 O 210 [nv,tv,.bool nu,.bool da,.bool fu]:=h.bk.of_eq (a2.block O h.bk.lt (by simpa using hOv))
 have ht1 : Fl w1 0 nv Ln:=h.nx.stp a2 (fun k hk hn=>hnd2.2.2 k hk k (List.mem_append_left _ hn) rfl)
 have hOn : ∀ k ∈ flF (.slice (some ⟨g1,0,none⟩) (Lt.length + 1) c1) (Lt ++ [x]),k ≠ O:=by
  intro k hk e
  subst e
  rcases a3 k hk with q | q | q
  ·exact hnd.1 (List.mem_append_right _ q)
  ·exact hd k q (by simp [fpO])
  ·have:=h.bk.lt; omega
 have hOt : ∀ k ∈ flF nv Ln,k ≠ O:=fun k hk e=>hnd.1 (by subst e; exact List.mem_append_left _ hk)
 refine ⟨⟨hb1.set 1 _,ht1.of_eq (fun k hk=>Below.heap_setCell _ _ _ _ (hOt k hk)),a1.of_eq (fun k hk=>Below.heap_setCell _ _ _ _ (hOn k hk)),?_⟩,?_,⟨_,hb1.cell 1 rfl⟩,hb1.frz 1⟩
 ·rw [List.nodup_cons,List.nodup_append]
  refine ⟨fun hm=>?_,h.nx.nd,a1.nd,fun a ha b hb e=>?_⟩
  ·rcases List.mem_append.1 hm with hm | hm
   ·exact hOt O hm rfl
   ·exact hOn O hm rfl
  ·subst e
   rcases a3 a hb with q | q | q
   ·exact hnd2.2.2 a ha a q rfl
   ·exact hd a q (by simp only [fpO,List.mem_cons,List.mem_append]; exact Or.inr (Or.inl ha))
   ·have:=h.nx.lt a ha; omega
 ·refine ((a2.wide (G:=fpO O nv tv Ln Lt ++ x.bs) (fun k hk=>List.mem_append_left _ (by simp only [fpO,flF,List.mem_cons,List.mem_append]; exact Or.inr (Or.inr (Or.inl hk))))).setCell (p:=⟨O,1,none⟩) (Or.inl (by simp [fpO])) _).foots (fun k hk=>?_)
  rcases List.mem_cons.1 hk with rfl | hk
  ·exact Or.inl (by simp [fpO])
  ·rcases List.mem_append.1 hk with hk | hk
   ·exact Or.inl (List.mem_append_left _ (by simp only [fpO,List.mem_cons,List.mem_append]; exact Or.inr (Or.inl hk)))
   ·rcases a3 k hk with q | q | q
    ·exact Or.inl (List.mem_append_left _ (by simp only [fpO,List.mem_cons,List.mem_append]; exact Or.inr (Or.inr q)))
    ·exact Or.inl (List.mem_append_right _ q)
    ·exact Or.inr q
set_option maxRecDepth 100000 in
set_option maxHeartbeats 2000000 in
theorem goOn_any {A : Nat} {f : CF} {av ov : Value} (h : Oo w O nu da fu nv tv Ln Lt) (hF : Fm w A f av ov) (hO : FoOk f) (ha : f.ap.length ≤ 100000) (hd : ∀ k ∈ bsF A av ov,k ∉ fpO O nv tv Ln Lt) (hn : Ln.length ≤ 900000) :
  Calls Tryz.prog 167 #[.pointer (some ⟨O,0,none⟩),.pointer (some ⟨A,0,none⟩)] w fun e w'=>e = .returned (.tuple #[]) ∧ ∃ nv' x,x.A = A ∧ x.f = tdF f ∧ Oo w' O nu da fu nv' tv (Ln ++ [x]) Lt ∧ Stp (fpO O nv tv Ln Lt ++ bsF A av ov) w (fpO O nv' tv (Ln ++ [x]) Lt) w':=by
 obtain ⟨i0,hi,hz0,hz1,hz2⟩:=info_parts Tryz.infoPF
 have HT:=hide (tidy_any hF hO ha)
 have H:=hide h
 have HD:=hide hd
 clear h hF hO hd
 go_enter Tryz.func167,Tryz.ntmps167
 go_wp2_with fail
 refine (uh HT).mono ?_
 rintro e w1 ⟨rfl,av1,ov1,hF1,hs1⟩
 have h1:=(uh H).stp hs1 (fun k hk hn=>uh HD k hn hk)
 have hd1 : ∀ k ∈ bsF A av1 ov1,k ∉ fpO O nv tv Ln Lt:=by
  intro k hk hn
  rcases hs1.foot k hk with q | q
  ·exact uh HD k q hn
  ·have:=(uh H).lt k hn; omega
 obtain ⟨na,nc,hnv,-,-⟩:=own_slc h1.nx.row
 subst hnv
 have c0:=h1.bk.cell 0 rfl
 have HS:=hide h1.nx.row
 have H1:=hide h1
 have HF1:=hide hF1
 have HD1:=hide hd1
 have HS1:=hide hs1
 clear h1 hF1 hd1 hs1 HT
 go_wp2_with (at_builtin; refine wpList_app1 _ rfl (.tmp 10) (.tmp 12) 162 rfl 0 66 i0 _ 1 8 Tryz.underlying162 hi hz0 hz1 hz2 rfl (by decide) _ Ln.length (Ln.map FE.p) rfl ((uh HS).alloc _) ⟨_,0,none⟩ 1 [.pointer (some ⟨A,0,none⟩)] rfl rfl (new_cells _ _ (by simp) [.pointer (some ⟨A,0,none⟩)] _) (by intro u hu; simp only [List.mem_singleton] at hu; subst hu; rfl) (by omega) (by omega) (Nat.zero_le _) ?_)
 intro g1 cap1 w2 hown2 hgrow2 hblk2
 obtain ⟨q1,q2,⟨u,q3⟩,q4⟩:=(uh H1).addN (x:=⟨A,tdF f,av1,ov1⟩) (uh HF1) (uh HD1) hown2 hgrow2 (by simpa using hblk2)
 have HN:=hide q1
 have HSN:=hide q2
 clear hown2 hgrow2 hblk2 q1 q2 c0
 go_wp2_with fail
 go_end0
 refine ⟨rfl,_,⟨A,tdF f,av1,ov1⟩,rfl,rfl,uh HN,?_⟩
 have h1:=(uh HS1).wide (G:=fpO O (.slice na Ln.length nc) tv Ln Lt ++ bsF A av ov) (fun k hk=>List.mem_append_right _ hk)
 have h2:=uh HSN
 refine ⟨h2.os.trans h1.os,h2.tape.trans h1.tape,h2.output.trans h1.output,Nat.le_trans h1.size h2.size,fun k hk hn=>?_,fun k hk=>?_⟩
 ·rw [h2.block k (Nat.lt_of_lt_of_le hk h1.size) (fun hm=>?_)]
  ·exact h1.block k hk hn
  ·rcases List.mem_append.1 hm with hm | hm
   ·exact hn (List.mem_append_left _ hm)
   ·rcases (uh HS1).foot k hm with q | q
    ·exact hn (List.mem_append_right _ q)
    ·omega
 ·rcases h2.foot k hk with q | q
  ·rcases List.mem_append.1 q with q | q
   ·exact Or.inl (List.mem_append_left _ q)
   ·rcases (uh HS1).foot k q with q | q
    ·exact Or.inl (List.mem_append_right _ q)
    ·exact Or.inr q
  ·exact Or.inr (Nat.le_trans h1.size q)
set_option maxRecDepth 100000 in
set_option maxHeartbeats 2000000 in
theorem turn_any {A : Nat} {f : CF} {av ov : Value} (h : Oo w O nu da fu nv tv Ln Lt) (hF : Fm w A f av ov) (hO : FoOk f) (ha : f.ap.length ≤ 100000) (hd : ∀ k ∈ bsF A av ov,k ∉ fpO O nv tv Ln Lt) (hn : Lt.length ≤ 900000) :
  Calls Tryz.prog 168 #[.pointer (some ⟨O,0,none⟩),.pointer (some ⟨A,0,none⟩)] w fun e w'=>e = .returned (.tuple #[]) ∧ ∃ tv' x,x.A = A ∧ x.f = tdF f ∧ Oo w' O nu da fu nv tv' Ln (Lt ++ [x]) ∧ Stp (fpO O nv tv Ln Lt ++ bsF A av ov) w (fpO O nv tv' Ln (Lt ++ [x])) w':=by
 obtain ⟨i0,hi,hz0,hz1,hz2⟩:=info_parts Tryz.infoPF
 have HT:=hide (tidy_any hF hO ha)
 have H:=hide h
 have HD:=hide hd
 clear h hF hO hd
 go_enter Tryz.func168,Tryz.ntmps168
 go_wp2_with fail
 refine (uh HT).mono ?_
 rintro e w1 ⟨rfl,av1,ov1,hF1,hs1⟩
 have h1:=(uh H).stp hs1 (fun k hk hn=>uh HD k hn hk)
 have hd1 : ∀ k ∈ bsF A av1 ov1,k ∉ fpO O nv tv Ln Lt:=by
  intro k hk hn
  rcases hs1.foot k hk with q | q
  ·exact uh HD k q hn
  ·have:=(uh H).lt k hn; omega
 obtain ⟨na,nc,hnv,-,-⟩:=own_slc h1.ot.row
 subst hnv
 have c0:=h1.bk.cell 1 rfl
 have HS:=hide h1.ot.row
 have H1:=hide h1
 have HF1:=hide hF1
 have HD1:=hide hd1
 have HS1:=hide hs1
 clear h1 hF1 hd1 hs1 HT
 go_wp2_with (at_builtin; refine wpList_app1 _ rfl (.tmp 10) (.tmp 12) 162 rfl 0 66 i0 _ 1 8 Tryz.underlying162 hi hz0 hz1 hz2 rfl (by decide) _ Lt.length (Lt.map FE.p) rfl ((uh HS).alloc _) ⟨_,0,none⟩ 1 [.pointer (some ⟨A,0,none⟩)] rfl rfl (new_cells _ _ (by simp) [.pointer (some ⟨A,0,none⟩)] _) (by intro u hu; simp only [List.mem_singleton] at hu; subst hu; rfl) (by omega) (by omega) (Nat.zero_le _) ?_)
 intro g1 cap1 w2 hown2 hgrow2 hblk2
 obtain ⟨q1,q2,⟨u,q3⟩,q4⟩:=(uh H1).addT (x:=⟨A,tdF f,av1,ov1⟩) (uh HF1) (uh HD1) hown2 hgrow2 (by simpa using hblk2)
 have HN:=hide q1
 have HSN:=hide q2
 clear hown2 hgrow2 hblk2 q1 q2 c0
 go_wp2_with fail
 go_end0
 refine ⟨rfl,_,⟨A,tdF f,av1,ov1⟩,rfl,rfl,uh HN,?_⟩
 have h1:=(uh HS1).wide (G:=fpO O nv (.slice na Lt.length nc) Ln Lt ++ bsF A av ov) (fun k hk=>List.mem_append_right _ hk)
 have h2:=uh HSN
 refine ⟨h2.os.trans h1.os,h2.tape.trans h1.tape,h2.output.trans h1.output,Nat.le_trans h1.size h2.size,fun k hk hn=>?_,fun k hk=>?_⟩
 ·rw [h2.block k (Nat.lt_of_lt_of_le hk h1.size) (fun hm=>?_)]
  ·exact h1.block k hk hn
  ·rcases List.mem_append.1 hm with hm | hm
   ·exact hn (List.mem_append_left _ hm)
   ·rcases (uh HS1).foot k hm with q | q
    ·exact hn (List.mem_append_right _ q)
    ·omega
 ·rcases h2.foot k hk with q | q
  ·rcases List.mem_append.1 q with q | q
   ·exact Or.inl (List.mem_append_left _ q)
   ·rcases (uh HS1).foot k q with q | q
    ·exact Or.inl (List.mem_append_right _ q)
    ·exact Or.inr q
  ·exact Or.inr (Nat.le_trans h1.size q)
end
end Go.Proofs.YtciihepbeacppabGreat
