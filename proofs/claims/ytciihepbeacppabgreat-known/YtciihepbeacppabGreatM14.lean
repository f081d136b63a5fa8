import Derived.Test.YtciihepbeacppabGreatM13
import Derived.Deep.LoopGhost
import Derived.Deep.Cut
import Derived.Deep.CutRange
import Derived.Deep.DeepCutAuto
namespace Go.Proofs.YtciihepbeacppabGreat
open Go.RowKit
set_option linter.unusedVariables false
def mapK (g : Pr → Pr) (l : List Pr) (k : Nat) : List Pr:=(l.take k).map g ++ l.drop k
theorem mapK_len (g : Pr → Pr) (l : List Pr) (k : Nat) : (mapK g l k).length = l.length:=by simp [mapK]; omega
theorem mapK_get {g : Pr → Pr} {l : List Pr} {k : Nat} (hk : k < l.length) : (mapK g l k).getD k pr0 = l.getD k pr0:=by
 rw [pr_at hk]
 unfold mapK
 rw [List.getD_eq_getElem?_getD,List.getElem?_append_right (by simp; omega)]
 simp [hk,Nat.min_eq_left (Nat.le_of_lt hk)]
theorem mapK_step {g : Pr → Pr} {l : List Pr} {k : Nat} (hk : k < l.length) : mapK g l (k + 1) = (mapK g l k).set k (g (l.getD k pr0)):=by
 rw [pr_at hk]
 unfold mapK
 have e : l.drop k = l[k] :: l.drop (k + 1):=List.drop_eq_getElem_cons hk
 have e2 : (l.take (k + 1)).map g = (l.take k).map g ++ [g l[k]]:=by
  rw [List.take_add_one,List.getElem?_eq_getElem hk,List.map_append]; rfl
 have e3 : ((l.take k).map g).length = k:=by simp; omega
 rw [e2,e,List.set_append_right _ _ (by omega),e3,Nat.sub_self,List.set_cons_zero,List.append_assoc]
 rfl
theorem mapK_all {g : Pr → Pr} {l : List Pr} {k : Nat} (hk : l.length ≤ k) : mapK g l k = l.map g:=by
 unfold mapK; rw [List.take_of_length_le hk,List.drop_eq_nil_of_le hk,List.append_nil]
theorem set_sameP {l : List Pr} {k : Nat} (hk : k < l.length) : l.set k (l.getD k pr0) = l:=by
 rw [pr_at hk,List.set_getElem_self]
def fo1 (m e : Nat) (p : Pr) : Pr:=if p.r = m then ⟨4,p.l,e⟩ else p
def foS1 (f : CF) (k : Nat) : CF:={ f with ow:=tkO (f.ow.map (fo1 (f.ow.getD k pr0).l (f.ow.getD k pr0).r)) k }
def foldN : Nat → CF → CF
 | 0,f=>f
 | n + 1,f=>match smF f with | none=>f | some k=>foldN n (foS1 f k)
def foF (f : CF) : CF:=foldN f.ow.length f
theorem tkK_len2 (l : List Pr) (i k : Nat) : (tkK l i k).length = if i < k then k - 1 else k:=by
 induction k with
 | zero=>simp [tkK]
 | succ k ih =>
  rw [tkK_step,List.length_append,ih]
  by_cases h : k = i
  ·rw [if_pos h,if_neg (by omega),if_pos (by omega)]; simp
  ·rw [if_neg h]
   by_cases h2 : i < k
   ·rw [if_pos h2,if_pos (by omega)]; simp; omega
   ·rw [if_neg h2,if_neg (by omega)]; simp
theorem tkO_len {l : List Pr} {k : Nat} (hk : k < l.length) : (tkO l k).length = l.length - 1:=by
 unfold tkO; rw [tkK_len2,if_pos hk]
theorem smF_lt {f : CF} {k : Nat} (h : smF f = some k) : k < f.ow.length:=by
 unfold smF at h
 rw [List.findIdx?_eq_some_iff_getElem] at h
 exact h.1
section
variable {w : World} {A : Nat} {f : CF} {av ov : Value}
set_option maxRecDepth 100000 in
set_option maxHeartbeats 4000000 in
theorem fold_any (h : Fm w A f av ov) (ho : f.ow.length ≤ 100000) : Calls Tryz.prog 153 #[.pointer (some ⟨A,0,none⟩)] w fun e w'=>e = .returned (.tuple #[]) ∧ ∃ ov',Fm w' A (foF f) av ov' ∧ Stp (bsF A av ov) w (bsF A av ov') w':=by
 have HS0:=hide (seam_any h.is ho)
 have H:=hide h
 clear h
 go_enter Tryz.func153,Tryz.ntmps153
 go_wp2_with fail
 refine (uh HS0).mono ?_
 rintro e w1 ⟨rfl,hb1⟩
 have HI0 : Hid (Fm w1 A f av ov ∧ Stp (bsF A av ov) w (bsF A av ov) w1 ∧ foldN f.ow.length f = foF f):=hide ⟨(uh H).below hb1,Stp.ofBw hb1,rfl⟩
 clear hb1 HS0
 go_wp2_with fail
 go_loopg [2] f.ow.length (fun gn kv wx=>∃ (F : CF) (ov' : Value),F.ow.length = gn ∧ gn ≤ f.ow.length ∧ kv = .int .i64 (opI (smF F)) ∧ Hid (Fm wx A F av ov' ∧ Stp (bsF A av ov) w (bsF A av ov') wx ∧ foldN gn F = foF f))
 case atStart=>exact ⟨f,ov,rfl,Nat.le_refl _,rfl,HI0⟩
 case round =>
  clear HI0
  obtain ⟨F,ov',hlen,hgn,rfl,hI⟩:=hrel
  obtain ⟨G,hG⟩ : ∃ G,G = gk:=⟨_,rfl⟩
  cases hsm : smF F with
  | none =>
   have HE : Hid (F = foF f):=hide (by
    have:=(uh hI).2.2
    rw [← this]
    cases gk with
    | zero=>rfl
    | succ n=>simp [foldN,hsm])
   clear hsm
   go_wp2_with fail
   go_end0
   exact ⟨rfl,ov',by rw [← uh HE]; exact (uh hI).1,(uh hI).2.1⟩
  | some k =>
   have hkl:=smF_lt hsm
   have HNX : Hid (foldN (gk - 1) (foS1 F k) = foF f):=hide (by
    have h1:=(uh hI).2.2
    rw [← h1,show gk = gk - 1 + 1 by omega]
    simp [foldN,hsm])
   obtain ⟨p,hp⟩ : ∃ p,p = F.ow.getD k pr0:=⟨_,rfl⟩
   have HFS : Hid (foS1 F k = { F with ow:=tkO (F.ow.map (fo1 p.l p.r)) k }):=hide (by unfold foS1; rw [← hp])
   obtain ⟨g,cap,hgv,hcm,hcn⟩:=own_formP (uh hI).1.is.ow hkl
   subst hgv
   have c6:=(uh hI).1.is.c6
   obtain ⟨-,x1,x2⟩:=own_cells (uh hI).1.is.ow hkl
   rw [← hp] at x1 x2
   have d0 : decide ((0 : Int) ≤ (k : Int)) = true:=by simp
   have i1 : (0 : Int) ≤ (k : Int):=by omega
   have i2 : (k : Int) < (F.ow.length : Int):=by omega
   have HI1 : Hid (Fm wr A { F with ow:=mapK (fo1 p.l p.r) F.ow 0 } av (.slice (some ⟨g,0,none⟩) F.ow.length cap) ∧ Stp (bsF A av ov) w (bsF A av (.slice (some ⟨g,0,none⟩) F.ow.length cap)) wr):=hide ⟨by simpa [mapK] using (uh hI).1,(uh hI).2.1⟩
   have HLN:=hide hlen
   clear hsm hp hI hlen
   rw [show opI (some k) = (k : Int) from rfl]
   go_wp2_with fail
   go_loopg [5] F.ow.length (fun gn i wx=>∃ (j : Nat),j + gn = F.ow.length ∧ i = .int .i64 j ∧ Hid (Fm wx A { F with ow:=mapK (fo1 p.l p.r) F.ow j } av (.slice (some ⟨g,0,none⟩) F.ow.length cap) ∧ Stp (bsF A av ov) w (bsF A av (.slice (some ⟨g,0,none⟩) F.ow.length cap)) wx))
   case atStart=>exact ⟨0,by omega,rfl,HI1⟩
   case round =>
    clear HI1 x1 x2 c6
    obtain ⟨j,hjn,rfl,hJ⟩:=hrel
    obtain ⟨G2,hG2⟩ : ∃ G2,G2 = gk:=⟨_,rfl⟩
    have c6:=(uh hJ).1.is.c6
    have hml:=mapK_len (fo1 p.l p.r) F.ow j
    by_cases hlt : j < F.ow.length
    ·have hd : decide ((j : Int) < (F.ow.length : Int)) = true:=by simp; omega
     have hrow : wr.ownsRow 0 103 3 (.slice (some ⟨g,0,none⟩) F.ow.length cap) F.ow.length (prCells (mapK (fo1 p.l p.r) F.ow j)):=by
      have:=(uh hJ).1.is.ow
      rwa [show ({ F with ow:=mapK (fo1 p.l p.r) F.ow j } : CF).ow.length = F.ow.length from hml] at this
     have hrow' : wr.ownsRow 0 103 3 (.slice (some ⟨g,0,none⟩) (mapK (fo1 p.l p.r) F.ow j).length cap) (mapK (fo1 p.l p.r) F.ow j).length (prCells (mapK (fo1 p.l p.r) F.ow j)):=by rw [hml]; exact hrow
     obtain ⟨y0,-,y2⟩:=own_cells hrow' (i:=j) (by omega)
     obtain ⟨q,hq⟩ : ∃ q,q = F.ow.getD j pr0:=⟨_,rfl⟩
     rw [mapK_get hlt,← hq] at y0 y2
     have z0:=hrow.frozenAt (j * 3)
     have k1 : (0 : Int) ≤ (j : Int):=by omega
     have k2 : (j : Int) < (F.ow.length : Int):=by omega
     by_cases e1 : q.r = p.l
     ·have b1 : ((q.r : Int) == (p.l : Int)) = true:=by simp [e1]
      have r1:=(hrow.stored (j * 3) (.int .i64 4)).1
      rw [show (Value.int .i64 4) = Value.int .i64 ((4 : Nat) : Int) from rfl,prCells_set0 (by omega),mapK_get hlt,← hq] at r1
      have z2 : (wr.setCell ⟨g,j * 3,none⟩ (.int .i64 4)).frozen? ⟨g,j * 3 + 2,none⟩ = false:=r1.frozenAt (j * 3 + 2)
      have y2' : (wr.setCell ⟨g,j * 3,none⟩ (.int .i64 4)).cell? ⟨g,j * 3 + 2,none⟩ = some (.int .i64 (q.r : Int)):=by rw [World.cell?_setCell_other _ _ _ _ (by simp)]; exact y2
      have r2:=(r1.stored (j * 3 + 2) (.int .i64 (p.r : Int))).1
      rw [prCells_set2 (by simp; omega)] at r2
      have e2 : ((mapK (fo1 p.l p.r) F.ow j).set j ⟨4,q.l,q.r⟩).set j ⟨(((mapK (fo1 p.l p.r) F.ow j).set j ⟨4,q.l,q.r⟩).getD j pr0).k,(((mapK (fo1 p.l p.r) F.ow j).set j ⟨4,q.l,q.r⟩).getD j pr0).l,p.r⟩ = mapK (fo1 p.l p.r) F.ow (j + 1):=by
       rw [mapK_step hlt,← hq,List.set_set]
       have : ((mapK (fo1 p.l p.r) F.ow j).set j ⟨4,q.l,q.r⟩).getD j pr0 = ⟨4,q.l,q.r⟩:=by
        rw [List.getD_eq_getElem?_getD,List.getElem?_set_self (by omega)]; rfl
       rw [this]
       unfold fo1
       rw [if_pos e1]
      rw [e2] at r2
      have hs : Stp (Value.slice (some ⟨g,0,none⟩) F.ow.length cap).ownBlock.toList wr (Value.slice (some ⟨g,0,none⟩) F.ow.length cap).ownBlock.toList ((wr.setCell ⟨g,j * 3,none⟩ (.int .i64 4)).setCell ⟨g,j * 3 + 2,none⟩ (.int .i64 (p.r : Int))):=((Stp.refl _ _).setCell (p:=⟨g,j * 3,none⟩) (Or.inl (by simp [Value.ownBlock])) _).setCell (p:=⟨g,j * 3 + 2,none⟩) (Or.inl (by simp [Value.ownBlock])) _
      have hN:=(uh hJ).1.newRow (ow':=mapK (fo1 p.l p.r) F.ow (j + 1)) (by rw [mapK_len,mapK_len]) (by rw [show ({ F with ow:=mapK (fo1 p.l p.r) F.ow j } : CF).ow.length = F.ow.length from hml]; exact r2) hs
      have c6' : (wr.setCell ⟨g,j * 3,none⟩ (.int .i64 4)).cell? ⟨A,6,none⟩ = some (.slice (some ⟨g,0,none⟩) F.ow.length cap):=by
       rw [World.cell?_setCell_other _ _ _ _ (by intro e; have:=(uh hJ).1.nds.2.1; simp at e; exact this (by rw [e.1]; rfl))]; exact c6
      have HN : Hid (Fm ((wr.setCell ⟨g,j * 3,none⟩ (.int .i64 4)).setCell ⟨g,j * 3 + 2,none⟩ (.int .i64 (p.r : Int))) A { F with ow:=mapK (fo1 p.l p.r) F.ow (j + 1) } av (.slice (some ⟨g,0,none⟩) F.ow.length cap) ∧ Stp (bsF A av ov) w (bsF A av (.slice (some ⟨g,0,none⟩) F.ow.length cap)) ((wr.setCell ⟨g,j * 3,none⟩ (.int .i64 4)).setCell ⟨g,j * 3 + 2,none⟩ (.int .i64 (p.r : Int)))):=hide ⟨hN.1,(uh hJ).2.trans hN.2⟩
      clear e1 r1 r2 e2 hs hN hrow hrow' hq hml hJ
      go_wp2_with fail
      go_roundg (G2 - 1)
      case rel=>exact ⟨j + 1,by omega,by go_num,HN⟩
      case measure=>omega
     ·have b1 : ((q.r : Int) == (p.l : Int)) = false:=by simp; omega
      have HE : Hid (mapK (fo1 p.l p.r) F.ow (j + 1) = mapK (fo1 p.l p.r) F.ow j):=hide (by
       rw [mapK_step hlt,← hq,show fo1 p.l p.r q = q from if_neg e1]
       have h1:=set_sameP (l:=mapK (fo1 p.l p.r) F.ow j) (k:=j) (by omega)
       rw [mapK_get hlt,← hq] at h1
       exact h1)
      clear e1 hrow hrow' hq hml
      go_wp2_with fail
      go_roundg (G2 - 1)
      case rel=>exact ⟨j + 1,by omega,by go_num,hide (by rw [uh HE]; exact uh hJ)⟩
      case measure=>omega
    ·have hd : decide ((j : Int) < (F.ow.length : Int)) = false:=by simp; omega
     have hF : Fm wr A { F with ow:=F.ow.map (fo1 p.l p.r) } av (.slice (some ⟨g,0,none⟩) F.ow.length cap):=by
      have:=(uh hJ).1
      rwa [mapK_all (by omega)] at this
     have HT:=hide (ftake_any hF (by simp; have:=uh HLN; omega) k)
     have HST:=hide (uh hJ).2
     clear hF hml hJ
     go_wp2_with fail
     refine (uh HT).mono ?_
     rintro e w2 ⟨rfl,ov2,hF2,hs2⟩
     have hl2 : (tkO (F.ow.map (fo1 p.l p.r)) k).length = F.ow.length - 1:=by rw [tkO_len (by simpa using hkl)]; simp
     have HS2:=hide (seam_any hF2.is (by show (tkO (F.ow.map (fo1 p.l p.r)) k).length ≤ 100000; have:=uh HLN; omega))
     have HF2:=hide hF2
     have HSS:=hide ((uh HST).trans hs2)
     have HL2:=hide hl2
     clear hF2 hs2 hl2 HT c6
     go_wp2_with fail
     refine (uh HS2).mono ?_
     rintro e w3 ⟨rfl,hb3⟩
     have HF3 : Hid (Fm w3 A (foS1 F k) av ov2 ∧ Stp (bsF A av ov) w (bsF A av ov2) w3):=hide ⟨by rw [uh HFS]; exact (uh HF2).below hb3,(uh HSS).trans (Stp.ofBw hb3)⟩
     clear hb3 HS2
     go_wp2_with fail
     go_roundg (G - 1)
     case rel =>
      have h1:=uh HLN
      refine ⟨foS1 F k,ov2,?_,by omega,by rw [uh HFS],hide ⟨(uh HF3).1,(uh HF3).2,?_⟩⟩
      ·rw [uh HFS]
       show (tkO (F.ow.map (fo1 p.l p.r)) k).length = _
       rw [uh HL2]; omega
      ·rw [hG]; exact uh HNX
     case measure=>have:=uh HLN; omega
end
def bfB (p q : Pr) : Bool:=decide (p.l < q.l) || (decide (p.l = q.l) && decide (p.r < q.r))
def prV (p : Pr) : Value:=.agg #[.int .i64 (p.k : Int),.int .i64 (p.l : Int),.int .i64 (p.r : Int)]
section
variable {w : World}
set_option maxRecDepth 100000 in
set_option maxHeartbeats 2000000 in
theorem before_any (p q : Pr) : Calls Tryz.prog 196 #[prV p,prV q] w fun e w'=>e = .returned (.bool (bfB p q)) ∧ Below w.heap.size w w':=by
 have HB : Hid (Below w.heap.size w ((w.alloc (.cells #[.int .i64 (p.k : Int),.int .i64 (p.l : Int),.int .i64 (p.r : Int)] 103)).alloc (.cells #[.int .i64 (q.k : Int),.int .i64 (q.l : Int),.int .i64 (q.r : Int)] 103))):=hide (((Below.refl _ _).alloc (Nat.le_refl _) _).alloc (by simp) _)
 unfold prV
 obtain ⟨b,hb⟩ : ∃ b,b = bfB p q:=⟨_,rfl⟩
 rw [← hb]
 unfold bfB at hb
 obtain ⟨pk,pl,pr⟩:=p
 obtain ⟨qk,ql,qr⟩:=q
 simp only at hb ⊢
 by_cases h1 : pl < ql
 ·have HE : Hid (b = true):=hide (by rw [hb]; simp [h1])
  clear hb
  go_enter Tryz.func196,Tryz.ntmps196
  go_wp2_with fail
  go_ret
  exact ⟨ret_bool (uh HE).symm,uh HB⟩
 ·by_cases h2 : pl = ql
  ·subst h2
   have HE : Hid (b = decide (pr < qr)):=hide (by rw [hb]; simp)
   clear hb h1
   go_enter Tryz.func196,Tryz.ntmps196
   go_wp2_with fail
   go_ret
   exact ⟨ret_bool (uh HE).symm,uh HB⟩
  ·have HE : Hid (b = false):=hide (by rw [hb]; simp [h1,h2])
   have h3 : ql < pl:=by omega
   clear hb h1
   go_enter Tryz.func196,Tryz.ntmps196
   go_wp2_with fail
   go_ret
   exact ⟨ret_bool (by rw [uh HE]; simp; omega),uh HB⟩
set_option maxRecDepth 100000 in
theorem greater_any (a b : Nat) : Calls Tryz.prog 231 #[.int .i64 a,.int .i64 b] w fun e w'=>e = .returned (.int .i64 (max a b : Nat)) ∧ w' = w:=by
 by_cases h : b < a
 ·have HE : Hid (max a b = a):=hide (by omega)
  go_enter Tryz.func231,Tryz.ntmps231
  go_wp2_with fail
  go_ret
  exact ⟨ret_int (by rw [uh HE]),rfl⟩
 ·have HE : Hid (max a b = b):=hide (by omega)
  go_enter Tryz.func231,Tryz.ntmps231
  go_wp2_with fail
  go_ret
  exact ⟨ret_int (by rw [uh HE]),rfl⟩
end
def mxP (m : Nat) (l : List Pr) : Nat:=l.foldl (fun m p=>max (max m p.l) p.r) m
def mxC (f : CF) : Nat:=max (max (max (max (max 0 (f.cl.getD 0 0)) (f.cl.getD 1 0)) (f.cl.getD 2 0)) (f.cl.getD 3 0)) (f.cl.getD 4 0)
def namF (f : CF) : Nat:=mxP (mxP (mxC f) f.ow) f.ap + 1
theorem mxP_step {m : Nat} {l : List Pr} {k : Nat} (hk : k < l.length) : mxP m (l.take (k + 1)) = max (max (mxP m (l.take k)) (l.getD k pr0).l) (l.getD k pr0).r:=by
 rw [pr_at hk]
 unfold mxP
 rw [List.take_add_one,List.getElem?_eq_getElem hk,List.foldl_append]; rfl
section
variable {w : World} {A : Nat} {f : CF} {av ov : Value}
set_option maxRecDepth 100000 in
set_option maxHeartbeats 4000000 in
theorem fnames_any (h : IsF w A f av ov) (ha : f.ap.length ≤ 100000) (ho : f.ow.length ≤ 100000) (hm : namF f ≤ 100000) : Calls Tryz.prog 205 #[.pointer (some ⟨A,0,none⟩)] w fun e w'=>e = .returned (.int .i64 (namF f : Nat)) ∧ Below w.heap.size w w':=by
 obtain ⟨oa,oc,hov,-,-⟩:=own_slc h.ow
 subst hov
 obtain ⟨aa,ac,hav,-,-⟩:=own_slc h.ap
 subst hav
 have x0:=h.cls (i:=0) (by omega)
 have x1:=h.cls (i:=1) (by omega)
 have x2:=h.cls (i:=2) (by omega)
 have x3:=h.cls (i:=3) (by omega)
 have x4:=h.cls (i:=4) (by omega)
 unfold clV at x0 x1 x2 x3 x4
 obtain ⟨y0,e0⟩ : ∃ y,y = f.cl.getD 0 0:=⟨_,rfl⟩
 obtain ⟨y1,e1⟩ : ∃ y,y = f.cl.getD 1 0:=⟨_,rfl⟩
 obtain ⟨y2,e2⟩ : ∃ y,y = f.cl.getD 2 0:=⟨_,rfl⟩
 obtain ⟨y3,e3⟩ : ∃ y,y = f.cl.getD 3 0:=⟨_,rfl⟩
 obtain ⟨y4,e4⟩ : ∃ y,y = f.cl.getD 4 0:=⟨_,rfl⟩
 have HC : Hid (mxC f = max (max (max (max (max 0 y0) y1) y2) y3) y4):=hide (by unfold mxC; rw [e0,e1,e2,e3,e4])
 rw [← e0] at x0
 rw [← e1] at x1
 rw [← e2] at x2
 rw [← e3] at x3
 rw [← e4] at x4
 have j0:=idx5_0 (.int .i64 (y0 : Int)) (.int .i64 (y1 : Int)) (.int .i64 (y2 : Int)) (.int .i64 (y3 : Int)) (.int .i64 (y4 : Int))
 have j1:=idx5_1 (.int .i64 (y0 : Int)) (.int .i64 (y1 : Int)) (.int .i64 (y2 : Int)) (.int .i64 (y3 : Int)) (.int .i64 (y4 : Int))
 have j2:=idx5_2 (.int .i64 (y0 : Int)) (.int .i64 (y1 : Int)) (.int .i64 (y2 : Int)) (.int .i64 (y3 : Int)) (.int .i64 (y4 : Int))
 have j3:=idx5_3 (.int .i64 (y0 : Int)) (.int .i64 (y1 : Int)) (.int .i64 (y2 : Int)) (.int .i64 (y3 : Int)) (.int .i64 (y4 : Int))
 have j4:=idx5_4 (.int .i64 (y0 : Int)) (.int .i64 (y1 : Int)) (.int .i64 (y2 : Int)) (.int .i64 (y3 : Int)) (.int .i64 (y4 : Int))
 have c6:=h.c6
 have c5:=h.c5
 have H:=hide h
 have HM:=hide hm
 have HG : Hid (∀ (W : World) (a b : Nat),Calls Tryz.prog 231 #[.int .i64 a,.int .i64 b] W fun e w'=>e = .returned (.int .i64 (max a b : Nat)) ∧ w' = W):=hide (fun W a b=>greater_any a b)
 clear h e0 e1 e2 e3 e4 hm
 go_enter Tryz.func205,Tryz.ntmps205
 go_wp2_with fail
 go_loop [3,14] (fun m i=>∃ (k : Nat),k ≤ 5 ∧ i = .int .i64 k ∧ m = .int .i64 ((([y0,y1,y2,y3,y4].take k).foldl max 0 : Nat) : Int)) (fun _ i=>5 - (intOf i).toNat)
 case atStart=>exact ⟨0,Nat.zero_le _,rfl,rfl⟩
 case round =>
  obtain ⟨k,hk,rfl,rfl⟩:=hrel
  obtain ⟨m,hmm⟩ : ∃ m,m = ([y0,y1,y2,y3,y4].take k).foldl max 0:=⟨_,rfl⟩
  rw [← hmm]
  have HMM:=hide hmm
  clear hmm
  have hcase : k = 0 ∨ k = 1 ∨ k = 2 ∨ k = 3 ∨ k = 4 ∨ k = 5:=by omega
  rcases hcase with rfl | rfl | rfl | rfl | rfl | rfl
  ·go_wp2_with fail
   refine (uh HG _ _ _).mono ?_
   rintro e w1 ⟨rfl,rfl⟩
   go_wp2_with fail
   go_round
   case rel=>exact ⟨1,by omega,by go_num,by rw [uh HMM]; rfl⟩
   case measure=>simp [intOf]
  ·go_wp2_with fail
   refine (uh HG _ _ _).mono ?_
   rintro e w1 ⟨rfl,rfl⟩
   go_wp2_with fail
   go_round
   case rel=>exact ⟨2,by omega,by go_num,by rw [uh HMM]; rfl⟩
   case measure=>simp [intOf]
  ·go_wp2_with fail
   refine (uh HG _ _ _).mono ?_
   rintro e w1 ⟨rfl,rfl⟩
   go_wp2_with fail
   go_round
   case rel=>exact ⟨3,by omega,by go_num,by rw [uh HMM]; rfl⟩
   case measure=>simp [intOf]
  ·go_wp2_with fail
   refine (uh HG _ _ _).mono ?_
   rintro e w1 ⟨rfl,rfl⟩
   go_wp2_with fail
   go_round
   case rel=>exact ⟨4,by omega,by go_num,by rw [uh HMM]; rfl⟩
   case measure=>simp [intOf]
  ·go_wp2_with fail
   refine (uh HG _ _ _).mono ?_
   rintro e w1 ⟨rfl,rfl⟩
   go_wp2_with fail
   go_round
   case rel=>exact ⟨5,by omega,by go_num,by rw [uh HMM]; rfl⟩
   case measure=>simp [intOf]
  ·have hmc : m = mxC f:=by rw [uh HMM,uh HC]; rfl
   have HB0:=hide (Below.refl w.heap.size w)
   have HST : Hid (m = mxP (mxC f) (f.ow.take 0)):=hide (by rw [hmc]; rfl)
   clear HMM hmc j0 j1 j2 j3 j4 x0 x1 x2 x3 x4 HC
   go_wp2_with fail
   go_loopw [3,26] (fun mv i wx=>∃ (k : Nat),k ≤ f.ow.length ∧ i = .int .i64 k ∧ mv = .int .i64 (mxP (mxC f) (f.ow.take k) : Nat) ∧ Hid (Below w.heap.size w wx)) (fun _ i _=>f.ow.length - (intOf i).toNat)
   case atStart=>exact ⟨0,Nat.zero_le _,rfl,by rw [← uh HST],HB0⟩
   case round =>
    clear HST HB0
    obtain ⟨k,hk,rfl,rfl,hb⟩:=hrel
    obtain ⟨m,hmm⟩ : ∃ m,m = mxP (mxC f) (f.ow.take k):=⟨_,rfl⟩
    rw [← hmm]
    have hF:=(uh H).below (uh hb)
    by_cases hlt : k < f.ow.length
    ·have hd : decide ((k : Int) < (f.ow.length : Int)) = true:=by simp; omega
     obtain ⟨g,cap,hgv,-,-⟩:=own_formP hF.ow hlt
     simp only [Value.slice.injEq,true_and] at hgv
     obtain ⟨rfl,rfl⟩:=hgv
     obtain ⟨x0,x1,x2⟩:=own_cells hF.ow hlt
     have hst:=mxP_step (m:=mxC f) hlt
     obtain ⟨p,hp⟩ : ∃ p,p = f.ow.getD k pr0:=⟨_,rfl⟩
     rw [← hp] at x0 x1 x2 hst
     rw [← hmm] at hst
     have HST:=hide hst
     have HB1 : Hid (Below w.heap.size w (wr.alloc (.cells #[.int .i64 (p.k : Int),.int .i64 (p.l : Int),.int .i64 (p.r : Int)] 103))):=hide ((uh hb).alloc (uh hb).size _)
     have i1 : (0 : Int) ≤ (k : Int):=by omega
     have i2 : (k : Int) < (f.ow.length : Int):=by omega
     clear hF hp hst hmm
     go_wp2_with fail
     refine (uh HG _ _ _).mono ?_
     rintro e w1 ⟨rfl,rfl⟩
     go_wp2_with fail
     refine (uh HG _ _ _).mono ?_
     rintro e w1 ⟨rfl,rfl⟩
     go_wp2_with fail
     go_roundw
     case rel=>exact ⟨k + 1,by omega,by go_num,by rw [uh HST,Nat.max_assoc],HB1⟩
     case measure=>simp [intOf]; omega
    ·have hd : decide ((k : Int) < (f.ow.length : Int)) = false:=by simp; omega
     have hke : m = mxP (mxP (mxC f) f.ow) (f.ap.take 0):=by rw [hmm,List.take_of_length_le (by omega)]; rfl
     have HKE:=hide hke
     have c5':=hF.c5
     clear hF hmm hke
     go_wp2_with fail
     go_loopw [3,44] (fun mv i wx=>∃ (k : Nat),k ≤ f.ap.length ∧ i = .int .i64 k ∧ mv = .int .i64 (mxP (mxP (mxC f) f.ow) (f.ap.take k) : Nat) ∧ Hid (Below w.heap.size w wx)) (fun _ i _=>f.ap.length - (intOf i).toNat)
     case atStart=>exact ⟨0,Nat.zero_le _,rfl,by rw [← uh HKE],hb⟩
     case round =>
      clear HKE hb
      obtain ⟨k2,hk2,rfl,rfl,hb⟩:=hrel
      obtain ⟨m2,hmm⟩ : ∃ m,m = mxP (mxP (mxC f) f.ow) (f.ap.take k2):=⟨_,rfl⟩
      rw [← hmm]
      have hF:=(uh H).below (uh hb)
      by_cases hlt2 : k2 < f.ap.length
      ·have hd2 : decide ((k2 : Int) < (f.ap.length : Int)) = true:=by simp; omega
       obtain ⟨g,cap,hgv,-,-⟩:=own_formP hF.ap hlt2
       simp only [Value.slice.injEq,true_and] at hgv
       obtain ⟨rfl,rfl⟩:=hgv
       obtain ⟨x0,x1,x2⟩:=own_cells hF.ap hlt2
       have hst:=mxP_step (m:=mxP (mxC f) f.ow) hlt2
       obtain ⟨p,hp⟩ : ∃ p,p = f.ap.getD k2 pr0:=⟨_,rfl⟩
       rw [← hp] at x0 x1 x2 hst
       rw [← hmm] at hst
       have HST:=hide hst
       have HB1 : Hid (Below w.heap.size w (wr.alloc (.cells #[.int .i64 (p.k : Int),.int .i64 (p.l : Int),.int .i64 (p.r : Int)] 103))):=hide ((uh hb).alloc (uh hb).size _)
       have i1 : (0 : Int) ≤ (k2 : Int):=by omega
       have i2 : (k2 : Int) < (f.ap.length : Int):=by omega
       clear hF hp hst hmm
       go_wp2_with fail
       refine (uh HG _ _ _).mono ?_
       rintro e w1 ⟨rfl,rfl⟩
       go_wp2_with fail
       refine (uh HG _ _ _).mono ?_
       rintro e w1 ⟨rfl,rfl⟩
       go_wp2_with fail
       go_roundw
       case rel=>exact ⟨k2 + 1,by omega,by go_num,by rw [uh HST,Nat.max_assoc],HB1⟩
       case measure=>simp [intOf]; omega
      ·have hd2 : decide ((k2 : Int) < (f.ap.length : Int)) = false:=by simp; omega
       have hE : m2 + 1 = namF f:=by unfold namF; rw [hmm,List.take_of_length_le (by omega)]
       have hml : m2 ≤ 100000:=by have:=uh HM; omega
       have HE:=hide hE
       clear hF hmm hE
       go_wp2_with fail
       go_ret
       exact ⟨ret_int (by rw [← uh HE]; go_num),uh hb⟩
end
def clL (f : CF) : List Nat:=[f.cl.getD 0 0,f.cl.getD 1 0,f.cl.getD 2 0,f.cl.getD 3 0,f.cl.getD 4 0]
def lvL (f : CF) : List Nat:=clL f ++ f.ow.flatMap (fun p=>[p.l,p.r])
def fgP (f : CF) (p : Pr) : Bool:=decide (p.l ∈ lvL f) && decide (p.r ∈ lvL f) && !clrB f p.l p.r
def fgF (f : CF) : CF:={ f with ap:=f.ap.filter (fgP f) }
def meN (ms : List Nat) (c : Nat) : List Nat:=if c ∈ ms then ms else ms ++ [c]
def frN (ms : List Nat) (c : Nat) : Nat:=if c ∈ ms then ms.idxOf c + 1 else 0
def spS (f : CF) (k : Nat) (ms : List Nat) : List Nat :=
 match bgn f.ow (ms.getD k 0) with
 | some i=>meN ms (f.ow.getD i pr0).r
 | none=>ms
def spN (f : CF) : Nat → Nat → List Nat → List Nat
 | 0,_,ms=>ms
 | n + 1,k,ms=>if k < ms.length then spN f n (k + 1) (spS f k ms) else ms
def roS (f : CF) (ms : List Nat) (p : Pr) : List Nat:=spN f 25 ms.length (meN ms p.l)
def roL (f : CF) : List Nat:=f.ow.foldl (roS f) (spN f 25 0 ((clL f).foldl meN []))
def nuP (ms : List Nat) (p : Pr) : Pr:=⟨p.k,ms.idxOf p.l,ms.idxOf p.r⟩
def rnF (f : CF) : CF:=⟨(clL f).map (fun c=>(roL f).idxOf c),f.ap.map (nuP (roL f)),f.ow.map (nuP (roL f))⟩
def MsOk (ms : List Nat) : Prop:=ms.Nodup ∧ ∀ c ∈ ms,c < 24
theorem MsOk.len {ms : List Nat} (h : MsOk ms) : ms.length ≤ 24:=by
 have:=List.Nodup.length_le_of_subset h.1 (l₂:=List.range 24) (fun c hc=>by simpa using h.2 c hc)
 simpa using this
theorem MsOk.nil : MsOk []:=⟨List.nodup_nil,fun c hc=>by simp at hc⟩
theorem MsOk.me {ms : List Nat} (h : MsOk ms) {c : Nat} (hc : c < 24) : MsOk (meN ms c):=by
 unfold meN
 split
 ·exact h
 ·rename_i hn
  refine ⟨?_,fun d hd=>?_⟩
  ·rw [List.nodup_append]
   exact ⟨h.1,by simp,fun a ha b hb e=>by simp only [List.mem_singleton] at hb; subst hb; subst e; exact hn ha⟩
  ·rw [List.mem_append,List.mem_singleton] at hd
   rcases hd with hd | rfl
   ·exact h.2 d hd
   ·exact hc
theorem meN_sub {ms : List Nat} {c d : Nat} (h : d ∈ ms) : d ∈ meN ms c:=by unfold meN; split; exact h; exact List.mem_append_left _ h
theorem meN_mem (ms : List Nat) (c : Nat) : c ∈ meN ms c:=by unfold meN; split; assumption; simp
theorem meN_len (ms : List Nat) (c : Nat) : ms.length ≤ (meN ms c).length:=by unfold meN; split <;> simp
theorem meN_get {ms : List Nat} {c k : Nat} (hk : k < ms.length) : (meN ms c).getD k 0 = ms.getD k 0:=by
 unfold meN
 split
 ·rfl
 ·simp [List.getD_eq_getElem?_getD,List.getElem?_append_left hk]
theorem bgn_lt : ∀ {l : List Pr} {c i : Nat},bgn l c = some i → i < l.length ∧ (l.getD i pr0).l = c
 | [],_,_,h=>by simp [bgn] at h
 | p :: r,c,i,h=>by
  unfold bgn at h
  split at h
  ·injection h with h
   subst h
   rename_i e
   exact ⟨by simp,by simpa using e⟩
  ·obtain ⟨j,hj,rfl⟩:=Option.map_eq_some_iff.1 h
   obtain ⟨h1,h2⟩:=bgn_lt hj
   exact ⟨by simp only [List.length_cons]; omega,by rw [List.getD_cons_succ]; exact h2⟩
theorem bgn_mem {l : List Pr} {c i : Nat} (h : bgn l c = some i) : l.getD i pr0 ∈ l:=by
 obtain ⟨h1,-⟩:=bgn_lt h
 rw [List.getD_eq_getElem?_getD,List.getElem?_eq_getElem h1]
 exact List.getElem_mem h1
def LfN (l : List Pr) : Prop:=(l.map (·.l)).Nodup
theorem bgn_of {l : List Pr} {p : Pr} (hN : LfN l) (hp : p ∈ l) : ∃ i,bgn l p.l = some i ∧ l.getD i pr0 = p:=by
 induction l with
 | nil=>simp at hp
 | cons q r ih =>
  unfold LfN at hN
  rw [List.map_cons,List.nodup_cons] at hN
  rcases List.mem_cons.1 hp with rfl | hp
  ·exact ⟨0,by simp [bgn],by simp⟩
  ·obtain ⟨i,h1,h2⟩:=ih hN.2 hp
   have hne : ¬ (q.l = p.l):=fun e=>hN.1 (by rw [e]; exact List.mem_map_of_mem (f:=(·.l)) hp)
   exact ⟨i + 1,by unfold bgn; rw [if_neg hne,h1]; rfl,by simpa using h2⟩
section
variable {f : CF}
theorem spS_ok (hO : ∀ p ∈ f.ow,p.l < 24 ∧ p.r < 24) {k : Nat} {ms : List Nat} (h : MsOk ms) : MsOk (spS f k ms):=by
 unfold spS
 split
 ·rename_i i hi
  exact h.me (hO _ (bgn_mem hi)).2
 ·exact h
theorem spS_sub {k : Nat} {ms : List Nat} {d : Nat} (h : d ∈ ms) : d ∈ spS f k ms:=by unfold spS; split; exact meN_sub h; exact h
theorem spS_len (f : CF) (k : Nat) (ms : List Nat) : ms.length ≤ (spS f k ms).length:=by unfold spS; split; exact meN_len _ _; exact Nat.le_refl _
theorem spS_get {k : Nat} {ms : List Nat} {j : Nat} (h : j < ms.length) : (spS f k ms).getD j 0 = ms.getD j 0:=by unfold spS; split; exact meN_get h; rfl
theorem spN_ok (hO : ∀ p ∈ f.ow,p.l < 24 ∧ p.r < 24) : ∀ (n k : Nat) {ms : List Nat},MsOk ms → MsOk (spN f n k ms)
 | 0,_,_,h=>h
 | n + 1,k,ms,h=>by
  unfold spN
  split
  ·exact spN_ok hO n (k + 1) (spS_ok hO h)
  ·exact h
theorem spN_sub : ∀ (n k : Nat) {ms : List Nat} {d : Nat},d ∈ ms → d ∈ spN f n k ms
 | 0,_,_,_,h=>h
 | n + 1,k,ms,d,h=>by
  unfold spN
  split
  ·exact spN_sub n (k + 1) (spS_sub h)
  ·exact h
theorem spN_get : ∀ (n k : Nat) {ms : List Nat} {j : Nat},j < ms.length → j < (spN f n k ms).length ∧ (spN f n k ms).getD j 0 = ms.getD j 0
 | 0,_,_,_,h=>⟨h,rfl⟩
 | n + 1,k,ms,j,h=>by
  unfold spN
  split
  ·obtain ⟨h1,h2⟩:=spN_get n (k + 1) (ms:=spS f k ms) (j:=j) (Nat.lt_of_lt_of_le h (spS_len f k ms))
   exact ⟨h1,h2.trans (spS_get h)⟩
  ·exact ⟨h,rfl⟩
theorem spN_clo (hO : ∀ p ∈ f.ow,p.l < 24 ∧ p.r < 24) : ∀ (n k : Nat) {ms : List Nat},MsOk ms → 24 < n + k → ∀ j,k ≤ j → j < (spN f n k ms).length → ∀ i,bgn f.ow ((spN f n k ms).getD j 0) = some i → (f.ow.getD i pr0).r ∈ spN f n k ms
 | 0,k,ms,h,hk,j,hj,hl,i,hi=>by
  have:=h.len
  unfold spN at hl
  omega
 | n + 1,k,ms,h,hk,j,hj,hl,i,hi=>by
  unfold spN at hl hi ⊢
  split at hl
  ·rename_i hlt
   rw [if_pos hlt] at hi ⊢
   by_cases e : k = j
   ·subst e
    obtain ⟨-,h2⟩:=spN_get (f:=f) n (k + 1) (ms:=spS f k ms) (j:=k) (Nat.lt_of_lt_of_le hlt (spS_len f k ms))
    rw [h2,spS_get hlt] at hi
    refine spN_sub n (k + 1) ?_
    unfold spS
    rw [hi]
    exact meN_mem _ _
   ·exact spN_clo hO n (k + 1) (spS_ok hO h) (by omega) j (by omega) hl i hi
  ·rename_i hlt
   omega
def Clo (f : CF) (ms : List Nat) : Prop:=∀ c ∈ ms,∀ i,bgn f.ow c = some i → (f.ow.getD i pr0).r ∈ ms
theorem clo_of (hO : ∀ p ∈ f.ow,p.l < 24 ∧ p.r < 24) {n k : Nat} {ms : List Nat} (h : MsOk ms) (hk : 24 < n + k) (hc : ∀ j,j < k → j < ms.length → ∀ i,bgn f.ow (ms.getD j 0) = some i → (f.ow.getD i pr0).r ∈ ms) : Clo f (spN f n k ms):=by
 intro c hc' i hi
 obtain ⟨j,hj,rfl⟩:=List.mem_iff_getElem.1 hc'
 have e : (spN f n k ms).getD j 0 = (spN f n k ms)[j]:=by rw [List.getD_eq_getElem?_getD,List.getElem?_eq_getElem hj]; rfl
 by_cases hlt : k ≤ j
 ·exact spN_clo hO n k h hk j hlt hj i (by rw [e]; exact hi)
 ·by_cases hjm : j < ms.length
  ·obtain ⟨-,h2⟩:=spN_get (f:=f) n k hjm
   exact spN_sub n k (hc j (by omega) hjm i (by rw [← h2,e]; exact hi))
  ·exfalso
   cases n with
   | zero=>unfold spN at hj; omega
   | succ n =>
    unfold spN at hj
    rw [if_neg (by omega)] at hj
    omega
theorem roS_ok (hO : ∀ p ∈ f.ow,p.l < 24 ∧ p.r < 24) {ms : List Nat} {p : Pr} (hp : p ∈ f.ow) (h : MsOk ms) (hc : Clo f ms) : MsOk (roS f ms p) ∧ Clo f (roS f ms p) ∧ p.l ∈ roS f ms p ∧ ∀ d ∈ ms,d ∈ roS f ms p:=by
 have h1:=h.me (hO p hp).1
 refine ⟨spN_ok hO _ _ h1,clo_of hO h1 (by omega) (fun j hj _ i hi=>?_),spN_sub _ _ (meN_mem _ _),fun d hd=>spN_sub _ _ (meN_sub hd)⟩
 rw [meN_get hj] at hi
 refine meN_sub (hc _ ?_ i hi)
 rw [List.getD_eq_getElem?_getD,List.getElem?_eq_getElem hj]
 exact List.getElem_mem hj
theorem roF_ok (hO : ∀ p ∈ f.ow,p.l < 24 ∧ p.r < 24) : ∀ (l : List Pr) {ms : List Nat},(∀ p ∈ l,p ∈ f.ow) → MsOk ms → Clo f ms → MsOk (l.foldl (roS f) ms) ∧ Clo f (l.foldl (roS f) ms) ∧ (∀ p ∈ l,p.l ∈ l.foldl (roS f) ms) ∧ ∀ d ∈ ms,d ∈ l.foldl (roS f) ms
 | [],ms,_,h,hc=>⟨h,hc,fun p hp=>by simp at hp,fun d hd=>hd⟩
 | p :: r,ms,hl,h,hc=>by
  obtain ⟨h1,h2,h3,h4⟩:=roS_ok hO (hl p (by simp)) h hc
  obtain ⟨g1,g2,g3,g4⟩:=roF_ok hO r (fun q hq=>hl q (by simp [hq])) h1 h2
  rw [List.foldl_cons]
  exact ⟨g1,g2,fun q hq=>by
   rcases List.mem_cons.1 hq with rfl | hq
   ·exact g4 _ h3
   ·exact g3 q hq,fun d hd=>g4 d (h4 d hd)⟩
theorem meF_ok : ∀ (l : List Nat) {ms : List Nat},(∀ c ∈ l,c < 24) → MsOk ms → MsOk (l.foldl meN ms) ∧ (∀ c ∈ l,c ∈ l.foldl meN ms) ∧ ∀ d ∈ ms,d ∈ l.foldl meN ms
 | [],ms,_,h=>⟨h,fun c hc=>by simp at hc,fun d hd=>hd⟩
 | c :: r,ms,hl,h=>by
  obtain ⟨g1,g2,g3⟩:=meF_ok r (fun d hd=>hl d (by simp [hd])) (h.me (hl c (by simp)))
  rw [List.foldl_cons]
  exact ⟨g1,fun d hd=>by
   rcases List.mem_cons.1 hd with rfl | hd
   ·exact g3 _ (meN_mem _ _)
   ·exact g2 d hd,fun d hd=>g3 d (meN_sub hd)⟩
theorem roL_ok0 (hO : ∀ p ∈ f.ow,p.l < 24 ∧ p.r < 24) (hC : ∀ c ∈ clL f,c < 24) : MsOk (roL f) ∧ Clo f (roL f) ∧ (∀ c ∈ clL f,c ∈ roL f) ∧ ∀ p ∈ f.ow,p.l ∈ roL f:=by
 obtain ⟨h1,h2,-⟩:=meF_ok (clL f) hC MsOk.nil
 have h3:=clo_of hO (n:=25) (k:=0) h1 (by omega) (fun j hj=>by omega)
 obtain ⟨g1,g2,g3,g4⟩:=roF_ok hO f.ow (fun p hp=>hp) (spN_ok hO 25 0 h1) h3
 exact ⟨g1,g2,fun c hc=>g4 c (spN_sub _ _ (h2 c hc)),g3⟩
theorem roL_live (hO : ∀ p ∈ f.ow,p.l < 24 ∧ p.r < 24) (hC : ∀ c ∈ clL f,c < 24) (hN : LfN f.ow) : ∀ c ∈ lvL f,c ∈ roL f:=by
 obtain ⟨-,g2,g3,g4⟩:=roL_ok0 hO hC
 intro c hc
 unfold lvL at hc
 rw [List.mem_append,List.mem_flatMap] at hc
 rcases hc with hc | ⟨p,hp,hc⟩
 ·exact g3 c hc
 ·simp only [List.mem_cons,List.not_mem_nil,or_false] at hc
  rcases hc with rfl | rfl
  ·exact g4 p hp
  ·obtain ⟨i,h1,h2⟩:=bgn_of hN hp
   have:=g2 _ (g4 p hp) i h1
   rwa [h2] at this
end
theorem Seen.congr {bl : List Bool} {s t : List Nat} (h : Seen bl s) (he : ∀ c,c ∈ s ↔ c ∈ t) : Seen bl t:=⟨h.1,fun c hc=>(h.2 c hc).trans (he c)⟩
structure Rng (f : CF) : Prop where
 cl : ∀ c ∈ clL f,c < 24
 ow : Rm f
 ap : RmA f
theorem f24_ob (w : World) : Ob (w.alloc (.cells (blC (List.replicate 24 false)).toArray 104)) 104 24 w.heap.size (blC (List.replicate 24 false)) :=
 World.ownsRow_lit (base:=0) (e:=104) (size:=24) w (blC (List.replicate 24 false)).toArray 1 (Nat.zero_le _) (by simp [maxLen]) rfl
theorem f24_seen : Seen (List.replicate 24 false) []:=⟨by simp,fun c hc=>by rw [List.getD_eq_getElem?_getD,List.getElem?_replicate,if_pos hc]; simp⟩
theorem filt_step {l : List Pr} {P : Pr → Bool} {k : Nat} (hk : k < l.length) : (l.take (k + 1)).filter P = (l.take k).filter P ++ (if P (l.getD k pr0) then [l.getD k pr0] else []):=by
 rw [pr_at hk,List.take_add_one,List.getElem?_eq_getElem hk,List.filter_append]
 congr 1
 simp only [Option.toList]
 cases h : P l[k] <;> simp [h]
theorem flat_step {l : List Pr} {k : Nat} (hk : k < l.length) : (l.take (k + 1)).flatMap (fun p=>[p.l,p.r]) = (l.take k).flatMap (fun p=>[p.l,p.r]) ++ [(l.getD k pr0).l,(l.getD k pr0).r]:=by
 rw [pr_at hk,List.take_add_one,List.getElem?_eq_getElem hk,List.flatMap_append]
 simp
theorem mem_two {S T : List Nat} {a b d : Nat} : d ∈ b :: a :: (S ++ T) ↔ d ∈ S ++ (T ++ [a,b]):=by
 simp only [List.mem_cons,List.mem_append,List.not_mem_nil,or_false]
 exact ⟨fun h=>by rcases h with h | h | h | h <;> simp [h],fun h=>by rcases h with h | h | h | h <;> simp [h]⟩
section
variable {w : World} {A : Nat} {f : CF} {av ov : Value}
set_option maxRecDepth 100000 in
set_option maxHeartbeats 8000000 in
theorem forget_any (h : Fm w A f av ov) (hR : Rng f) (ha : f.ap.length ≤ 100000) (ho : f.ow.length ≤ 100000) : Calls Tryz.prog 108 #[.pointer (some ⟨A,0,none⟩)] w fun e w'=>e = .returned (.tuple #[]) ∧ ∃ av',Fm w' A (fgF f) av' ov ∧ Stp (bsF A av ov) w (bsF A av' ov) w':=by
 obtain ⟨i0,hi0,hz0,hz1,hz2⟩:=info_parts Tryz.infoPair
 obtain ⟨oa,oc,hov,-,-⟩:=own_slc h.is.ow
 subst hov
 obtain ⟨aa,ac,hav,-,-⟩:=own_slc h.is.ap
 subst hav
 obtain ⟨w0,hw0⟩ : ∃ w0,w0 = w.alloc (.cells (blC (List.replicate 24 false)).toArray 104):=⟨_,rfl⟩
 have hb0 : Below w.heap.size w w0:=by rw [hw0]; exact below_boxQ w _
 have hD0 : Ob w0 104 24 w.heap.size (blC (List.replicate 24 false)):=by rw [hw0]; exact f24_ob w
 have h0:=h.is.below hb0
 have x0:=h0.cls (i:=0) (by omega)
 have x1:=h0.cls (i:=1) (by omega)
 have x2:=h0.cls (i:=2) (by omega)
 have x3:=h0.cls (i:=3) (by omega)
 have x4:=h0.cls (i:=4) (by omega)
 unfold clV at x0 x1 x2 x3 x4
 have hcl:=hR.cl
 unfold clL at hcl
 have hcL : clL f = [f.cl.getD 0 0,f.cl.getD 1 0,f.cl.getD 2 0,f.cl.getD 3 0,f.cl.getD 4 0]:=rfl
 obtain ⟨y0,e0⟩ : ∃ y,y = f.cl.getD 0 0:=⟨_,rfl⟩
 obtain ⟨y1,e1⟩ : ∃ y,y = f.cl.getD 1 0:=⟨_,rfl⟩
 obtain ⟨y2,e2⟩ : ∃ y,y = f.cl.getD 2 0:=⟨_,rfl⟩
 obtain ⟨y3,e3⟩ : ∃ y,y = f.cl.getD 3 0:=⟨_,rfl⟩
 obtain ⟨y4,e4⟩ : ∃ y,y = f.cl.getD 4 0:=⟨_,rfl⟩
 rw [← e0,← e1,← e2,← e3,← e4] at hcl hcL
 rw [← e0] at x0
 rw [← e1] at x1
 rw [← e2] at x2
 rw [← e3] at x3
 rw [← e4] at x4
 have l0 : y0 < 24:=hcl y0 (by simp)
 have l1 : y1 < 24:=hcl y1 (by simp)
 have l2 : y2 < 24:=hcl y2 (by simp)
 have l3 : y3 < 24:=hcl y3 (by simp)
 have l4 : y4 < 24:=hcl y4 (by simp)
 have j0:=idx5_0 (.int .i64 (y0 : Int)) (.int .i64 (y1 : Int)) (.int .i64 (y2 : Int)) (.int .i64 (y3 : Int)) (.int .i64 (y4 : Int))
 have j1:=idx5_1 (.int .i64 (y0 : Int)) (.int .i64 (y1 : Int)) (.int .i64 (y2 : Int)) (.int .i64 (y3 : Int)) (.int .i64 (y4 : Int))
 have j2:=idx5_2 (.int .i64 (y0 : Int)) (.int .i64 (y1 : Int)) (.int .i64 (y2 : Int)) (.int .i64 (y3 : Int)) (.int .i64 (y4 : Int))
 have j3:=idx5_3 (.int .i64 (y0 : Int)) (.int .i64 (y1 : Int)) (.int .i64 (y2 : Int)) (.int .i64 (y3 : Int)) (.int .i64 (y4 : Int))
 have j4:=idx5_4 (.int .i64 (y0 : Int)) (.int .i64 (y1 : Int)) (.int .i64 (y2 : Int)) (.int .i64 (y3 : Int)) (.int .i64 (y4 : Int))
 have H:=hide h
 have HCL:=hide hcL
 have HR:=hide hR
 have HI0 : Hid (Ob w0 104 24 w.heap.size (blC (List.replicate 24 false)) ∧ Seen (List.replicate 24 false) ([y0,y1,y2,y3,y4].take 0) ∧ Below w.heap.size w w0):=hide ⟨hD0,f24_seen,hb0⟩
 clear h e0 e1 e2 e3 e4 hcl hcL hR h0 hD0 hb0
 simp only [blC,List.replicate,List.map_cons,List.map_nil] at hw0
 go_enter Tryz.func108,Tryz.ntmps108
 go_upto_region 1 with fail
 rw [← hw0]
 clear hw0
 go_wp2_with fail
 go_loopw [14] (fun i wx=>∃ (k : Nat) (bl : List Bool),k ≤ 5 ∧ i = .int .i64 k ∧ Hid (Ob wx 104 24 w.heap.size (blC bl) ∧ Seen bl ([y0,y1,y2,y3,y4].take k) ∧ Below w.heap.size w wx)) (fun i _=>5 - (intOf i).toNat)
 case atStart=>exact ⟨0,_,Nat.zero_le _,rfl,HI0⟩
 case round =>
  clear HI0 x0 x1 x2 x3 x4
  obtain ⟨k,bl,hk,rfl,hI⟩:=hrel
  have hst : ∀ c,c < 24 → (∃ u,wr.cell? ⟨w.heap.size,c,none⟩ = some u) ∧ wr.frozen? ⟨w.heap.size,c,none⟩ = false:=fun c hc=>⟨⟨_,(World.ownsRow.cellAt (uh hI).1 c (by omega)).trans (blC_get (by rw [(uh hI).2.1.1]; exact hc))⟩,World.ownsRow.frozenAt (uh hI).1 c⟩
  have hnx : ∀ c,c < 24 → ∀ t,(∀ d,d ∈ c :: ([y0,y1,y2,y3,y4].take k) ↔ d ∈ t) → Ob (wr.setCell ⟨w.heap.size,c,none⟩ (.bool true)) 104 24 w.heap.size (blC (bl.set c true)) ∧ Seen (bl.set c true) t ∧ Below w.heap.size w (wr.setCell ⟨w.heap.size,c,none⟩ (.bool true)):=fun c hc t ht =>
   ⟨by have:=(uh hI).1.stored c (.bool true); rwa [blC_set] at this,((uh hI).2.1.add hc).congr ht,(uh hI).2.2.setCell (p:=⟨w.heap.size,c,none⟩) (Nat.le_refl _) _⟩
  have HNX:=hide hnx
  clear hnx
  have hcase : k = 0 ∨ k = 1 ∨ k = 2 ∨ k = 3 ∨ k = 4 ∨ k = 5:=by omega
  rcases hcase with rfl | rfl | rfl | rfl | rfl | rfl
  ·obtain ⟨⟨u,hu⟩,hz⟩:=hst y0 l0
   clear hst
   go_wp2_with fail
   go_roundw
   case rel=>exact ⟨1,_,by omega,by go_num,hide (uh HNX y0 l0 _ (fun d=>by simp))⟩
   case measure=>simp [intOf]
  ·obtain ⟨⟨u,hu⟩,hz⟩:=hst y1 l1
   clear hst
   go_wp2_with fail
   go_roundw
   case rel=>exact ⟨2,_,by omega,by go_num,hide (uh HNX y1 l1 _ (fun d=>by simp; try omega))⟩
   case measure=>simp [intOf]
  ·obtain ⟨⟨u,hu⟩,hz⟩:=hst y2 l2
   clear hst
   go_wp2_with fail
   go_roundw
   case rel=>exact ⟨3,_,by omega,by go_num,hide (uh HNX y2 l2 _ (fun d=>by simp; try omega))⟩
   case measure=>simp [intOf]
  ·obtain ⟨⟨u,hu⟩,hz⟩:=hst y3 l3
   clear hst
   go_wp2_with fail
   go_roundw
   case rel=>exact ⟨4,_,by omega,by go_num,hide (uh HNX y3 l3 _ (fun d=>by simp; try omega))⟩
   case measure=>simp [intOf]
  ·obtain ⟨⟨u,hu⟩,hz⟩:=hst y4 l4
   clear hst
   go_wp2_with fail
   go_roundw
   case rel=>exact ⟨5,_,by omega,by go_num,hide (uh HNX y4 l4 _ (fun d=>by simp; try omega))⟩
   case measure=>simp [intOf]
  ·clear hst HNX
   rw [show ((5 : Nat) : Int) = (5 : Int) from rfl]
   have h1:=(uh H).is.below (uh hI).2.2
   have c6:=h1.c6
   obtain ⟨D,hD⟩ : ∃ D,D = w.heap.size:=⟨_,rfl⟩
   have HI2 : Hid (Ob wr 104 24 D (blC bl) ∧ Seen bl ([y0,y1,y2,y3,y4] ++ (f.ow.take 0).flatMap (fun p=>[p.l,p.r])) ∧ Below w.heap.size w wr):=hide ⟨by rw [hD]; exact (uh hI).1,(uh hI).2.1,(uh hI).2.2⟩
   have HD:=hide hD
   clear hI h1 j0 j1 j2 j3 j4 l0 l1 l2 l3 l4
   rw [← hD]
   clear hD
   go_wp2_with fail
   go_loopw [25] (fun i wx=>∃ (k : Nat) (bl : List Bool),k ≤ f.ow.length ∧ i = .int .i64 k ∧ Hid (Ob wx 104 24 D (blC bl) ∧ Seen bl ([y0,y1,y2,y3,y4] ++ (f.ow.take k).flatMap (fun p=>[p.l,p.r])) ∧ Below w.heap.size w wx)) (fun i _=>f.ow.length - (intOf i).toNat)
   case atStart=>exact ⟨0,bl,Nat.zero_le _,rfl,HI2⟩
   case round =>
    clear HI2 c6
    obtain ⟨k,bl,hk,rfl,hI⟩:=hrel
    have h1:=(uh H).is.below (uh hI).2.2
    by_cases hlt : k < f.ow.length
    ·have hd : decide ((k : Int) < (f.ow.length : Int)) = true:=by simp; omega
     obtain ⟨g,cap,hgv,-,-⟩:=own_formP h1.ow hlt
     simp only [Value.slice.injEq,true_and] at hgv
     obtain ⟨rfl,rfl⟩:=hgv
     obtain ⟨x0,x1,x2⟩:=own_cells h1.ow hlt
     obtain ⟨hpl,hpr⟩:=(uh HR).ow.at k
     have hfs:=flat_step hlt
     obtain ⟨p,hp⟩ : ∃ p,p = f.ow.getD k pr0:=⟨_,rfl⟩
     rw [← hp] at x0 x1 x2 hpl hpr hfs
     obtain ⟨-,n1,n2⟩:=new3 wr (Value.int .i64 p.k) (.int .i64 p.l) (.int .i64 p.r) 103
     have hDl : D < wr.heap.size:=(World.ownsRow.lt (uh hI).1 D rfl).2
     have o0:=(uh hI).1.alloc (.cells #[Value.int .i64 p.k,.int .i64 p.l,.int .i64 p.r] 103)
     obtain ⟨⟨u1,hu1⟩,hz1'⟩:=o0.some (j:=p.l) hpl
     have o1:=(uh hI).1.stored p.l (.bool true)
     rw [blC_set] at o1
     obtain ⟨⟨u3,hu3⟩,hz3'⟩:=o1.some (j:=p.r) hpr
     have o2:=o1.stored p.r (.bool true)
     rw [blC_set] at o2
     have n2' : ((wr.alloc (.cells #[Value.int .i64 p.k,.int .i64 p.l,.int .i64 p.r] 103)).setCell ⟨D,p.l,none⟩ (.bool true)).cell? ⟨wr.heap.size,2,none⟩ = some (.int .i64 (p.r : Int)):=by
      rw [World.cell?_setCell_other _ _ _ _ (by intro e; simp at e; try omega)]; exact n2
     have hbb:=(((uh hI).2.2.setCell (p:=⟨D,p.l,none⟩) (Nat.le_of_eq (uh HD).symm) (.bool true)).setCell (p:=⟨D,p.r,none⟩) (Nat.le_of_eq (uh HD).symm) (.bool true))
     have HO2:=hide (o2.alloc (.cells #[Value.int .i64 p.k,.int .i64 p.l,.int .i64 p.r] 103))
     have HSN : Hid (Seen ((bl.set p.l true).set p.r true) ([y0,y1,y2,y3,y4] ++ (f.ow.take (k + 1)).flatMap (fun p=>[p.l,p.r]))):=hide ((((uh hI).2.1.add hpl).add hpr).congr (fun d=>by rw [hfs]; exact mem_two))
     have HBB:=hide (hbb.alloc hbb.size (.cells #[Value.int .i64 p.k,.int .i64 p.l,.int .i64 p.r] 103))
     have i1 : (0 : Int) ≤ (k : Int):=by omega
     have i2 : (k : Int) < (f.ow.length : Int):=by omega
     clear o0 o1 o2 hp hfs h1 hI hbb
     go_wp2_with fail
     go_roundw
     case rel=>exact ⟨k + 1,_,by omega,by go_num,hide ⟨uh HO2,uh HSN,uh HBB⟩⟩
     case measure=>simp [intOf]; omega
    ·have hd : decide ((k : Int) < (f.ow.length : Int)) = false:=by simp; omega
     have hke : k = f.ow.length:=by omega
     have c5:=(h1.alloc (.cells #[] 103)).c5
     have HSN : Hid (Seen bl (lvL f)):=hide (by
      have:=(uh hI).2.1
      rw [hke,List.take_length] at this
      unfold lvL
      rw [uh HCL]
      exact this)
     have HOD:=hide (uh hI).1
     have HBW:=hide (uh hI).2.2
     have HR0 : Hid ((wr.alloc (.cells #[] 103)).ownsRow wr.heap.size 103 3 (.slice (some ⟨wr.heap.size,0,none⟩) 0 0) 0 [] ∧ Below wr.heap.size wr (wr.alloc (.cells #[] 103))):=hide ⟨World.ownsRow_lit (base:=wr.heap.size) (e:=103) (size:=3) wr #[] 0 (Nat.le_refl _) (by simp [maxLen]) rfl,below_boxQ wr _⟩
     have H1:=hide h1
     clear h1 hI hke
     obtain ⟨wz,hwz⟩ : ∃ wz,wz = wr:=⟨_,rfl⟩
     rw [← hwz] at HOD HBW HR0 H1 c5 ⊢
     clear hwz
     go_wp2_with fail
     go_loopw [7,42] (fun rv j wx=>∃ (k : Nat),k ≤ f.ap.length ∧ j = .int .i64 k ∧ Hid (wx.ownsRow wz.heap.size 103 3 rv ((f.ap.take k).filter (fgP f)).length (prCells ((f.ap.take k).filter (fgP f))) ∧ Below wz.heap.size wz wx)) (fun _ j _=>f.ap.length - (intOf j).toNat)
     case atStart=>exact ⟨0,Nat.zero_le _,rfl,HR0⟩
     case round =>
      clear HR0 c5
      obtain ⟨k,hk,rfl,hI⟩:=hrel
      have hF:=(uh H1).below (uh hI).2
      have hdo:=(uh HOD).of_eq (w':=wr) ((uh hI).2.block D (World.ownsRow.lt (uh HOD) D rfl).2)
      obtain ⟨ra,rc,hrv,-,-⟩:=own_slc (uh hI).1
      subst hrv
      by_cases hlt : k < f.ap.length
      ·have hd : decide ((k : Int) < (f.ap.length : Int)) = true:=by simp; omega
       obtain ⟨g2,cap2,hgv,-,-⟩:=own_formP hF.ap hlt
       simp only [Value.slice.injEq,true_and] at hgv
       obtain ⟨rfl,rfl⟩:=hgv
       obtain ⟨x0,x1,x2⟩:=own_cells hF.ap hlt
       obtain ⟨hpl,hpr⟩:=(uh HR).ap (f.ap.getD k pr0) (by rw [pr_at hlt]; exact List.getElem_mem hlt)
       have hst:=filt_step (P:=fgP f) hlt
       obtain ⟨p,hp⟩ : ∃ p,p = f.ap.getD k pr0:=⟨_,rfl⟩
       rw [← hp] at x0 x1 x2 hpl hpr hst
       obtain ⟨-,n1,n2⟩:=new3 wr (Value.int .i64 p.k) (.int .i64 p.l) (.int .i64 p.r) 103
       have hDl : D < wr.heap.size:=(World.ownsRow.lt hdo D rfl).2
       obtain ⟨⟨-,-⟩,hz1'⟩:=hdo.some (j:=p.l) hpl
       have d1:=(World.ownsRow.cellAt hdo p.l (by omega)).trans (blC_get (by rw [(uh HSN).1]; exact hpl))
       have d2:=(World.ownsRow.cellAt hdo p.r (by omega)).trans (blC_get (by rw [(uh HSN).1]; exact hpr))
       obtain ⟨b1,hb1⟩ : ∃ b,b = bl.getD p.l false:=⟨_,rfl⟩
       obtain ⟨b2,hb2⟩ : ∃ b,b = bl.getD p.r false:=⟨_,rfl⟩
       rw [← hb1] at d1
       rw [← hb2] at d2
       have e1 : decide (p.l ∈ lvL f) = b1:=by rw [hb1]; have:=(uh HSN).2 p.l hpl; cases h : bl.getD p.l false <;> simp_all
       have e2 : decide (p.r ∈ lvL f) = b2:=by rw [hb2]; have:=(uh HSN).2 p.r hpr; cases h : bl.getD p.r false <;> simp_all
       have HST:=hide hst
       have HP : Hid (fgP f p = (b1 && b2 && !clrB f p.l p.r)):=hide (by unfold fgP; rw [e1,e2])
       have HB1:=hide ((uh hI).2.alloc (uh hI).2.size (.cells #[.int .i64 (p.k : Int),.int .i64 (p.l : Int),.int .i64 (p.r : Int)] 103))
       have HRB:=hide ((uh hI).1.alloc (.cells #[.int .i64 (p.k : Int),.int .i64 (p.l : Int),.int .i64 (p.r : Int)] 103))
       have HFA:=hide (hF.alloc (.cells #[.int .i64 (p.k : Int),.int .i64 (p.l : Int),.int .i64 (p.r : Int)] 103))
       have i1 : (0 : Int) ≤ (k : Int):=by omega
       have i2 : (k : Int) < (f.ap.length : Int):=by omega
       have hlen : ((f.ap.take k).filter (fgP f)).length ≤ k:=Nat.le_trans (List.length_filter_le _ _) (by simp; omega)
       obtain ⟨L,hL⟩ : ∃ L,L = (f.ap.take k).filter (fgP f):=⟨_,rfl⟩
       rw [← hL] at HST HRB hI hlen ⊢
       clear hp hst hF hdo hb1 hb2 e1 e2 hL
       have no : fgP f p = false → (f.ap.take (k + 1)).filter (fgP f) = L:=fun h=>by rw [uh HST,h]; simp
       have yes : fgP f p = true → (f.ap.take (k + 1)).filter (fgP f) = L ++ [p]:=fun h=>by rw [uh HST,h]; simp
       have NO:=hide no
       have YES:=hide yes
       clear no yes
       cases b1
       ·go_wp2_with fail
        go_roundw
        case rel=>exact ⟨k + 1,by omega,by go_num,hide (by rw [uh NO (by rw [uh HP]; rfl)]; exact ⟨uh HRB,uh HB1⟩)⟩
        case measure=>simp [intOf]; omega
       ·cases b2
        ·go_wp2_with fail
         go_roundw
         case rel=>exact ⟨k + 1,by omega,by go_num,hide (by rw [uh NO (by rw [uh HP]; rfl)]; exact ⟨uh HRB,uh HB1⟩)⟩
         case measure=>simp [intOf]; omega
        ·go_wp2_with fail
         refine (clear_any p.l p.r (uh HFA)).mono ?_
         rintro e w1 ⟨rfl,rfl⟩
         cases hcl : clrB f p.l p.r
         ·have HY:=hide (uh YES (by rw [uh HP,hcl]; rfl))
          clear YES NO HP hcl
          go_wp2_with (at_builtin; refine wpList_app1 _ rfl (.tmp 65) (.tmp 67) 75 rfl wz.heap.size 103 i0 _ 3 24 Tryz.underlying75 hi0 hz0 hz1 hz2 rfl (by decide) _ L.length (prCells L) rfl ((uh HRB).alloc _) ⟨_,0,none⟩ 1 [.int .i64 (p.k : Int),.int .i64 (p.l : Int),.int .i64 (p.r : Int)] rfl rfl (new_cells _ _ (by simp) [.int .i64 (p.k : Int),.int .i64 (p.l : Int),.int .i64 (p.r : Int)] _) (prC_one p) (by omega) (by omega) (by have:=(uh HB1).size; simp at this ⊢; omega) ?_)
          intro g4 cap4 w4 hown4 hgrow4 hblk4
          have HN : Hid (w4.ownsRow wz.heap.size 103 3 (.slice (some ⟨g4,0,none⟩) (L.length + 1) cap4) ((f.ap.take (k + 1)).filter (fgP f)).length (prCells ((f.ap.take (k + 1)).filter (fgP f))) ∧ Below wz.heap.size wz w4):=hide (by
           rw [uh HY,List.length_append,List.length_singleton,prCells_app]
           refine ⟨hown4,?_⟩
           have hb:=(uh HB1).alloc (uh HB1).size (.cells #[.int .i64 (p.k : Int),.int .i64 (p.l : Int),.int .i64 (p.r : Int)] 103)
           exact hb.grown hgrow4 hb.size (fun k hk=>((uh HRB).lt k hk).1))
          clear hown4 hgrow4 hblk4
          go_wp2_with fail
          go_roundw
          case rel=>exact ⟨k + 1,by omega,by go_num,HN⟩
          case measure=>simp [intOf]; omega
         ·go_wp2_with fail
          go_roundw
          case rel=>exact ⟨k + 1,by omega,by go_num,hide (by rw [uh NO (by rw [uh HP,hcl]; rfl)]; exact ⟨uh HRB,uh HB1⟩)⟩
          case measure=>simp [intOf]; omega
      ·have hd : decide ((k : Int) < (f.ap.length : Int)) = false:=by simp; omega
       have hke : k = f.ap.length:=by omega
       have hbw:=(uh HBW).trans ((uh hI).2.mono (uh HBW).size)
       have hs : Stp (Value.slice aa f.ap.length ac).ownBlock.toList w (Value.slice ra ((f.ap.take k).filter (fgP f)).length rc).ownBlock.toList wr:=(Stp.ofBw (F:=(Value.slice aa f.ap.length ac).ownBlock.toList) hbw).foots (fun j hj=>Or.inr (Nat.le_trans (uh HBW).size ((uh hI).1.lt j (by simpa using hj)).1))
       have hN:=(uh H).newAv (ap':=(f.ap.take k).filter (fgP f)) hs (v':=.slice ra ((f.ap.take k).filter (fgP f)).length rc) (fun j hj=>by simpa using hj) (own_le (uh hI).1 (Nat.zero_le _))
       have HN:=hide hN
       have HE : Hid (fgF f = { f with ap:=(f.ap.take k).filter (fgP f) }):=hide (by unfold fgF; rw [hke,List.take_length])
       have c5:=hF.c5
       have f5:=World.ownsRow.frozenAt hF.ob 5
       clear hs hN hke hF hbw hdo
       go_wp2_with fail
       go_end0
       exact ⟨rfl,_,by rw [uh HE]; exact (uh HN).1,(uh HN).2⟩
end
def whr (p : Pr) (l : List Pr) : Nat → Nat
 | 0=>0
 | k + 1=>if bfB p (l.getD k pr0) = true then whr p l k else k + 1
def insP (l : List Pr) (p : Pr) : List Pr:=l.take (whr p l l.length) ++ p :: l.drop (whr p l l.length)
def prE (p q : Pr) : Bool:=decide (p.k = q.k) && decide (p.l = q.l) && decide (p.r = q.r)
def ddS (a : List Pr) (p : Pr) : List Pr:=if a = [] ∨ prE p (a.getD (a.length - 1) pr0) = false then a ++ [p] else a
def srL (l : List Pr) : List Pr:=(l.foldl insP []).foldl ddS []
theorem prE_iff {p q : Pr} : prE p q = true ↔ p = q:=by
 unfold prE
 cases p; cases q
 simp [and_assoc]
theorem whr_le (p : Pr) (l : List Pr) : ∀ k,whr p l k ≤ k
 | 0=>Nat.le_refl _
 | k + 1=>by
  unfold whr
  split
  ·exact Nat.le_succ_of_le (whr_le p l k)
  ·exact Nat.le_refl _
theorem whr_lt (p : Pr) (l : List Pr) : ∀ k j,whr p l k ≤ j → j < k → bfB p (l.getD j pr0) = true
 | 0,j,_,h=>by omega
 | k + 1,j,h1,h2=>by
  unfold whr at h1
  split at h1
  ·rename_i h
   by_cases e : j = k
   ·rw [e]; exact h
   ·exact whr_lt p l k j h1 (by omega)
  ·omega
theorem whr_ge (p : Pr) (l : List Pr) : ∀ k,0 < whr p l k → bfB p (l.getD (whr p l k - 1) pr0) = false
 | 0,h=>by simp [whr] at h
 | k + 1,h=>by
  unfold whr at h ⊢
  split
  ·rename_i hb
   rw [if_pos hb] at h
   exact whr_ge p l k h
  ·rename_i hb
   simpa using hb
def leP (p q : Pr) : Prop:=p.l < q.l ∨ (p.l = q.l ∧ p.r ≤ q.r)
def ltP (p q : Pr) : Prop:=p.l < q.l ∨ (p.l = q.l ∧ p.r < q.r)
theorem bfB_iff {p q : Pr} : bfB p q = true ↔ ltP p q:=by simp [bfB,ltP]
theorem bfB_not {p q : Pr} : bfB p q = false ↔ leP q p:=by
 rw [← Bool.not_eq_true,bfB_iff]
 unfold ltP leP
 omega
theorem leP_trans {p q r : Pr} (h1 : leP p q) (h2 : leP q r) : leP p r:=by unfold leP at *; omega
theorem lt_le {p q : Pr} (h : ltP p q) : leP p q:=by unfold ltP leP at *; omega
theorem ltP_trans {p q r : Pr} (h1 : ltP p q) (h2 : ltP q r) : ltP p r:=by unfold ltP at *; omega
theorem mem_getD {l : List Pr} {j : Nat} (h : j < l.length) : l.getD j pr0 ∈ l:=by
 rw [List.getD_eq_getElem?_getD,List.getElem?_eq_getElem h]
 exact List.getElem_mem h
theorem getD_eq {l : List Pr} {j : Nat} (h : j < l.length) : l.getD j pr0 = l[j]:=by
 rw [List.getD_eq_getElem?_getD,List.getElem?_eq_getElem h]; rfl
theorem insP_mem {l : List Pr} {p q : Pr} : q ∈ insP l p ↔ q = p ∨ q ∈ l:=by
 unfold insP
 rw [List.mem_append,List.mem_cons]
 constructor
 ·rintro (h | h | h)
  ·exact Or.inr (List.mem_of_mem_take h)
  ·exact Or.inl h
  ·exact Or.inr (List.mem_of_mem_drop h)
 ·rintro (h | h)
  ·exact Or.inr (Or.inl h)
  ·rw [← List.take_append_drop (whr p l l.length) l,List.mem_append] at h
   rcases h with h | h
   ·exact Or.inl h
   ·exact Or.inr (Or.inr h)
theorem insP_len (l : List Pr) (p : Pr) : (insP l p).length = l.length + 1:=by
 unfold insP
 have:=whr_le p l l.length
 simp only [List.length_append,List.length_take,List.length_cons,List.length_drop]
 omega
theorem insP_srt {l : List Pr} {p : Pr} (h : l.Pairwise leP) : (insP l p).Pairwise leP:=by
 have hle:=whr_le p l l.length
 have hlt:=whr_lt p l l.length
 have hge:=whr_ge p l l.length
 unfold insP
 generalize hk : whr p l l.length = k at *
 have hd : ∀ q ∈ l.drop k,leP p q:=by
  intro q hq
  obtain ⟨j,hj,rfl⟩:=List.mem_iff_getElem.1 hq
  rw [List.length_drop] at hj
  rw [List.getElem_drop,← getD_eq (by omega)]
  exact lt_le (bfB_iff.1 (hlt (k + j) (by omega) (by omega)))
 have ht : ∀ q ∈ l.take k,leP q p:=by
  intro q hq
  obtain ⟨j,hj,rfl⟩:=List.mem_iff_getElem.1 hq
  rw [List.length_take] at hj
  have h1:=bfB_not.1 (hge (by omega))
  rw [List.getElem_take]
  by_cases e : j = k - 1
  ·rw [getD_eq (by omega)] at h1
   subst e
   exact h1
  ·refine leP_trans ?_ h1
   rw [getD_eq (by omega)]
   exact List.pairwise_iff_getElem.1 h j (k - 1) (by omega) (by omega) (by omega)
 rw [List.pairwise_append,List.pairwise_cons]
 refine ⟨h.sublist (List.take_sublist _ _),⟨hd,h.sublist (List.drop_sublist _ _)⟩,?_⟩
 intro a ha b hb
 rcases List.mem_cons.1 hb with rfl | hb
 ·exact ht a ha
 ·exact leP_trans (ht a ha) (hd b hb)
theorem insF_srt : ∀ (l : List Pr) {a : List Pr},a.Pairwise leP → (l.foldl insP a).Pairwise leP ∧ (∀ q,q ∈ l.foldl insP a ↔ q ∈ a ∨ q ∈ l) ∧ (l.foldl insP a).length = a.length + l.length
 | [],a,h=>⟨h,fun q=>by simp,by simp⟩
 | p :: r,a,h=>by
  obtain ⟨h1,h2,h3⟩:=insF_srt r (insP_srt (p:=p) h)
  rw [List.foldl_cons]
  refine ⟨h1,fun q=>?_,?_⟩
  ·rw [h2,insP_mem,List.mem_cons]
   constructor
   ·rintro ((h | h) | h)
    ·exact Or.inr (Or.inl h)
    ·exact Or.inl h
    ·exact Or.inr (Or.inr h)
   ·rintro (h | h | h)
    ·exact Or.inl (Or.inr h)
    ·exact Or.inl (Or.inl h)
    ·exact Or.inr h
  ·rw [h3,insP_len,List.length_cons]; omega
theorem ddS_last {a : List Pr} {p : Pr} : p ∈ ddS a p:=by
 unfold ddS
 split
 ·simp
 ·rename_i h
  rw [not_or] at h
  have h1 : prE p (a.getD (a.length - 1) pr0) = true:=by simpa using h.2
  rw [prE_iff] at h1
  rw [h1]
  exact mem_getD (by have:=List.length_pos_iff.2 h.1; omega)
theorem ddS_sub {a : List Pr} {p q : Pr} (h : q ∈ a) : q ∈ ddS a p:=by unfold ddS; split; exact List.mem_append_left _ h; exact h
theorem ddF_mem : ∀ (l : List Pr) {a : List Pr} {q : Pr},q ∈ l.foldl ddS a ↔ q ∈ a ∨ q ∈ l
 | [],a,q=>by simp
 | p :: r,a,q=>by
  rw [List.foldl_cons,ddF_mem r,List.mem_cons]
  constructor
  ·rintro (h | h)
   ·unfold ddS at h
    split at h
    ·rw [List.mem_append,List.mem_singleton] at h
     rcases h with h | h
     ·exact Or.inl h
     ·exact Or.inr (Or.inl h)
    ·exact Or.inl h
   ·exact Or.inr (Or.inr h)
  ·rintro (h | rfl | h)
   ·exact Or.inl (ddS_sub h)
   ·exact Or.inl ddS_last
   ·exact Or.inr h
theorem srL_mem {l : List Pr} {q : Pr} : q ∈ srL l ↔ q ∈ l:=by
 unfold srL
 rw [ddF_mem,(insF_srt l (a:=[]) List.Pairwise.nil).2.1]
 simp
theorem ddF_srt {K : Nat} : ∀ (l : List Pr) {a : List Pr},a.Pairwise ltP → l.Pairwise leP → (∀ p ∈ a,∀ q ∈ l,leP p q) → (∀ p ∈ a,p.k = K) → (∀ p ∈ l,p.k = K) → (l.foldl ddS a).Pairwise ltP
 | [],a,h,_,_,_,_=>h
 | p :: r,a,h,hl,hal,ha,hk=>by
  rw [List.foldl_cons]
  have h1:=List.pairwise_cons.1 hl
  by_cases hn : a = [] ∨ prE p (a.getD (a.length - 1) pr0) = false
  ·have e : ddS a p = a ++ [p]:=by unfold ddS; rw [if_pos hn]
   rw [e]
   refine ddF_srt (K:=K) r ?_ h1.2 ?_ ?_ (fun q hq=>hk q (by simp [hq]))
   ·rw [List.pairwise_append]
    refine ⟨h,by simp,fun x hx y hy=>?_⟩
    rw [List.mem_singleton] at hy
    subst hy
    have hx0:=hal x hx y (by simp)
    rcases hn with hn | hn
    ·subst hn; simp at hx
    ·obtain ⟨j,hj,rfl⟩:=List.mem_iff_getElem.1 hx
     have hz : leP (a.getD (a.length - 1) pr0) y:=hal _ (mem_getD (by omega)) y (by simp)
     have hzl : ltP (a.getD (a.length - 1) pr0) y:=by
      have hk1 : y.k = K:=hk y (by simp)
      have hk2:=ha _ (mem_getD (l:=a) (j:=a.length - 1) (by omega))
      generalize a.getD (a.length - 1) pr0 = z at hn hz hk2
      have hne : y ≠ z:=fun e=>by rw [prE_iff.2 e] at hn; cases hn
      unfold leP at hz
      unfold ltP
      rcases hz with h | ⟨h,h'⟩
      ·exact Or.inl h
      ·right
       refine ⟨h,?_⟩
       by_cases hr : z.r = y.r
       ·exfalso
        apply hne
        cases y; cases z
        simp_all
       ·omega
     by_cases e : j = a.length - 1
     ·subst e
      rwa [getD_eq (by omega)] at hzl
     ·refine ltP_trans ?_ hzl
      rw [getD_eq (by omega)]
      exact List.pairwise_iff_getElem.1 h j (a.length - 1) hj (by omega) (by omega)
   ·intro x hx y hy
    rw [List.mem_append,List.mem_singleton] at hx
    rcases hx with hx | rfl
    ·exact hal x hx y (by simp [hy])
    ·exact h1.1 y hy
   ·intro x hx
    rw [List.mem_append,List.mem_singleton] at hx
    rcases hx with hx | rfl
    ·exact ha x hx
    ·exact hk x (by simp)
  ·have e : ddS a p = a:=by unfold ddS; rw [if_neg hn]
   rw [e]
   exact ddF_srt (K:=K) r h h1.2 (fun x hx y hy=>hal x hx y (by simp [hy])) ha (fun q hq=>hk q (by simp [hq]))
theorem srL_srt {K : Nat} {l : List Pr} (hk : ∀ p ∈ l,p.k = K) : (srL l).Pairwise ltP:=by
 obtain ⟨h1,h2,-⟩:=insF_srt l (a:=[]) List.Pairwise.nil
 refine ddF_srt (K:=K) _ List.Pairwise.nil h1 (fun p hp=>by simp at hp) (fun p hp=>by simp at hp) (fun p hp=>hk p ?_)
 have:=(h2 p).1 hp
 simpa using this
theorem ddF_nd : ∀ (l : List Pr) {a : List Pr},LfN (a ++ l) → l.foldl ddS a = a ++ l
 | [],a,_=>by simp
 | p :: r,a,h=>by
  have e : ddS a p = a ++ [p]:=by
   unfold ddS
   rw [if_pos]
   by_cases ha : a = []
   ·exact Or.inl ha
   ·right
    cases hx : prE p (a.getD (a.length - 1) pr0) with
    | false=>rfl
    | true =>
     exfalso
     rw [prE_iff] at hx
     have hm:=mem_getD (l:=a) (j:=a.length - 1) (by have:=List.length_pos_iff.2 ha; omega)
     rw [← hx] at hm
     unfold LfN at h
     rw [List.map_append,List.nodup_append] at h
     exact h.2.2 p.l (List.mem_map_of_mem (f:=(·.l)) hm) p.l (by simp) rfl
  rw [List.foldl_cons,e,ddF_nd r (by rw [List.append_assoc]; exact h),List.append_assoc]
  rfl
theorem insP_perm (l : List Pr) (p : Pr) : (insP l p).Perm (p :: l):=by
 unfold insP
 refine List.perm_middle.trans ?_
 rw [List.take_append_drop]
theorem insF_perm : ∀ (l : List Pr) {a : List Pr},(l.foldl insP a).Perm (a ++ l)
 | [],a=>by simp
 | p :: r,a=>by
  rw [List.foldl_cons]
  refine (insF_perm r).trans ?_
  refine ((insP_perm a p).append_right r).trans ?_
  exact (List.perm_middle (l₁:=a) (l₂:=r) (a:=p)).symm
theorem srL_perm {l : List Pr} (h : LfN l) : (srL l).Perm l:=by
 unfold srL
 have h1:=insF_perm l (a:=[])
 rw [ddF_nd _ (by unfold LfN at h ⊢; rw [List.nil_append]; exact ((h1.map (·.l)).nodup_iff).2 (by simpa using h)),List.nil_append]
 simpa using h1
theorem srt_len {l : List Pr} (h : l.Pairwise ltP) (hb : ∀ p ∈ l,p.l < 24 ∧ p.r < 24) : l.length ≤ 576:=by
 have h1 : (l.map (fun p=>p.l * 24 + p.r)).Nodup:=by
  unfold List.Nodup
  rw [List.pairwise_map]
  refine List.Pairwise.imp_of_mem ?_ h
  intro a b ha hb' hab e
  have:=hb a ha
  have:=hb b hb'
  unfold ltP at hab
  omega
 have:=List.Nodup.length_le_of_subset h1 (l₂:=List.range 576) (fun c hc=>by
  obtain ⟨p,hp,rfl⟩:=List.mem_map.1 hc
  have:=hb p hp
  rw [List.mem_range]
  omega)
 simpa using this
end Go.Proofs.YtciihepbeacppabGreat
