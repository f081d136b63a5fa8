import Derived.Test.YtciihepbeacppabGreatM15
import Derived.Laws.StructEq
import Derived.Deep.RegionHeld3
namespace Go.Proofs.YtciihepbeacppabGreat
open Go.RowKit
set_option linter.unusedVariables false
def clG (g : Nat → Nat) (c : List Nat) (k : Nat) : List Nat:=(c.take k).map g ++ c.drop k
theorem clG_step {g : Nat → Nat} {c : List Nat} {k : Nat} (hk : k < c.length) : clG g c (k + 1) = (clG g c k).set k (g (c.getD k 0)) ∧ (clG g c k).getD k 0 = c.getD k 0:=by
 unfold clG
 have e : c.drop k = c[k] :: c.drop (k + 1):=List.drop_eq_getElem_cons hk
 have e0 : c.getD k 0 = c[k]:=by simp [hk]
 have e2 : (c.take (k + 1)).map g = (c.take k).map g ++ [g c[k]]:=by
  rw [List.take_add_one,List.getElem?_eq_getElem hk,List.map_append]; rfl
 have e3 : ((c.take k).map g).length = k:=by simp; omega
 refine ⟨?_,?_⟩
 ·rw [e2,e,List.set_append_right _ _ (by omega),e3,Nat.sub_self,List.set_cons_zero,List.append_assoc,e0]
  rfl
 ·rw [List.getD_eq_getElem?_getD,List.getElem?_append_right (by omega),e3,Nat.sub_self,e,e0]; rfl
theorem foldl_step {α : Type} {g : α → Pr → α} {a : α} {l : List Pr} {k : Nat} (hk : k < l.length) : (l.take (k + 1)).foldl g a = g ((l.take k).foldl g a) (l.getD k pr0):=by
 rw [pr_at hk,List.take_add_one,List.getElem?_eq_getElem hk,List.foldl_append]
 rfl
theorem nu_nil : nuC [] = List.replicate 49 (Value.int .i64 0):=rfl
theorem nu_new (w : World) : Nu (w.alloc (.cells (nuC []).toArray 243)) w.heap.size [] :=
 ⟨World.ownsRow_lit (base:=0) (e:=243) (size:=49) w (nuC []).toArray 1 (Nat.zero_le _) (by simp [maxLen]) rfl,MsOk.nil⟩
section
variable {w : World} {A : Nat} {f : CF} {av ov : Value}
set_option maxRecDepth 100000 in
set_option maxHeartbeats 8000000 in
theorem renumber_any (h : Fm w A f av ov) (hO : FoOk f) (hl : ∀ p ∈ f.ap,p.l ∈ lvL f ∧ p.r ∈ lvL f) (ha : f.ap.length ≤ 100000) : Calls Tryz.prog 109 #[.pointer (some ⟨A,0,none⟩)] w fun e w'=>e = .returned (.tuple #[]) ∧ Fm w' A (rnF f) av ov ∧ Stp (bsF A av ov) w (bsF A av ov) w':=by
 obtain ⟨oa,oc,hov,-,-⟩:=own_slc h.is.ow
 subst hov
 obtain ⟨aa,ac,hav,-,-⟩:=own_slc h.is.ap
 subst hav
 obtain ⟨w0,hw0⟩ : ∃ w0,w0 = w.alloc (.cells (nuC []).toArray 243):=⟨_,rfl⟩
 have hb0 : Below w.heap.size w w0:=by rw [hw0]; exact below_boxQ w _
 have hN0 : Nu w0 w.heap.size []:=by rw [hw0]; exact nu_new w
 have h0:=h.below hb0
 have hne : ∀ k ∈ bsF A (.slice aa f.ap.length ac) (.slice oa f.ow.length oc),k ≠ w.heap.size:=fun k hk=>by have:=h.lt k hk; omega
 have x0:=h0.is.cls (i:=0) (by omega)
 have x1:=h0.is.cls (i:=1) (by omega)
 have x2:=h0.is.cls (i:=2) (by omega)
 have x3:=h0.is.cls (i:=3) (by omega)
 have x4:=h0.is.cls (i:=4) (by omega)
 unfold clV at x0 x1 x2 x3 x4
 have hcl:=hO.cl
 unfold clL at hcl
 have hcL : clL f = [f.cl.getD 0 0,f.cl.getD 1 0,f.cl.getD 2 0,f.cl.getD 3 0,f.cl.getD 4 0]:=rfl
 obtain ⟨y0,e0⟩ : ∃ y,y = f.cl.getD 0 0:=⟨_,rfl⟩
 obtain ⟨y1,e1⟩ : ∃ y,y = f.cl.getD 1 0:=⟨_,rfl⟩
 obtain ⟨y2,e2⟩ : ∃ y,y = f.cl.getD 2 0:=⟨_,rfl⟩
 obtain ⟨y3,e3⟩ : ∃ y,y = f.cl.getD 3 0:=⟨_,rfl⟩
 obtain ⟨y4,e4⟩ : ∃ y,y = f.cl.getD 4 0:=⟨_,rfl⟩
 rw [← e0,← e1,← e2,← e3,← e4] at hcl hcL
 rw [← e0] at x0
 rw [← e1] at x1
 rw [← e2] at x2
 rw [← e3] at x3
 rw [← e4] at x4
 have l0 : y0 < 24:=hcl y0 (by simp)
 have l1 : y1 < 24:=hcl y1 (by simp)
 have l2 : y2 < 24:=hcl y2 (by simp)
 have l3 : y3 < 24:=hcl y3 (by simp)
 have l4 : y4 < 24:=hcl y4 (by simp)
 have j0:=idx5_0 (.int .i64 (y0 : Int)) (.int .i64 (y1 : Int)) (.int .i64 (y2 : Int)) (.int .i64 (y3 : Int)) (.int .i64 (y4 : Int))
 have j1:=idx5_1 (.int .i64 (y0 : Int)) (.int .i64 (y1 : Int)) (.int .i64 (y2 : Int)) (.int .i64 (y3 : Int)) (.int .i64 (y4 : Int))
 have j2:=idx5_2 (.int .i64 (y0 : Int)) (.int .i64 (y1 : Int)) (.int .i64 (y2 : Int)) (.int .i64 (y3 : Int)) (.int .i64 (y4 : Int))
 have j3:=idx5_3 (.int .i64 (y0 : Int)) (.int .i64 (y1 : Int)) (.int .i64 (y2 : Int)) (.int .i64 (y3 : Int)) (.int .i64 (y4 : Int))
 have j4:=idx5_4 (.int .i64 (y0 : Int)) (.int .i64 (y1 : Int)) (.int .i64 (y2 : Int)) (.int .i64 (y3 : Int)) (.int .i64 (y4 : Int))
 obtain ⟨N,hNe⟩ : ∃ N,N = w.heap.size:=⟨_,rfl⟩
 rw [← hNe] at hN0 hne
 have HNe:=hide hNe
 have H:=hide h
 have H0:=hide h0
 have HB0:=hide hb0
 have HNE:=hide hne
 have HCL:=hide hcL
 have hol:=hO.owLen
 have HO:=hide hO
 have HL:=hide hl
 have HI0 : Hid (Nu w0 N (([y0,y1,y2,y3,y4].take 0).foldl meN []) ∧ Stp [N] w0 [N] w0):=hide ⟨hN0,Stp.refl _ _⟩
 clear h h0 e0 e1 e2 e3 e4 hcl hcL hO hN0 hb0 hne hl
 obtain ⟨ag,hag⟩ : ∃ ag,ag = Value.agg (nuC []).toArray:=⟨_,rfl⟩
 rw [nu_nil] at hw0 hag
 simp only [List.replicate] at hw0 hag
 go_enter Tryz.func109,Tryz.ntmps109
 go_upto_region 1 with fail
 rw [← hw0,← hag,← hNe]
 clear hw0 hNe hag
 go_wp2_with fail
 go_loopw [15] (fun i wx=>∃ (k : Nat),k ≤ 5 ∧ i = .int .i64 k ∧ Hid (Nu wx N (([y0,y1,y2,y3,y4].take k).foldl meN []) ∧ Stp [N] w0 [N] wx)) (fun i _=>5 - (intOf i).toNat)
 case atStart=>exact ⟨0,Nat.zero_le _,rfl,HI0⟩
 case round =>
  clear HI0 x0 x1 x2 x3 x4
  obtain ⟨k,hk,rfl,hI⟩:=hrel
  obtain ⟨m,hm⟩ : ∃ m,m = ([y0,y1,y2,y3,y4].take k).foldl meN []:=⟨_,rfl⟩
  have HM:=hide hm
  rw [← hm] at hI
  clear hm
  have HME : Hid (∀ c : Nat,c < 24 → Calls Tryz.prog 148 #[.pointer (some ⟨N,0,none⟩),.int .i64 c] wr fun e w'=>e = .returned (.tuple #[]) ∧ Nu w' N (meN m c) ∧ Stp [N] w0 [N] w'):=hide (fun c hc=>(meet_any (uh hI).1 hc).mono (fun e w' hw=>⟨hw.1,hw.2.1,(uh hI).2.trans hw.2.2⟩))
  have hcase : k = 0 ∨ k = 1 ∨ k = 2 ∨ k = 3 ∨ k = 4 ∨ k = 5:=by omega
  rcases hcase with rfl | rfl | rfl | rfl | rfl | rfl
  ·go_wp2_with fail
   refine (uh HME y0 l0).mono ?_
   rintro e w1 ⟨rfl,hN1,hs1⟩
   have HN1 : Hid (Nu w1 N (([y0,y1,y2,y3,y4].take 1).foldl meN []) ∧ Stp [N] w0 [N] w1):=hide ⟨by rw [uh HM] at hN1; exact hN1,hs1⟩
   clear hN1 hs1
   go_wp2_with fail
   go_roundw
   case rel=>exact ⟨1,by omega,by go_num,HN1⟩
   case measure=>simp [intOf]
  ·go_wp2_with fail
   refine (uh HME y1 l1).mono ?_
   rintro e w1 ⟨rfl,hN1,hs1⟩
   have HN1 : Hid (Nu w1 N (([y0,y1,y2,y3,y4].take 2).foldl meN []) ∧ Stp [N] w0 [N] w1):=hide ⟨by rw [uh HM] at hN1; exact hN1,hs1⟩
   clear hN1 hs1
   go_wp2_with fail
   go_roundw
   case rel=>exact ⟨2,by omega,by go_num,HN1⟩
   case measure=>simp [intOf]
  ·go_wp2_with fail
   refine (uh HME y2 l2).mono ?_
   rintro e w1 ⟨rfl,hN1,hs1⟩
   have HN1 : Hid (Nu w1 N (([y0,y1,y2,y3,y4].take 3).foldl meN []) ∧ Stp [N] w0 [N] w1):=hide ⟨by rw [uh HM] at hN1; exact hN1,hs1⟩
   clear hN1 hs1
   go_wp2_with fail
   go_roundw
   case rel=>exact ⟨3,by omega,by go_num,HN1⟩
   case measure=>simp [intOf]
  ·go_wp2_with fail
   refine (uh HME y3 l3).mono ?_
   rintro e w1 ⟨rfl,hN1,hs1⟩
   have HN1 : Hid (Nu w1 N (([y0,y1,y2,y3,y4].take 4).foldl meN []) ∧ Stp [N] w0 [N] w1):=hide ⟨by rw [uh HM] at hN1; exact hN1,hs1⟩
   clear hN1 hs1
   go_wp2_with fail
   go_roundw
   case rel=>exact ⟨4,by omega,by go_num,HN1⟩
   case measure=>simp [intOf]
  ·go_wp2_with fail
   refine (uh HME y4 l4).mono ?_
   rintro e w1 ⟨rfl,hN1,hs1⟩
   have HN1 : Hid (Nu w1 N (([y0,y1,y2,y3,y4].take 5).foldl meN []) ∧ Stp [N] w0 [N] w1):=hide ⟨by rw [uh HM] at hN1; exact hN1,hs1⟩
   clear hN1 hs1
   go_wp2_with fail
   go_roundw
   case rel=>exact ⟨5,by omega,by go_num,HN1⟩
   case measure=>simp [intOf]
  ·rw [show ((5 : Nat) : Int) = (5 : Int) from rfl]
   have hmm : m = (clL f).foldl meN []:=by rw [uh HM,uh HCL]; rfl
   have hF1:=(uh H0).is.of_eq (w':=wr) (fun j hj=>(uh hI).2.block j ((uh H0).lt j hj) (by simpa using uh HNE j hj))
   have HSP:=hide (spread_any hF1 (uh hI).1 (uh HNE) (uh HO).ow (k0:=0) (by omega))
   have HST:=hide (uh hI).2
   rw [hmm] at HSP
   clear j0 j1 j2 j3 j4 l0 l1 l2 l3 l4 hmm hF1 hI HM HME
   go_wp2_with fail
   refine (uh HSP).mono ?_
   rintro e w1 ⟨rfl,hN1,hs1⟩
   have hst1:=(uh HST).trans hs1
   have hF1:=(uh H0).is.of_eq (w':=w1) (fun j hj=>hst1.block j ((uh H0).lt j hj) (by simpa using uh HNE j hj))
   have c6:=hF1.c6
   obtain ⟨M1,hM1⟩ : ∃ M1,M1 = spN f 25 0 ((clL f).foldl meN []):=⟨_,rfl⟩
   have HM1:=hide hM1
   rw [← hM1] at hN1
   have HI1 : Hid (Nu w1 N ((f.ow.take 0).foldl (roS f) M1) ∧ Stp [N] w0 [N] w1):=hide ⟨hN1,hst1⟩
   clear hN1 hs1 hst1 hF1 HSP hM1 HST
   go_wp2_with fail
   go_loopw [30] (fun i wx=>∃ (k : Nat),k ≤ f.ow.length ∧ i = .int .i64 k ∧ Hid (Nu wx N ((f.ow.take k).foldl (roS f) M1) ∧ Stp [N] w0 [N] wx)) (fun i _=>f.ow.length - (intOf i).toNat)
   case atStart=>exact ⟨0,Nat.zero_le _,rfl,HI1⟩
   case round =>
    clear HI1 c6
    obtain ⟨k,hk,rfl,hI⟩:=hrel
    have hF1:=(uh H0).is.of_eq (w':=wr) (fun j hj=>(uh hI).2.block j ((uh H0).lt j hj) (by simpa using uh HNE j hj))
    by_cases hlt : k < f.ow.length
    ·have hd : decide ((k : Int) < (f.ow.length : Int)) = true:=by simp; omega
     obtain ⟨g,cap,hgv,-,-⟩:=own_formP hF1.ow hlt
     simp only [Value.slice.injEq,true_and] at hgv
     obtain ⟨rfl,rfl⟩:=hgv
     obtain ⟨x0,x1,x2⟩:=own_cells hF1.ow hlt
     have hpl:=((uh HO).ow _ (mem_getD hlt)).1
     have hfs:=foldl_step (g:=roS f) (a:=M1) hlt
     obtain ⟨p,hp⟩ : ∃ p,p = f.ow.getD k pr0:=⟨_,rfl⟩
     rw [← hp] at x0 x1 x2 hpl hfs
     obtain ⟨m,hm⟩ : ∃ m,m = (f.ow.take k).foldl (roS f) M1:=⟨_,rfl⟩
     rw [← hm] at hI hfs
     obtain ⟨-,n1,-⟩:=new3 wr (Value.int .i64 p.k) (.int .i64 p.l) (.int .i64 p.r) 103
     have hNa:=(uh hI).1.below (below_boxQ wr (.cells #[Value.int .i64 p.k,.int .i64 p.l,.int .i64 p.r] 103))
     have hct:=hNa.count
     have hml:=hNa.ok.len
     have HME:=hide (meet_any hNa hpl)
     have hsa : Stp [N] w0 [N] (wr.alloc (.cells #[Value.int .i64 p.k,.int .i64 p.l,.int .i64 p.r] 103)):=(uh hI).2.trans (Stp.ofBw (below_boxQ wr _))
     have HSA:=hide hsa
     have HFS:=hide hfs
     have i1 : (0 : Int) ≤ (k : Int):=by omega
     have i2 : (k : Int) < (f.ow.length : Int):=by omega
     obtain ⟨L,hL⟩ : ∃ L,L = m.length:=⟨_,rfl⟩
     have HLm:=hide hL
     rw [← hL] at hct hml
     clear hp hm hNa hsa hfs hF1 hI hL
     go_wp2_with fail
     refine (uh HME).mono ?_
     rintro e w2 ⟨rfl,hN2,hs2⟩
     have hs2':=(uh HSA).trans hs2
     have hF2:=(uh H0).is.of_eq (w':=w2) (fun j hj=>hs2'.block j ((uh H0).lt j hj) (by simpa using uh HNE j hj))
     have HSP:=hide (spread_any hF2 hN2 (uh HNE) (uh HO).ow (k0:=L) hml)
     have HS2:=hide hs2'
     clear hN2 hs2 hs2' hF2 HME HSA n1 hct
     go_wp2_with fail
     refine (uh HSP).mono ?_
     rintro e w3 ⟨rfl,hN3,hs3⟩
     have HN3 : Hid (Nu w3 N ((f.ow.take (k + 1)).foldl (roS f) M1) ∧ Stp [N] w0 [N] w3):=hide ⟨by
      rw [uh HFS]
      unfold roS
      rw [uh HLm] at hN3
      exact hN3,(uh HS2).trans hs3⟩
     clear hN3 hs3 HSP HS2
     go_wp2_with fail
     go_roundw
     case rel=>exact ⟨k + 1,by omega,by go_num,HN3⟩
     case measure=>simp [intOf]; omega
    ·have hd : decide ((k : Int) < (f.ow.length : Int)) = false:=by simp; omega
     have hke : k = f.ow.length:=by omega
     have hro : (f.ow.take k).foldl (roS f) M1 = roL f:=by rw [hke,List.take_length,uh HM1]; rfl
     rw [hro] at hI
     obtain ⟨R,hR⟩ : ∃ R,R = roL f:=⟨_,rfl⟩
     rw [← hR] at hI
     have HR:=hide hR
     have hFm : Fm wr A f (.slice aa f.ap.length ac) (.slice oa f.ow.length oc):=(uh H0).of_eq (fun j hj=>(uh hI).2.block j ((uh H0).lt j hj) (by simpa using uh HNE j hj))
     have HI3 : Hid (Fm wr A { f with cl:=clG (fun c=>R.idxOf c) f.cl 0 } (.slice aa f.ap.length ac) (.slice oa f.ow.length oc) ∧ Nu wr N R ∧ Stp (N :: bsF A (.slice aa f.ap.length ac) (.slice oa f.ow.length oc)) w0 (N :: bsF A (.slice aa f.ap.length ac) (.slice oa f.ow.length oc)) wr):=hide ⟨by simpa [clG] using hFm,(uh hI).1,(uh hI).2.wide (fun j hj=>by rw [List.mem_singleton] at hj; subst hj; simp)⟩
     clear hke hro hR hFm hF1 hI
     go_wp2_with fail
     go_loopw [8] (fun i wx=>∃ (k : Nat),k ≤ 5 ∧ i = .int .i64 k ∧ Hid (Fm wx A { f with cl:=clG (fun c=>R.idxOf c) f.cl k } (.slice aa f.ap.length ac) (.slice oa f.ow.length oc) ∧ Nu wx N R ∧ Stp (N :: bsF A (.slice aa f.ap.length ac) (.slice oa f.ow.length oc)) w0 (N :: bsF A (.slice aa f.ap.length ac) (.slice oa f.ow.length oc)) wx)) (fun i _=>5 - (intOf i).toNat)
     case atStart=>exact ⟨0,Nat.zero_le _,rfl,HI3⟩
     case round =>
      clear HI3
      obtain ⟨k,hk,rfl,hI⟩:=hrel
      by_cases hlt : k < 5
      ·have hd : decide ((k : Int) < (5 : Int)) = true:=by simp; omega
       have hst:=clG_step (g:=fun c=>R.idxOf c) (c:=f.cl) (k:=k) (by have:=(uh HO).c5; omega)
       have hc24:=(uh HO).get k
       have hcm : f.cl.getD k 0 ∈ R:=by rw [uh HR]; exact (roL_ok0 (uh HO).ow (uh HO).cl).2.2.1 _ (clL_get hlt)
       obtain ⟨c,hc⟩ : ∃ c,c = f.cl.getD k 0:=⟨_,rfl⟩
       rw [← hc] at hst hc24 hcm
       have x : wr.cell? ⟨A,k,none⟩ = some (.int .i64 (c : Int)):=by
        have:=(uh hI).1.is.cls hlt
        unfold clV at this
        rw [this]
        show some (Value.int .i64 (((clG (fun c=>R.idxOf c) f.cl k).getD k 0 : Nat) : Int)) = _
        rw [hst.2]
       have fz : wr.frozen? ⟨A,k,none⟩ = false:=World.ownsRow.frozenAt (uh hI).1.is.ob k
       have q1:=(uh hI).2.1.fresh hc24
       have e1 : frN R c = R.idxOf c + 1:=by unfold frN; rw [if_pos hcm]
       rw [e1] at q1
       have hsm:=(uh hI).1.setCl k (R.idxOf c) hlt
       rw [show ({ f with cl:=clG (fun c=>R.idxOf c) f.cl k } : CF).cl = clG (fun c=>R.idxOf c) f.cl k from rfl,← hst.1] at hsm
       have hAN : A ≠ N:=uh HNE A (by simp [bsF])
       obtain ⟨y,hy⟩ : ∃ y,y = R.idxOf c:=⟨_,rfl⟩
       rw [← hy] at q1 hsm
       have hy24 : y < 24:=by rw [hy]; exact idx_lt (uh hI).2.1.ok hcm
       rw [show ((y + 1 : Nat) : Int) = (y : Int) + 1 by omega] at q1
       have HN2 : Hid (Fm (wr.setCell ⟨A,k,none⟩ (.int .i64 (y : Int))) A { f with cl:=clG (fun c=>R.idxOf c) f.cl (k + 1) } (.slice aa f.ap.length ac) (.slice oa f.ow.length oc) ∧ Nu (wr.setCell ⟨A,k,none⟩ (.int .i64 (y : Int))) N R ∧ Stp (N :: bsF A (.slice aa f.ap.length ac) (.slice oa f.ow.length oc)) w0 (N :: bsF A (.slice aa f.ap.length ac) (.slice oa f.ow.length oc)) (wr.setCell ⟨A,k,none⟩ (.int .i64 (y : Int)))):=hide ⟨hsm,(uh hI).2.1.of_eq (Below.heap_setCell _ _ _ _ (fun e=>hAN e.symm)),(uh hI).2.2.setCell (p:=⟨A,k,none⟩) (Or.inl (by simp [bsF])) _⟩
       have i1 : (0 : Int) ≤ (k : Int):=by omega
       have i2 : (k : Int) < (5 : Int):=by omega
       have i3 : (c : Int) < (24 : Int):=by omega
       clear hst hcm hc e1 hsm hy hAN hI
       go_wp2_with fail
       go_region
       go_wp2_with fail
       go_roundw
       case rel=>exact ⟨k + 1,by omega,by go_num,hide ⟨(uh HN2).1.of_eq (fun _ _=>rfl),(uh HN2).2.1.of_eq rfl,(uh HN2).2.2.drew⟩⟩
       case measure=>simp [intOf]; omega
      ·have hd : decide ((k : Int) < (5 : Int)) = false:=by simp; omega
       have hk5 : k = 5:=by omega
       have hcl : clG (fun c=>R.idxOf c) f.cl k = (clL f).map (fun c=>R.idxOf c):=by
        rw [clL_iff (uh HO).c5]
        unfold clG
        have h5:=(uh HO).c5
        rw [List.take_of_length_le (by omega),List.drop_eq_nil_of_le (by omega),List.append_nil]
       rw [hcl] at hI
       have hlv : ∀ c ∈ lvL f,c ∈ R:=by rw [uh HR]; exact roL_live (uh HO).ow (uh HO).cl (uh HO).lf
       have hF3:=(uh hI).1
       have c6:=hF3.is.c6
       have hNE:=uh HNE
       have HAP:=hide (apply_any hF3.is.ow (uh hI).2.1 (fun e=>hNE N (by simp only [bsF,List.mem_cons,List.mem_append,Option.mem_toList]; exact Or.inr (Or.inr e)) rfl) (fun p hp=>⟨hlv _ (List.mem_append_right _ (List.mem_flatMap.2 ⟨p,hp,by simp⟩)),hlv _ (List.mem_append_right _ (List.mem_flatMap.2 ⟨p,hp,by simp⟩))⟩) (Nat.le_trans hol (by omega)))
       have HLV:=hide hlv
       clear hcl hk5 hlv hF3 hNE
       go_wp2_with fail
       refine (uh HAP).mono ?_
       rintro e w4 ⟨rfl,hr4,hs4⟩
       obtain ⟨hF4,hst4⟩:=(uh hI).1.newRow (ow':=f.ow.map (nuP R)) (by simp) hr4 hs4
       have hNE:=uh HNE
       have hN4 : Nu w4 N R:=(uh hI).2.1.of_eq (hs4.block N (uh hI).2.1.ltN (fun hj=>hNE N (by simp only [bsF,List.mem_cons,List.mem_append]; exact Or.inr (Or.inr hj)) rfl))
       have c5:=hF4.is.c5
       have HAP2:=hide (apply_any hF4.is.ap hN4 (fun e=>hNE N (by simp only [bsF,List.mem_cons,List.mem_append,Option.mem_toList]; exact Or.inr (Or.inl e)) rfl) (fun p hp=>⟨uh HLV _ (uh HL p hp).1,uh HLV _ (uh HL p hp).2⟩) ha)
       have HF4:=hide hF4
       have HS4 : Hid (Stp (N :: bsF A (.slice aa f.ap.length ac) (.slice oa f.ow.length oc)) w0 (N :: bsF A (.slice aa f.ap.length ac) (.slice oa f.ow.length oc)) w4):=hide ((uh hI).2.2.trans (hst4.wide (fun j hj=>List.mem_cons_of_mem _ hj)))
       clear hr4 hs4 hF4 hst4 hNE hN4 HAP
       go_wp2_with fail
       refine (uh HAP2).mono ?_
       rintro e w5 ⟨rfl,hr5,hs5⟩
       obtain ⟨hF5,hst5⟩:=(uh HF4).newRowA (ap':=f.ap.map (nuP R)) (by simp) hr5 hs5
       have HF5 : Hid (Fm w5 A (rnF f) (.slice aa f.ap.length ac) (.slice oa f.ow.length oc)):=hide (by unfold rnF; rw [← uh HR]; exact hF5)
       have HS5 : Hid (Stp (bsF A (.slice aa f.ap.length ac) (.slice oa f.ow.length oc)) w (bsF A (.slice aa f.ap.length ac) (.slice oa f.ow.length oc)) w5):=hide (by
        have h1:=(uh HS4).trans (hst5.wide (fun j hj=>List.mem_cons_of_mem _ hj))
        have hb:=uh HB0
        exact ⟨h1.os.trans hb.os,h1.tape.trans hb.tape,h1.output.trans hb.output,Nat.le_trans hb.size h1.size,fun j hj hn=>(h1.block j (Nat.lt_of_lt_of_le hj hb.size) (by
         rw [List.mem_cons,not_or]
         exact ⟨by have:=uh HNe; omega,hn⟩)).trans (hb.block j hj),fun j hj=>Or.inl hj⟩)
       clear hr5 hs5 hF5 hst5 HAP2
       go_wp2_with fail
       go_end0
       exact ⟨rfl,uh HF5,uh HS5⟩
end
theorem eqP_in (a b c x y z : Int) (w : World) : (Op.equalIn 10000 103 (.agg #[.int .i64 a,.int .i64 b,.int .i64 c]) (.agg #[.int .i64 x,.int .i64 y,.int .i64 z])).run Tryz.prog w = .ok (a == x && (b == y && c == z)) w:=by
 have u3:=Tryz.underlying3
 have a3:=Tryz.isAgg3
 have z3:=Tryz.sizeOf3
 have hS : Tryz.prog.underlying 103 = some (.struct (Tryz.prog.fieldsOf 103)):=by kernel_rfl
 have hp : Tryz.prog.stoodInHeld 103 = false:=by kernel_rfl
 rw [show (10000 : Nat) = 9999 + 1 from rfl,run_equalIn_agg w 9999 103 _ _ hS hp]
 simp only [Program.fieldsOf,Tryz.underlying103]
 go_simp
 by_cases h1 : a = x <;> by_cases h2 : b = y <;> by_cases h3 : c = z <;> simp [h1,h2,h3]
theorem neqP (a b c x y z : Int) (w : World) : (binOp .neq 103 (.agg #[.int .i64 a,.int .i64 b,.int .i64 c]) (.agg #[.int .i64 x,.int .i64 y,.int .i64 z])).run Tryz.prog w = .ok (.bool (!(a == x && (b == y && c == z)))) w:=by
 rw [run_neq_struct,eqP_in]
 rfl
theorem guardP : Tryz.prog.eqGuardType Tryz.prog.depth 103 = false:=by kernel_rfl
theorem own_take {w : World} {B e sz n k cap : Nat} {a : Option Addr} {xs : List Value} (h : w.ownsRow B e sz (.slice a n cap) n xs) (hk : k ≤ n) : w.ownsRow B e sz (.slice a k cap) k (xs.take (k * sz)):=by
 have hl:=h.1
 have hks : k * sz ≤ n * sz:=Nat.mul_le_mul_right _ hk
 rcases h.2 with ⟨h',hn⟩ | ⟨g',cap',cur,h',hb,hg,hnc,hcm,hcs,htake⟩
 ·simp only [Value.slice.injEq] at h'
  obtain ⟨rfl,h2,rfl⟩:=h'
  have hn0 : n = 0:=by omega
  have hk0 : k = 0:=by omega
  subst hn0
  subst hk0
  refine ⟨by simp,.inl ⟨rfl,?_⟩⟩
  simp
 ·simp only [Value.slice.injEq] at h'
  obtain ⟨rfl,-,rfl⟩:=h'
  refine ⟨by rw [List.length_take]; omega,.inr ⟨g',cap,cur,rfl,hb,hg,by omega,hcm,hcs,?_⟩⟩
  rw [← htake,List.take_take,Nat.min_eq_left (by omega)]
theorem prCells_take : ∀ (l : List Pr) (k : Nat),(prCells l).take (k * 3) = prCells (l.take k)
 | [],k=>by simp [prCells]
 | p :: l,0=>by simp [prCells]
 | p :: l,k + 1=>by
  have h1:=prCells_take l k
  have hx : ∀ (y : Pr) (m : List Pr),prCells (y :: m) = [Value.int .i64 y.k,.int .i64 y.l,.int .i64 y.r] ++ prCells m:=fun y m=>rfl
  rw [List.take_succ_cons,hx,hx,← h1,List.take_append]
  simp only [List.length_cons,List.length_nil]
  rw [List.take_of_length_le (by simp; omega),show (k + 1) * 3 - (0 + 1 + 1 + 1) = k * 3 by omega]
theorem prCells_put {l : List Pr} {i : Nat} (hi : i < l.length) (p : Pr) : (((prCells l).set (i * 3) (.int .i64 (p.k : Int))).set (i * 3 + 1) (.int .i64 (p.l : Int))).set (i * 3 + 2) (.int .i64 (p.r : Int)) = prCells (l.set i p):=by
 have g1 : (l.set i ⟨p.k,(l.getD i pr0).l,(l.getD i pr0).r⟩).getD i pr0 = ⟨p.k,(l.getD i pr0).l,(l.getD i pr0).r⟩:=by
  rw [List.getD_eq_getElem?_getD,List.getElem?_set_self hi]; rfl
 have g2 : ((l.set i ⟨p.k,(l.getD i pr0).l,(l.getD i pr0).r⟩).set i ⟨p.k,p.l,(l.getD i pr0).r⟩).getD i pr0 = ⟨p.k,p.l,(l.getD i pr0).r⟩:=by
  rw [List.getD_eq_getElem?_getD,List.getElem?_set_self (by simpa using hi)]; rfl
 rw [prCells_set0 hi,prCells_set1 (by simpa using hi),g1,prCells_set2 (by simpa using hi),g2,List.set_set,List.set_set]
def arJ (L : List Pr) (x : Pr) (j : Nat) : List Pr:=L.take j ++ x :: L.drop j
theorem arJ_len {L : List Pr} {x : Pr} {j : Nat} (hj : j ≤ L.length) : (arJ L x j).length = L.length + 1:=by unfold arJ; simp; omega
theorem arJ_get {L : List Pr} {x : Pr} {j i : Nat} (hj : j ≤ L.length) (hi : i < j) : (arJ L x j).getD i pr0 = L.getD i pr0:=by
 unfold arJ
 rw [List.getD_eq_getElem?_getD,List.getElem?_append_left (by simp; omega),List.getElem?_take,if_pos hi,← List.getD_eq_getElem?_getD]
theorem arJ_put {L : List Pr} {x y : Pr} {j : Nat} (hj : j ≤ L.length) : (arJ L x j).set j y = arJ L y j:=by
 unfold arJ
 have e : (L.take j).length = j:=by simp; omega
 rw [List.set_append_right _ _ (by omega),e,Nat.sub_self,List.set_cons_zero]
theorem arJ_down {L : List Pr} {j : Nat} (hj : j < L.length) : arJ L (L.getD j pr0) (j + 1) = arJ L (L.getD j pr0) j:=by
 unfold arJ
 rw [getD_eq hj,List.take_add_one,List.getElem?_eq_getElem hj,List.drop_eq_getElem_cons hj,List.append_assoc]
 rfl
theorem ddF_ne : ∀ (l : List Pr) {a : List Pr},a ≠ [] → l.foldl ddS a ≠ []
 | [],_,h=>h
 | p :: r,a,h=>by
  rw [List.foldl_cons]
  refine ddF_ne r ?_
  unfold ddS
  split
  ·simp
  ·exact h
theorem ddF_some {l : List Pr} (h : l ≠ []) : l.foldl ddS [] ≠ []:=by
 cases l with
 | nil=>exact absurd rfl h
 | cons p r =>
  rw [List.foldl_cons]
  refine ddF_ne r ?_
  unfold ddS
  simp
theorem ddF_len : ∀ (l : List Pr) {a : List Pr},(l.foldl ddS a).length ≤ a.length + l.length
 | [],a=>by simp
 | p :: r,a=>by
  rw [List.foldl_cons]
  have h1:=ddF_len r (a:=ddS a p)
  have h2 : (ddS a p).length ≤ a.length + 1:=by unfold ddS; split <;> simp
  simp only [List.length_cons]
  omega
theorem prE_int (p q : Pr) : ((p.k : Int) == (q.k : Int) && ((p.l : Int) == (q.l : Int) && (p.r : Int) == (q.r : Int))) = prE p q:=by
 unfold prE
 rw [nat_beq,nat_beq,nat_beq,Bool.and_assoc]
theorem put3 {W : World} {B g cap n i : Nat} {L : List Pr} (hr : W.ownsRow B 103 3 (.slice (some ⟨g,0,none⟩) n cap) n (prCells L)) (hn : n = L.length) (hi : i < n) (p : Pr) :
  (((W.setCell ⟨g,i * 3,none⟩ (.int .i64 (p.k : Int))).setCell ⟨g,i * 3 + 1,none⟩ (.int .i64 (p.l : Int))).setCell ⟨g,i * 3 + 2,none⟩ (.int .i64 (p.r : Int))).ownsRow B 103 3 (.slice (some ⟨g,0,none⟩) n cap) n (prCells (L.set i p)) ∧
  ((∃ u,W.cell? ⟨g,i * 3,none⟩ = some u) ∧ (∃ u,W.cell? ⟨g,i * 3 + 1,none⟩ = some u) ∧ ∃ u,W.cell? ⟨g,i * 3 + 2,none⟩ = some u) ∧
  W.frozen? ⟨g,i * 3,none⟩ = false ∧ W.frozen? ⟨g,i * 3 + 1,none⟩ = false ∧ W.frozen? ⟨g,i * 3 + 2,none⟩ = false:=by
 subst hn
 have r3:=(((hr.stored (i * 3) (.int .i64 (p.k : Int))).1.stored (i * 3 + 1) (.int .i64 (p.l : Int))).1.stored (i * 3 + 2) (.int .i64 (p.r : Int))).1
 rw [prCells_put hi] at r3
 obtain ⟨x0,x1,x2⟩:=own_cells (own_le hr (Nat.zero_le _)) hi
 exact ⟨r3,⟨⟨_,x0⟩,⟨_,x1⟩,⟨_,x2⟩⟩,hr.frozenAt _,hr.frozenAt _,hr.frozenAt _⟩
section
variable {w : World} {v : Value} {l : List Pr}
set_option maxRecDepth 100000 in
set_option maxHeartbeats 8000000 in
theorem sorted_any (h : w.ownsRow 0 103 3 v l.length (prCells l)) (hl : l.length ≤ 100000) : Calls Tryz.prog 151 #[v] w fun e w'=>∃ v',e = .returned v' ∧ w'.ownsRow w.heap.size 103 3 v' (srL l).length (prCells (srL l)) ∧ Below w.heap.size w w':=by
 obtain ⟨i0,hi0,hz0,hz1,hz2⟩:=info_parts Tryz.infoPair
 obtain ⟨va,vc,hv',hvn,hvm⟩:=own_slc h
 subst hv'
 have H:=hide h
 have HR0 : Hid ((w.alloc (.cells #[] 103)).ownsRow w.heap.size 103 3 (.slice (some ⟨w.heap.size,0,none⟩) 0 0) ((l.take 0).foldl insP []).length (prCells ((l.take 0).foldl insP [])) ∧ Below w.heap.size w (w.alloc (.cells #[] 103))):=hide ⟨World.ownsRow_lit (base:=w.heap.size) (e:=103) (size:=3) w #[] 0 (Nat.le_refl _) (by simp [maxLen]) rfl,below_boxQ w _⟩
 clear h
 go_enter Tryz.func151,Tryz.ntmps151
 go_wp2_with fail
 go_loopg [3,12] l.length (fun gn rv i wx=>∃ (k : Nat),k + gn = l.length ∧ i = .int .i64 k ∧ Hid (wx.ownsRow w.heap.size 103 3 rv ((l.take k).foldl insP []).length (prCells ((l.take k).foldl insP [])) ∧ Below w.heap.size w wx))
 case atStart=>exact ⟨0,by omega,rfl,HR0⟩
 case round =>
  clear HR0
  obtain ⟨k,hkn,rfl,hI⟩:=hrel
  obtain ⟨G,hG⟩ : ∃ G,G = gk:=⟨_,rfl⟩
  obtain ⟨ra,rc,hrv,-,-⟩:=own_slc (uh hI).1
  subst hrv
  have hin:=insF_srt (l.take k) (a:=[]) List.Pairwise.nil
  have hlen:=hin.2.2
  rw [List.length_take] at hlen
  simp only [List.length_nil,Nat.zero_add] at hlen
  by_cases hlt : k < l.length
  ·have hd : decide ((k : Int) < (l.length : Int)) = true:=by simp; omega
   have hF:=own_bw (uh H) (uh hI).2
   obtain ⟨g,cap,hgv,-,-⟩:=own_formP hF hlt
   simp only [Value.slice.injEq,true_and] at hgv
   obtain ⟨rfl,rfl⟩:=hgv
   obtain ⟨x0,x1,x2⟩:=own_cells hF hlt
   have hfs:=foldl_step (g:=insP) (a:=[]) hlt
   obtain ⟨p,hp⟩ : ∃ p,p = l.getD k pr0:=⟨_,rfl⟩
   rw [← hp] at x0 x1 x2 hfs
   obtain ⟨L,hL⟩ : ∃ L,L = (l.take k).foldl insP []:=⟨_,rfl⟩
   rw [← hL] at hI hfs hlen ⊢
   have hLk : L.length = k:=by omega
   have HROW:=hide ((uh hI).1.alloc (.cells #[.int .i64 (p.k : Int),.int .i64 (p.l : Int),.int .i64 (p.r : Int)] 103))
   have HB1:=hide ((uh hI).2.alloc (uh hI).2.size (.cells #[.int .i64 (p.k : Int),.int .i64 (p.l : Int),.int .i64 (p.r : Int)] 103))
   have HBX:=hide (Bk.new wr 103 [.int .i64 (p.k : Int),.int .i64 (p.l : Int),.int .i64 (p.r : Int)])
   have hrl:=(uh hI).1.lt
   have HRL:=hide hrl
   have HFS:=hide hfs
   have i1 : (0 : Int) ≤ (k : Int):=by omega
   have i2 : (k : Int) < (l.length : Int):=by omega
   have hLb : L.length ≤ 100000:=by omega
   have HLK:=hide hLk
   have hsz:=(uh hI).2.size
   clear hp hF hfs hL hlen hin hI hrl hLk
   go_wp2_with (at_builtin; refine wpList_app1 _ rfl (.tmp 16) (.tmp 18) 75 rfl w.heap.size 103 i0 _ 3 24 Tryz.underlying75 hi0 hz0 hz1 hz2 rfl (by decide) _ L.length (prCells L) rfl ((uh HROW).alloc _) ⟨_,0,none⟩ 1 [.int .i64 (p.k : Int),.int .i64 (p.l : Int),.int .i64 (p.r : Int)] rfl rfl (new_cells _ _ (by simp) [.int .i64 (p.k : Int),.int .i64 (p.l : Int),.int .i64 (p.r : Int)] _) (prC_one p) (by omega) (by omega) (by simp; omega) ?_)
   intro g4 cap4 w4 hown4 hgrow4 hblk4
   have hb4 : Below w.heap.size w w4:=by
    have hb:=(uh HB1).alloc (uh HB1).size (.cells #[.int .i64 (p.k : Int),.int .i64 (p.l : Int),.int .i64 (p.r : Int)] 103)
    exact hb.grown hgrow4 hb.size (fun k hk=>((uh HROW).lt k hk).1)
   obtain ⟨X,hX⟩ : ∃ X,X = wr.heap.size:=⟨_,rfl⟩
   have hX4 : Bk w4 X 103 [.int .i64 (p.k : Int),.int .i64 (p.l : Int),.int .i64 (p.r : Int)]:=by
    rw [hX]
    refine ((uh HBX).alloc _).of_eq (hgrow4.block _ (by simp; omega) (fun e=>?_))
    have:=(uh HRL _ e.symm).2
    omega
   have hgX : g4 ≠ X:=by
    rw [hX]
    rintro rfl
    rcases hblk4 with e | e
    ·have:=(uh HRL _ e.symm).2
     omega
    ·omega
   have hrow4 : w4.ownsRow w.heap.size 103 3 (.slice (some ⟨g4,0,none⟩) (L.length + 1) cap4) (L.length + 1) (prCells (arJ L p L.length)):=by
    have e : arJ L p L.length = L ++ [p]:=by unfold arJ; rw [List.take_length,List.drop_length]
    rw [e,prCells_app]
    exact hown4
   have HI1 : Hid (w4.ownsRow w.heap.size 103 3 (.slice (some ⟨g4,0,none⟩) (L.length + 1) cap4) (L.length + 1) (prCells (arJ L p L.length)) ∧ Bk w4 X 103 [.int .i64 (p.k : Int),.int .i64 (p.l : Int),.int .i64 (p.r : Int)] ∧ Below w.heap.size w w4):=hide ⟨hrow4,hX4,hb4⟩
   have HGX:=hide hgX
   have HX:=hide hX
   rw [← hX]
   clear hown4 hgrow4 hblk4 hb4 hX4 hrow4 hX x0 x1 x2 HROW HBX hgX
   go_wp2_with fail
   go_loopg [6] L.length (fun gn i wx=>∃ (x : Pr),gn ≤ L.length ∧ i = .int .i64 gn ∧ whr p L gn = whr p L L.length ∧ Hid (wx.ownsRow w.heap.size 103 3 (.slice (some ⟨g4,0,none⟩) (L.length + 1) cap4) (L.length + 1) (prCells (arJ L x gn)) ∧ Bk wx X 103 [.int .i64 (p.k : Int),.int .i64 (p.l : Int),.int .i64 (p.r : Int)] ∧ Below w.heap.size w wx))
   case atStart=>exact ⟨p,Nat.le_refl _,by go_num,rfl,HI1⟩
   case round =>
    clear HI1
    obtain ⟨x,hj,rfl,hwh,hJ⟩:=hrel
    obtain ⟨b0,b1,b2⟩ : wr.cell? ⟨X,0,none⟩ = some (.int .i64 (p.k : Int)) ∧ wr.cell? ⟨X,1,none⟩ = some (.int .i64 (p.l : Int)) ∧ wr.cell? ⟨X,2,none⟩ = some (.int .i64 (p.r : Int)):=⟨(uh hJ).2.1.cell 0 rfl,(uh hJ).2.1.cell 1 rfl,(uh hJ).2.1.cell 2 rfl⟩
    cases gk with
    | zero =>
     have HWH:=hide hwh
     have HAL:=hide (arJ_len (L:=L) (x:=x) hj)
     have d0 : decide ((0 : Int) < 0) = false:=by decide
     clear hwh
     obtain ⟨w5,hw5⟩ : ∃ w5,w5 = wr:=⟨_,rfl⟩
     have HB5 : Hid (Below wr.heap.size wr w5):=hide (by rw [hw5]; exact Below.refl _ _)
     have hb5:=uh HB5
     have hr5:=own_bw (uh hJ).1 hb5
     have hX5:=(uh hJ).2.1.below hb5
     obtain ⟨r6,⟨⟨u0,y0⟩,⟨u1,y1⟩,⟨u2,y2⟩⟩,f0,f1,f2⟩:=put3 hr5 (uh HAL).symm (i:=0) (by omega) p
     rw [arJ_put hj] at r6
     have hge : w.heap.size ≤ g4:=((uh hJ).1.lt g4 rfl).1
     have hb6:=((((uh hJ).2.2.trans (hb5.mono (uh hJ).2.2.size)).setCell (p:=⟨g4,(0) * 3,none⟩) hge (.int .i64 (p.k : Int))).setCell (p:=⟨g4,(0) * 3 + 1,none⟩) hge (.int .i64 (p.l : Int))).setCell (p:=⟨g4,(0) * 3 + 2,none⟩) hge (.int .i64 (p.r : Int))
     have z0:=hX5.cell 0 rfl
     have z1:=hX5.cell 1 rfl
     have z2:=hX5.cell 2 rfl
     have HN : Hid (((((w5.setCell ⟨g4,(0) * 3,none⟩ (.int .i64 (p.k : Int))).setCell ⟨g4,(0) * 3 + 1,none⟩ (.int .i64 (p.l : Int))).setCell ⟨g4,(0) * 3 + 2,none⟩ (.int .i64 (p.r : Int)))).ownsRow w.heap.size 103 3 (.slice (some ⟨g4,0,none⟩) (L.length + 1) cap4) ((l.take (k + 1)).foldl insP []).length (prCells ((l.take (k + 1)).foldl insP [])) ∧ Below w.heap.size w ((((w5.setCell ⟨g4,(0) * 3,none⟩ (.int .i64 (p.k : Int))).setCell ⟨g4,(0) * 3 + 1,none⟩ (.int .i64 (p.l : Int))).setCell ⟨g4,(0) * 3 + 2,none⟩ (.int .i64 (p.r : Int))))):=hide ⟨by
      have e : (l.take (k + 1)).foldl insP [] = arJ L p (0):=by rw [uh HFS]; unfold insP arJ; rw [← uh HWH]; rfl
      rw [e,arJ_len hj]
      exact r6,hb6⟩
     have i5 : (0 : Int) < (L.length : Int) + 1:=by omega
     clear hb5 hr5 hX5 r6 hb6 hge HB5
     subst hw5
     go_wp2_with fail
     go_quiet (fail)
     go_wp2_with fail
     go_roundg (G - 1)
     case rel=>exact ⟨k + 1,by omega,by go_num,hide ⟨(uh HN).1,⟨(uh HN).2.os,(uh HN).2.tape,(uh HN).2.output,(uh HN).2.size,(uh HN).2.block⟩⟩⟩
     case measure=>omega
    | succ m =>
     have hr:=(uh hJ).1
     have hal:=arJ_len (L:=L) (x:=x) hj
     have hr' : wr.ownsRow w.heap.size 103 3 (.slice (some ⟨g4,0,none⟩) (arJ L x (m + 1)).length cap4) (arJ L x (m + 1)).length (prCells (arJ L x (m + 1))):=by rw [hal]; exact hr
     obtain ⟨x0,x1,x2⟩:=own_cells (own_le hr' (Nat.zero_le _)) (i:=m) (by rw [hal]; omega)
     rw [arJ_get hj (by omega)] at x0 x1 x2
     have hwm : whr p L (m + 1) = if bfB p (L.getD m pr0) = true then whr p L m else m + 1:=rfl
     have hdn:=arJ_down (L:=L) (j:=m) (by omega)
     have hpu:=arJ_put (L:=L) (x:=x) (y:=L.getD m pr0) hj
     obtain ⟨q,hq⟩ : ∃ q,q = L.getD m pr0:=⟨_,rfl⟩
     rw [← hq] at x0 x1 x2 hwm hdn hpu
     have HBE : Hid (∀ W : World,Calls Tryz.prog 196 #[.agg #[.int .i64 (p.k : Int),.int .i64 (p.l : Int),.int .i64 (p.r : Int)],.agg #[.int .i64 (q.k : Int),.int .i64 (q.l : Int),.int .i64 (q.r : Int)]] W fun e w'=>e = .returned (.bool (bfB p q)) ∧ Below W.heap.size W w'):=hide (fun W=>before_any p q)
     have d0 : decide ((0 : Int) < (m : Int) + 1) = true:=by simp
     have i3 : (0 : Int) ≤ (m : Int):=by omega
     have i4 : (m : Int) < (L.length : Int) + 1:=by omega
     have hq0 : IntKind.i64.wrap (m : Int) = (m : Int):=by rw [IntKind.wrap_i64]; omega
     have hXl:=(uh hJ).2.1.lt
     have hgl:=((uh hJ).1.lt g4 rfl).2
     have HWM:=hide hwm
     have HDN:=hide hdn
     have HPU:=hide hpu
     have HAL:=hide hal
     have HWH:=hide hwh
     clear hr hr' hal hwm hdn hpu hq hwh
     cases hbf : bfB p q with
     | true =>
      rw [hbf] at HBE HWM
      clear hbf
      go_wp2_with fail
      go_region_held3 (fun W=>W.cell? ⟨X,0,none⟩ = some (.int .i64 (p.k : Int)) ∧ W.cell? ⟨X,1,none⟩ = some (.int .i64 (p.l : Int)) ∧ W.cell? ⟨X,2,none⟩ = some (.int .i64 (p.r : Int)) ∧ W.cell? ⟨g4,m * 3,none⟩ = some (.int .i64 (q.k : Int)) ∧ W.cell? ⟨g4,m * 3 + 1,none⟩ = some (.int .i64 (q.l : Int)) ∧ W.cell? ⟨g4,m * 3 + 2,none⟩ = some (.int .i64 (q.r : Int))) (first | (simp only [World.cell?_drew,b0,b1,b2,x0,x1,x2,and_self]; done) | (simp only [q0,q1,q2,q3,q4,q5,and_self]; done))
       (first
        | (go_at_call 196; refine (uh HBE _).mono ?_; rintro e w5 ⟨rfl,hb5⟩; have HB5 : Hid (Below wr.heap.size wr w5):=hide ⟨hb5.os,hb5.tape,hb5.output,hb5.size,hb5.block⟩; have q0:=((uh HB5).cell hXl).trans b0; have q1:=((uh HB5).cell hXl).trans b1; have q2:=((uh HB5).cell hXl).trans b2; have q3:=((uh HB5).cell hgl).trans x0; have q4:=((uh HB5).cell hgl).trans x1; have q5:=((uh HB5).cell hgl).trans x2; clear hb5))
      have hb5:=uh HB5
      have hr5:=own_bw (uh hJ).1 hb5
      have hX5:=(uh hJ).2.1.below hb5
      obtain ⟨r6,⟨⟨u0,y0⟩,⟨u1,y1⟩,⟨u2,y2⟩⟩,f0,f1,f2⟩:=put3 hr5 (uh HAL).symm (i:=m + 1) (by omega) q
      rw [uh HPU,uh HDN] at r6
      have hge : w.heap.size ≤ g4:=((uh hJ).1.lt g4 rfl).1
      have hb6:=((((uh hJ).2.2.trans (hb5.mono (uh hJ).2.2.size)).setCell (p:=⟨g4,(m + 1) * 3,none⟩) hge (.int .i64 (q.k : Int))).setCell (p:=⟨g4,(m + 1) * 3 + 1,none⟩) hge (.int .i64 (q.l : Int))).setCell (p:=⟨g4,(m + 1) * 3 + 2,none⟩) hge (.int .i64 (q.r : Int))
      have hX6:=((hX5.setO (p:=⟨g4,(m + 1) * 3,none⟩) (uh HGX) (.int .i64 (q.k : Int))).setO (p:=⟨g4,(m + 1) * 3 + 1,none⟩) (uh HGX) (.int .i64 (q.l : Int))).setO (p:=⟨g4,(m + 1) * 3 + 2,none⟩) (uh HGX) (.int .i64 (q.r : Int))
      have HN:=hide (And.intro r6 (And.intro hX6 hb6))
      have i5 : (m : Int) + 1 < (L.length : Int) + 1:=by omega
      have i6 : (0 : Int) ≤ (m : Int) + 1:=by omega
      have HW2 : Hid (whr p L m = whr p L L.length):=hide (by rw [← uh HWH,uh HWM]; rfl)
      clear hb5 hr5 hX5 r6 hb6 hX6 hge
      go_wp2_with fail
      go_roundg m
      case rel=>exact ⟨q,by omega,by go_num,uh HW2,HN⟩
      case measure=>omega
     | false =>
      rw [hbf] at HBE HWM
      clear hbf
      go_wp2_with fail
      go_region_held3 (fun W=>W.cell? ⟨X,0,none⟩ = some (.int .i64 (p.k : Int)) ∧ W.cell? ⟨X,1,none⟩ = some (.int .i64 (p.l : Int)) ∧ W.cell? ⟨X,2,none⟩ = some (.int .i64 (p.r : Int)) ∧ W.cell? ⟨g4,m * 3,none⟩ = some (.int .i64 (q.k : Int)) ∧ W.cell? ⟨g4,m * 3 + 1,none⟩ = some (.int .i64 (q.l : Int)) ∧ W.cell? ⟨g4,m * 3 + 2,none⟩ = some (.int .i64 (q.r : Int))) (first | (simp only [World.cell?_drew,b0,b1,b2,x0,x1,x2,and_self]; done) | (simp only [q0,q1,q2,q3,q4,q5,and_self]; done))
       (first
        | (go_at_call 196; refine (uh HBE _).mono ?_; rintro e w5 ⟨rfl,hb5⟩; have HB5 : Hid (Below wr.heap.size wr w5):=hide ⟨hb5.os,hb5.tape,hb5.output,hb5.size,hb5.block⟩; have q0:=((uh HB5).cell hXl).trans b0; have q1:=((uh HB5).cell hXl).trans b1; have q2:=((uh HB5).cell hXl).trans b2; have q3:=((uh HB5).cell hgl).trans x0; have q4:=((uh HB5).cell hgl).trans x1; have q5:=((uh HB5).cell hgl).trans x2; clear hb5))
      have hb5:=uh HB5
      have hr5:=own_bw (uh hJ).1 hb5
      have hX5:=(uh hJ).2.1.below hb5
      obtain ⟨r6,⟨⟨u0,y0⟩,⟨u1,y1⟩,⟨u2,y2⟩⟩,f0,f1,f2⟩:=put3 hr5 (uh HAL).symm (i:=m + 1) (by omega) p
      rw [arJ_put hj] at r6
      have hge : w.heap.size ≤ g4:=((uh hJ).1.lt g4 rfl).1
      have hb6:=((((uh hJ).2.2.trans (hb5.mono (uh hJ).2.2.size)).setCell (p:=⟨g4,(m + 1) * 3,none⟩) hge (.int .i64 (p.k : Int))).setCell (p:=⟨g4,(m + 1) * 3 + 1,none⟩) hge (.int .i64 (p.l : Int))).setCell (p:=⟨g4,(m + 1) * 3 + 2,none⟩) hge (.int .i64 (p.r : Int))
      have z0:=hX5.cell 0 rfl
      have z1:=hX5.cell 1 rfl
      have z2:=hX5.cell 2 rfl
      have HN : Hid (((((w5.setCell ⟨g4,(m + 1) * 3,none⟩ (.int .i64 (p.k : Int))).setCell ⟨g4,(m + 1) * 3 + 1,none⟩ (.int .i64 (p.l : Int))).setCell ⟨g4,(m + 1) * 3 + 2,none⟩ (.int .i64 (p.r : Int)))).ownsRow w.heap.size 103 3 (.slice (some ⟨g4,0,none⟩) (L.length + 1) cap4) ((l.take (k + 1)).foldl insP []).length (prCells ((l.take (k + 1)).foldl insP [])) ∧ Below w.heap.size w ((((w5.setCell ⟨g4,(m + 1) * 3,none⟩ (.int .i64 (p.k : Int))).setCell ⟨g4,(m + 1) * 3 + 1,none⟩ (.int .i64 (p.l : Int))).setCell ⟨g4,(m + 1) * 3 + 2,none⟩ (.int .i64 (p.r : Int))))):=hide ⟨by
       have e : (l.take (k + 1)).foldl insP [] = arJ L p (m + 1):=by rw [uh HFS]; unfold insP arJ; rw [← uh HWH,uh HWM]; rfl
       rw [e,arJ_len hj]
       exact r6,hb6⟩
      have i5 : (m : Int) + 1 < (L.length : Int) + 1:=by omega
      have i6 : (0 : Int) ≤ (m : Int) + 1:=by omega
      clear hb5 hr5 hX5 r6 hb6 hge
      go_wp2_with fail
      go_roundg (G - 1)
      case rel=>exact ⟨k + 1,by omega,by go_num,HN⟩
      case measure=>omega
  ·have hd : decide ((k : Int) < (l.length : Int)) = false:=by simp; omega
   have hkl : k = l.length:=by omega
   have hS0 : (l.take k).foldl insP [] = l.foldl insP []:=by rw [hkl,List.take_length]
   rw [hS0] at hI hlen ⊢
   have hSR : srL l = (l.foldl insP []).foldl ddS []:=rfl
   obtain ⟨S,hS⟩ : ∃ S,S = l.foldl insP []:=⟨_,rfl⟩
   rw [← hS] at hI hlen hSR ⊢
   have hSl : S.length ≤ 100000:=by omega
   have HSR:=hide hSR
   clear hS hS0 hSR hkl hin hlen
   go_wp2_with fail
   go_loopw [7,8] (fun kv iv wx=>∃ (i : Nat) (cur : List Pr),i ≤ S.length ∧ iv = .int .i64 i ∧ kv = .int .i64 (((S.take i).foldl ddS []).length : Nat) ∧ Hid (wx.ownsRow w.heap.size 103 3 (.slice ra S.length rc) S.length (prCells cur) ∧ cur.length = S.length ∧ cur.take ((S.take i).foldl ddS []).length = (S.take i).foldl ddS [] ∧ cur.drop i = S.drop i ∧ Below w.heap.size w wx)) (fun _ iv _=>S.length - (intOf iv).toNat)
   case atStart=>exact ⟨0,S,Nat.zero_le _,rfl,rfl,hide ⟨(uh hI).1,rfl,by simp,rfl,(uh hI).2⟩⟩
   case round =>
    clear hI
    obtain ⟨i,cur,hi,rfl,rfl,hJ⟩:=hrel
    have hKl:=ddF_len (S.take i) (a:=[])
    rw [List.length_take] at hKl
    simp only [List.length_nil,Nat.zero_add] at hKl
    by_cases hlt : i < S.length
    ·have hd2 : decide ((i : Int) < (S.length : Int)) = true:=by simp; omega
     obtain ⟨g,cap,hgv,-,-⟩:=own_pos (uh hJ).1 (by omega)
     simp only [Value.slice.injEq,true_and] at hgv
     obtain ⟨rfl,rfl,-⟩:=hgv
     have hcl:=(uh hJ).2.1
     have hr' : wr.ownsRow 0 103 3 (.slice (some ⟨g,0,none⟩) cur.length rc) cur.length (prCells cur):=by rw [hcl]; exact own_le (uh hJ).1 (Nat.zero_le _)
     obtain ⟨x0,x1,x2⟩:=own_cells hr' (i:=i) (by omega)
     have hci : cur.getD i pr0 = S.getD i pr0:=by
      have h1:=congrArg (fun m=>m.getD 0 pr0) (uh hJ).2.2.2.1
      simpa [List.getD_eq_getElem?_getD,List.getElem?_drop] using h1
     have hds:=foldl_step (g:=ddS) (a:=[]) hlt
     obtain ⟨K,hK⟩ : ∃ K,K = (S.take i).foldl ddS []:=⟨_,rfl⟩
     obtain ⟨p,hp⟩ : ∃ p,p = S.getD i pr0:=⟨_,rfl⟩
     rw [hci,← hp] at x0 x1 x2
     rw [← hK] at hJ hKl hds ⊢
     rw [← hp] at hds
     have hKi : K.length ≤ i:=by omega
     obtain ⟨r6,⟨⟨u0,y0⟩,⟨u1,y1⟩,⟨u2,y2⟩⟩,f0,f1,f2⟩:=put3 (uh hJ).1 hcl.symm (i:=K.length) (by omega) p
     have hge : w.heap.size ≤ g:=((uh hJ).1.lt g rfl).1
     have hb6:=(((uh hJ).2.2.2.2.setCell (p:=⟨g,K.length * 3,none⟩) hge (.int .i64 (p.k : Int))).setCell (p:=⟨g,K.length * 3 + 1,none⟩) hge (.int .i64 (p.l : Int))).setCell (p:=⟨g,K.length * 3 + 2,none⟩) hge (.int .i64 (p.r : Int))
     have hput : ∀ K' : List Pr,K' = K ++ [p] → (cur.set K.length p).length = S.length ∧ (cur.set K.length p).take K'.length = K' ∧ (cur.set K.length p).drop (i + 1) = S.drop (i + 1):=by
      rintro K' rfl
      refine ⟨by simpa using hcl,?_,?_⟩
      ·have h1:=(uh hJ).2.2.1
       rw [List.length_append,List.length_singleton,List.take_add_one,List.getElem?_set_self (by omega),List.take_set_of_le (Nat.le_refl _),h1]
       rfl
      ·rw [List.drop_set_of_lt (by omega)]
       have h1:=congrArg (fun m=>m.drop 1) (uh hJ).2.2.2.1
       simpa [List.drop_drop,Nat.add_comm] using h1
     have HR6:=hide r6
     have HB6:=hide hb6
     have HPT:=hide hput
     have hkeep : ddS K p = K → cur.take (ddS K p).length = ddS K p ∧ cur.drop (i + 1) = S.drop (i + 1):=fun e=>by
      rw [e]
      refine ⟨(uh hJ).2.2.1,?_⟩
      have h1:=congrArg (fun m=>m.drop 1) (uh hJ).2.2.2.1
      simpa [List.drop_drop,Nat.add_comm] using h1
     have HKP:=hide hkeep
     have HDS:=hide hds
     have i1 : (0 : Int) ≤ (i : Int):=by omega
     have i2 : (i : Int) < (S.length : Int):=by omega
     have i3 : (K.length : Int) < (S.length : Int):=by omega
     by_cases hi0 : i = 0
     ·have hKe : K = []:=by rw [hK,hi0]; rfl
      have HDD : Hid (ddS K p = K ++ [p]):=hide (by unfold ddS; rw [if_pos (Or.inl hKe)])
      have d0 : ((i : Int) == 0) = true:=by simp [hi0]
      obtain ⟨kl,hkl⟩ : ∃ kl,kl = K.length:=⟨_,rfl⟩
      rw [← hkl] at HR6 HB6 HPT y0 y1 y2 f0 f1 f2 i3 hKl ⊢
      have HKL:=hide hkl
      clear hp hK hds r6 hb6 hput hkeep hr' hci hKi hge hcl hKe hi0 hkl
      go_wp2_with fail
      go_quiet (fail)
      go_wp2_with fail
      go_roundw
      case rel=>exact ⟨i + 1,_,by omega,by go_num,by rw [uh HDS,uh HDD,List.length_append,List.length_singleton,← uh HKL]; go_num,hide (by
       rw [uh HDS,uh HDD]
       obtain ⟨h1,h2,h3⟩:=uh HPT _ rfl
       exact ⟨uh HR6,h1,h2,h3,⟨(uh HB6).os,(uh HB6).tape,(uh HB6).output,(uh HB6).size,(uh HB6).block⟩⟩)⟩
      case measure=>simp [intOf]; omega
     ·have hKn : K ≠ []:=by
       rw [hK]
       refine ddF_some (fun e=>?_)
       have:=congrArg List.length e
       rw [List.length_take,List.length_nil] at this
       omega
      obtain ⟨n,hn⟩ : ∃ n,K.length = n + 1:=⟨K.length - 1,by have:=List.length_pos_iff.2 hKn; omega⟩
      have hcn : cur.getD n pr0 = K.getD n pr0:=by
       have h1:=congrArg (fun m=>m.getD n pr0) (uh hJ).2.2.1
       simp only [List.getD_eq_getElem?_getD,List.getElem?_take] at h1 ⊢
       rw [if_pos (by omega)] at h1
       exact h1
      obtain ⟨z0,z1,z2⟩:=own_cells hr' (i:=n) (by omega)
      obtain ⟨q,hq⟩ : ∃ q,q = K.getD n pr0:=⟨_,rfl⟩
      rw [hcn,← hq] at z0 z1 z2
      have hdd : ddS K p = if prE p q = false then K ++ [p] else K:=by
       unfold ddS
       rw [hn,Nat.add_sub_cancel,← hq]
       by_cases e : prE p q = false
       ·rw [if_pos (Or.inr e),if_pos e]
       ·rw [if_neg (by rw [not_or]; exact ⟨hKn,e⟩),if_neg e]
      have HDD:=hide hdd
      have d0 : ((i : Int) == 0) = false:=by simp; omega
      have hq0 : IntKind.i64.wrap (n : Int) = (n : Int):=by rw [IntKind.wrap_i64]; omega
      have i4 : (n : Int) < (S.length : Int):=by omega
      have i5 : (0 : Int) ≤ (n : Int):=by omega
      have HKL:=hide hn
      rw [hn] at HR6 HB6 HPT y0 y1 y2 f0 f1 f2 i3 hKl ⊢
      rw [show ((n + 1 : Nat) : Int) = (n : Int) + 1 by omega] at i3
      clear hp hK hds r6 hb6 hput hkeep hr' hci hKi hge hcl hi0 hKn hcn hq hdd hn
      have hgd:=guardP
      have hneq : ∀ W : World,(binOp .neq 103 (.agg #[.int .i64 (p.k : Int),.int .i64 (p.l : Int),.int .i64 (p.r : Int)]) (.agg #[.int .i64 (q.k : Int),.int .i64 (q.l : Int),.int .i64 (q.r : Int)])).run Tryz.prog W = .ok (.bool (!prE p q)) W:=fun W=>by rw [neqP,prE_int]
      cases hpq : prE p q
      ·rw [hpq] at HDD hneq
       rw [show (!false) = true from rfl] at hneq
       have HD2 : Hid (ddS K p = K ++ [p]):=hide (uh HDD)
       clear HDD hpq
       go_wp2_with fail
       go_quiet (fail)
       go_wp2_with fail
       go_roundw
       case rel=>exact ⟨i + 1,_,by omega,by go_num,by rw [uh HDS,uh HD2,List.length_append,List.length_singleton,uh HKL]; go_num,hide (by
        rw [uh HDS,uh HD2]
        obtain ⟨h1,h2,h3⟩:=uh HPT _ rfl
        exact ⟨uh HR6,h1,h2,h3,⟨(uh HB6).os,(uh HB6).tape,(uh HB6).output,(uh HB6).size,(uh HB6).block⟩⟩)⟩
       case measure=>simp [intOf]; omega
      ·rw [hpq] at HDD hneq
       rw [show (!true) = false from rfl] at hneq
       have HD2 : Hid (ddS K p = K):=hide (uh HDD)
       clear HDD hpq
       go_wp2_with fail
       go_quiet (fail)
       go_wp2_with fail
       go_roundw
       case rel=>exact ⟨i + 1,cur,by omega,by go_num,by rw [uh HDS,uh HD2,uh HKL],hide (by
        obtain ⟨h2,h3⟩:=uh HKP (uh HD2)
        rw [uh HDS]
        exact ⟨(uh hJ).1,(uh hJ).2.1,h2,h3,⟨(uh hJ).2.2.2.2.os,(uh hJ).2.2.2.2.tape,(uh hJ).2.2.2.2.output,(uh hJ).2.2.2.2.size,(uh hJ).2.2.2.2.block⟩⟩)⟩
       case measure=>simp [intOf]; omega
    ·have hd2 : decide ((i : Int) < (S.length : Int)) = false:=by simp; omega
     have hie : (S.take i).foldl ddS [] = srL l:=by rw [List.take_of_length_le (by omega)]; exact (uh HSR).symm
     rw [hie] at hJ hKl ⊢
     have hKS : (srL l).length ≤ S.length:=by omega
     have HRT : Hid (wr.ownsRow w.heap.size 103 3 (.slice ra (srL l).length rc) (srL l).length (prCells (srL l))):=hide (by
      have h1:=own_take (uh hJ).1 hKS
      rw [prCells_take,(uh hJ).2.2.1] at h1
      exact h1)
     have HBT:=hide (uh hJ).2.2.2.2
     obtain ⟨n,hn⟩ : ∃ n,n = (srL l).length:=⟨_,rfl⟩
     rw [← hn] at HRT hKS ⊢
     have hrc : S.length ≤ rc:=by
      obtain ⟨a1,c1,h1,h2,h3⟩:=own_slc (uh hJ).1
      simp only [Value.slice.injEq,true_and] at h1
      omega
     have q1 : (0 : Int) ≤ (n : Int):=by omega
     have q2 : (n : Int) ≤ (rc : Int):=by omega
     have HNN:=hide hn
     clear hie hJ hKl hn HSR
     go_wp2_with fail
     go_ret
     exact ⟨_,rfl,by rw [← uh HNN]; exact uh HRT,uh HBT⟩
end
theorem mapK_self {g : Pr → Pr} {l : List Pr} {k : Nat} (hk : k < l.length) (h : g (l.getD k pr0) = l.getD k pr0) : mapK g l (k + 1) = mapK g l k:=by
 rw [mapK_step hk,h]
 have h1:=mapK_get (g:=g) hk
 rw [← h1]
 exact set_sameP (by rw [mapK_len]; exact hk)
section
variable {w : World} {A : Nat} {f : CF} {av ov : Value}
set_option maxRecDepth 100000 in
set_option maxHeartbeats 8000000 in
theorem order_any (h : Fm w A f av ov) (ha : f.ap.length ≤ 100000) (ho : f.ow.length ≤ 100000) : Calls Tryz.prog 110 #[.pointer (some ⟨A,0,none⟩)] w fun e w'=>e = .returned (.tuple #[]) ∧ ∃ av' ov',Fm w' A (orF f) av' ov' ∧ Stp (bsF A av ov) w (bsF A av' ov') w':=by
 have c6:=h.is.c6
 have HSO:=hide (sorted_any h.is.ow ho)
 have H:=hide h
 obtain ⟨oa,oc,hov,-,-⟩:=own_slc h.is.ow
 subst hov
 obtain ⟨aa,ac,hav,-,-⟩:=own_slc h.is.ap
 subst hav
 clear h
 go_enter Tryz.func110,Tryz.ntmps110
 go_wp2_with fail
 refine (uh HSO).mono ?_
 rintro e w1 ⟨v1,rfl,hr1,hb1⟩
 obtain ⟨a1,k1,rfl⟩:=slice_of_own hr1
 have hs1 : Stp (Value.slice oa f.ow.length oc).ownBlock.toList w (Value.slice a1 (srL f.ow).length k1).ownBlock.toList w1:=(Stp.ofBw (F:=(Value.slice oa f.ow.length oc).ownBlock.toList) hb1).foots (fun j hj=>Or.inr (hr1.lt j (by simpa using hj)).1)
 obtain ⟨hF1,hst1⟩:=(uh H).newOv (ow':=srL f.ow) hs1 (v':=.slice a1 (srL f.ow).length k1) (fun j hj=>by simpa using hj) (own_le hr1 (Nat.zero_le _))
 have hF0:=(uh H).below hb1
 have d6:=hF0.is.c6
 have f6:=World.ownsRow.frozenAt hF0.is.ob 6
 obtain ⟨w2,hw2⟩ : ∃ w2,w2 = w1.setCell ⟨A,6,none⟩ (.slice a1 (srL f.ow).length k1):=⟨_,rfl⟩
 rw [← hw2] at hF1 hst1
 have HI0 : Hid (Fm w2 A { f with ow:=srL f.ow,ap:=mapK swP f.ap 0 } (.slice aa f.ap.length ac) (.slice a1 (srL f.ow).length k1) ∧ Stp (bsF A (.slice aa f.ap.length ac) (.slice oa f.ow.length oc)) w (bsF A (.slice aa f.ap.length ac) (.slice a1 (srL f.ow).length k1)) w2):=hide ⟨by simpa [mapK] using hF1,hst1⟩
 clear hr1 hb1 hs1 hF1 hst1 hF0 HSO c6
 obtain ⟨n1,hn1⟩ : ∃ n1,n1 = (srL f.ow).length:=⟨_,rfl⟩
 rw [← hn1] at hw2 HI0 ⊢
 have HN1:=hide hn1
 clear hn1
 go_upto_region 1 with fail
 rw [← hw2]
 clear hw2 d6 f6
 go_wp2_with fail
 go_loopw [2] (fun i wx=>∃ (k : Nat),k ≤ f.ap.length ∧ i = .int .i64 k ∧ Hid (Fm wx A { f with ow:=srL f.ow,ap:=mapK swP f.ap k } (.slice aa f.ap.length ac) (.slice a1 n1 k1) ∧ Stp (bsF A (.slice aa f.ap.length ac) (.slice oa f.ow.length oc)) w (bsF A (.slice aa f.ap.length ac) (.slice a1 n1 k1)) wx)) (fun i _=>f.ap.length - (intOf i).toNat)
 case atStart=>exact ⟨0,Nat.zero_le _,rfl,HI0⟩
 case round =>
  clear HI0
  obtain ⟨k,hk,rfl,hI⟩:=hrel
  have hml:=mapK_len swP f.ap k
  have c5:=(uh hI).1.is.c5
  by_cases hlt : k < f.ap.length
  ·have hd : decide ((k : Int) < (f.ap.length : Int)) = true:=by simp; omega
   have hrow : wr.ownsRow 0 103 3 (.slice aa f.ap.length ac) f.ap.length (prCells (mapK swP f.ap k)):=by
    have:=(uh hI).1.is.ap
    rwa [show ({ f with ow:=srL f.ow,ap:=mapK swP f.ap k } : CF).ap.length = f.ap.length from hml] at this
   obtain ⟨g,cap,hgv,-,-,-⟩:=own_pos hrow (by omega)
   simp only [Value.slice.injEq,true_and] at hgv
   obtain ⟨rfl,rfl⟩:=hgv
   have hrow' : wr.ownsRow 0 103 3 (.slice (some ⟨g,0,none⟩) (mapK swP f.ap k).length ac) (mapK swP f.ap k).length (prCells (mapK swP f.ap k)):=by rw [hml]; exact hrow
   obtain ⟨x0,x1,x2⟩:=own_cells hrow' (i:=k) (by omega)
   have hmg:=mapK_get (g:=swP) hlt
   rw [hmg] at x0 x1 x2
   have hms:=mapK_step (g:=swP) hlt
   have hse:=mapK_self (g:=swP) hlt
   obtain ⟨p,hp⟩ : ∃ p,p = f.ap.getD k pr0:=⟨_,rfl⟩
   rw [← hp] at x0 x1 x2 hms hse hmg
   have hgA : g ≠ A:=fun e=>(uh hI).1.nds.1 (by rw [e]; rfl)
   obtain ⟨W1,hW1⟩ : ∃ W1,W1 = wr.alloc (.cells #[Value.int .i64 p.k,.int .i64 p.l,.int .i64 p.r] 103):=⟨_,rfl⟩
   have hbx : Below wr.heap.size wr W1:=by rw [hW1]; exact below_boxQ wr _
   have hX : Bk W1 wr.heap.size 103 [Value.int .i64 p.k,.int .i64 p.l,.int .i64 p.r]:=by rw [hW1]; exact Bk.new wr _ _
   have hF1:=(uh hI).1.below hbx
   have hS1:=(uh hI).2.trans (Stp.ofBw hbx)
   have hr1:=own_bw hrow hbx
   obtain ⟨X,hXe⟩ : ∃ X,X = wr.heap.size:=⟨_,rfl⟩
   have hgX : g ≠ X:=by have:=(hrow.lt g rfl).2; omega
   rw [← hXe] at hX
   have b1:=hX.cell 1 rfl
   have b2:=hX.cell 2 rfl
   have e5:=hF1.is.c5
   have i1 : (0 : Int) ≤ (k : Int):=by omega
   have i2 : (k : Int) < (f.ap.length : Int):=by omega
   by_cases hsw : p.r < p.l
   ·have d1 : decide ((p.r : Int) < (p.l : Int)) = true:=by simp; omega
    have s1:=(hr1.stored (k * 3 + 1) (.int .i64 (p.r : Int))).1
    rw [prCells_set1 (by omega),hmg] at s1
    have s2:=(s1.stored (k * 3 + 2) (.int .i64 (p.l : Int))).1
    rw [prCells_set2 (by simp; omega)] at s2
    have hcur : ((mapK swP f.ap k).set k ⟨p.k,p.r,p.r⟩).set k ⟨(((mapK swP f.ap k).set k ⟨p.k,p.r,p.r⟩).getD k pr0).k,(((mapK swP f.ap k).set k ⟨p.k,p.r,p.r⟩).getD k pr0).l,p.l⟩ = mapK swP f.ap (k + 1):=by
     rw [hms,List.set_set]
     have : ((mapK swP f.ap k).set k ⟨p.k,p.r,p.r⟩).getD k pr0 = ⟨p.k,p.r,p.r⟩:=by
      rw [List.getD_eq_getElem?_getD,List.getElem?_set_self (by omega)]; rfl
     rw [this]
     unfold swP
     rw [if_pos hsw]
    rw [hcur] at s2
    have hs2 : Stp (Value.slice (some ⟨g,0,none⟩) f.ap.length ac).ownBlock.toList W1 (Value.slice (some ⟨g,0,none⟩) f.ap.length ac).ownBlock.toList ((W1.setCell ⟨g,k * 3 + 1,none⟩ (.int .i64 (p.r : Int))).setCell ⟨g,k * 3 + 2,none⟩ (.int .i64 (p.l : Int))):=((Stp.refl _ _).setCell (p:=⟨g,k * 3 + 1,none⟩) (Or.inl (by simp [Value.ownBlock])) _).setCell (p:=⟨g,k * 3 + 2,none⟩) (Or.inl (by simp [Value.ownBlock])) _
    obtain ⟨hF2,hst2⟩:=hF1.newRowA (ap':=mapK swP f.ap (k + 1)) (by rw [mapK_len,show ({ f with ow:=srL f.ow,ap:=mapK swP f.ap k } : CF).ap.length = f.ap.length from hml]) (by rw [show ({ f with ow:=srL f.ow,ap:=mapK swP f.ap k } : CF).ap.length = f.ap.length from hml]; exact s2) hs2
    obtain ⟨q0,q1,q2⟩:=own_cells (own_le (hml ▸ hr1 : W1.ownsRow 0 103 3 (.slice (some ⟨g,0,none⟩) (mapK swP f.ap k).length ac) (mapK swP f.ap k).length (prCells (mapK swP f.ap k))) (Nat.zero_le _)) (i:=k) (by omega)
    have f1:=hr1.frozenAt (k * 3 + 1)
    have f2:=s1.frozenAt (k * 3 + 2)
    have y2 : (W1.setCell ⟨g,k * 3 + 1,none⟩ (.int .i64 (p.r : Int))).cell? ⟨g,k * 3 + 2,none⟩ = some (.int .i64 (p.r : Int)):=by
     rw [World.cell?_setCell_other _ _ _ _ (by simp),q2,hmg]
    have y5 : (W1.setCell ⟨g,k * 3 + 1,none⟩ (.int .i64 (p.r : Int))).cell? ⟨A,5,none⟩ = some (.slice (some ⟨g,0,none⟩) f.ap.length ac):=by
     rw [World.cell?_setCell_other _ _ _ _ (by simp only [ne_eq,Addr.mk.injEq,not_and]; intro e; exact absurd e hgA)]; exact e5
    have yb : (W1.setCell ⟨g,k * 3 + 1,none⟩ (.int .i64 (p.r : Int))).cell? ⟨X,1,none⟩ = some (.int .i64 (p.l : Int)):=by
     rw [World.cell?_setCell_other _ _ _ _ (by simp only [ne_eq,Addr.mk.injEq,not_and]; intro e; exact absurd e hgX)]; exact b1
    have HN : Hid (Fm ((W1.setCell ⟨g,k * 3 + 1,none⟩ (.int .i64 (p.r : Int))).setCell ⟨g,k * 3 + 2,none⟩ (.int .i64 (p.l : Int))) A { f with ow:=srL f.ow,ap:=mapK swP f.ap (k + 1) } (.slice (some ⟨g,0,none⟩) f.ap.length ac) (.slice a1 n1 k1) ∧ Stp (bsF A (.slice (some ⟨g,0,none⟩) f.ap.length ac) (.slice oa f.ow.length oc)) w (bsF A (.slice (some ⟨g,0,none⟩) f.ap.length ac) (.slice a1 n1 k1)) ((W1.setCell ⟨g,k * 3 + 1,none⟩ (.int .i64 (p.r : Int))).setCell ⟨g,k * 3 + 2,none⟩ (.int .i64 (p.l : Int)))):=hide ⟨hF2,hS1.trans hst2⟩
    rw [hmg] at q0 q1 q2
    clear s1 s2 hcur hs2 hF2 hst2 hrow hrow' hmg hms hse hp hbx hX hF1 hS1 hr1 hml hI hgA hgX
    go_upto_region 5 with fail
    rw [← hW1,← hXe]
    clear hW1 hXe
    go_wp2_with fail
    go_region
    go_wp2_with fail
    go_region
    go_wp2_with fail
    go_roundw
    case rel=>exact ⟨k + 1,by omega,by go_num,hide ⟨(uh HN).1.of_eq (fun _ _=>rfl),(uh HN).2.drew.drew⟩⟩
    case measure=>simp [intOf]; omega
   ·have d1 : decide ((p.r : Int) < (p.l : Int)) = false:=by simp; omega
    have HN : Hid (Fm W1 A { f with ow:=srL f.ow,ap:=mapK swP f.ap (k + 1) } (.slice (some ⟨g,0,none⟩) f.ap.length ac) (.slice a1 n1 k1) ∧ Stp (bsF A (.slice (some ⟨g,0,none⟩) f.ap.length ac) (.slice oa f.ow.length oc)) w (bsF A (.slice (some ⟨g,0,none⟩) f.ap.length ac) (.slice a1 n1 k1)) W1):=hide ⟨by rw [hse (by unfold swP; rw [if_neg hsw])]; exact hF1,hS1⟩
    clear hrow hrow' hmg hms hse hp hbx hX hF1 hS1 hr1 hml hI hgA hgX
    go_upto_region 5 with fail
    rw [← hW1,← hXe]
    clear hW1 hXe
    go_wp2_with fail
    go_roundw
    case rel=>exact ⟨k + 1,by omega,by go_num,HN⟩
    case measure=>simp [intOf]; omega
  ·have hd : decide ((k : Int) < (f.ap.length : Int)) = false:=by simp; omega
   have hke : mapK swP f.ap k = f.ap.map swP:=mapK_all (by omega)
   rw [hke] at hI
   have hrow : wr.ownsRow 0 103 3 (.slice aa f.ap.length ac) (f.ap.map swP).length (prCells (f.ap.map swP)):=(uh hI).1.is.ap
   have HSA:=hide (sorted_any hrow (by simpa using ha))
   clear hke hrow hml
   go_wp2_with fail
   refine (uh HSA).mono ?_
   rintro e w5 ⟨v5,rfl,hr5,hb5⟩
   obtain ⟨a5,k5,rfl⟩:=slice_of_own hr5
   have hs5 : Stp (Value.slice aa f.ap.length ac).ownBlock.toList wr (Value.slice a5 (srL (f.ap.map swP)).length k5).ownBlock.toList w5:=(Stp.ofBw (F:=(Value.slice aa f.ap.length ac).ownBlock.toList) hb5).foots (fun j hj=>Or.inr (hr5.lt j (by simpa using hj)).1)
   obtain ⟨hF5,hst5⟩:=(uh hI).1.newAv (ap':=srL (f.ap.map swP)) hs5 (v':=.slice a5 (srL (f.ap.map swP)).length k5) (fun j hj=>by simpa using hj) (own_le hr5 (Nat.zero_le _))
   have hF0:=(uh hI).1.below hb5
   have d5:=hF0.is.c5
   have f5:=World.ownsRow.frozenAt hF0.is.ob 5
   have HN:=hide (And.intro hF5 ((uh hI).2.trans hst5))
   clear hr5 hb5 hs5 hF5 hst5 hF0 HSA c5
   go_wp2_with fail
   go_end0
   exact ⟨rfl,_,_,(uh HN).1,(uh HN).2⟩
set_option maxRecDepth 100000 in
set_option maxHeartbeats 2000000 in
theorem tidy_any (h : Fm w A f av ov) (hO : FoOk f) (ha : f.ap.length ≤ 100000) : Calls Tryz.prog 72 #[.pointer (some ⟨A,0,none⟩)] w fun e w'=>e = .returned (.tuple #[]) ∧ ∃ av' ov',Fm w' A (tdF f) av' ov' ∧ Stp (bsF A av ov) w (bsF A av' ov') w':=by
 have hol:=hO.owLen
 have HFG:=hide (forget_any h ⟨hO.cl,hO.ow,hO.ap⟩ ha (by omega))
 have HO:=hide hO
 clear h hO
 go_enter Tryz.func72,Tryz.ntmps72
 go_wp2_with fail
 refine (uh HFG).mono ?_
 rintro e w1 ⟨rfl,av1,h1,s1⟩
 have hl1 : (fgF f).ap.length ≤ 100000:=Nat.le_trans (List.length_filter_le _ _) ha
 have HRN:=hide (renumber_any h1 (uh HO).fg (fun p hp=>fg_live hp) hl1)
 have HS1:=hide s1
 clear h1 s1 HFG
 go_wp2_with fail
 refine (uh HRN).mono ?_
 rintro e w2 ⟨rfl,h2,s2⟩
 have HOR:=hide (order_any h2 (by simpa [rnF] using hl1) (by
  show ((fgF f).ow.map _).length ≤ 100000
  rw [List.length_map]
  exact Nat.le_trans hol (by omega)))
 have HS2:=hide ((uh HS1).trans s2)
 clear h2 s2 HRN
 go_wp2_with fail
 refine (uh HOR).mono ?_
 rintro e w3 ⟨rfl,av3,ov3,h3,s3⟩
 have HN:=hide (And.intro h3 ((uh HS2).trans s3))
 clear h3 s3 HOR
 go_wp2_with fail
 go_end0
 exact ⟨rfl,_,_,(uh HN).1,(uh HN).2⟩
end
end Go.Proofs.YtciihepbeacppabGreat
