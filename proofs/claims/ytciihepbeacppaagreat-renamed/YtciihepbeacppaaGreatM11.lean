import Derived.Test.YtciihepbeacppaaGreatM10
import Derived.Deep.LoopGhost
namespace Go.Proofs.YtciihepbeacppaaGreat
open Go.RowKit
set_option linter.unusedVariables false
def smP (f:CF) (p:Pr):Bool:=!(nmB f p.l || decide (p.r = p.l)) && decide (enN f.ow p.l = 1)
def smF (f:CF):Option Nat:=f.ow.findIdx? (smP f)
theorem fi_hit {l:List Pr} {P:Pr→Bool} {k:Nat} (hk:k < l.length) (hn:∀ j,j < k→P (l.getD j pr0) = false) (h:P (l.getD k pr0) = true):l.findIdx? P = some k:=by
 rw [List.findIdx?_eq_some_iff_getElem]
 refine ⟨hk,by rw [← pr_at hk];exact h,fun j hj=>?_⟩
 have:=hn j hj
 rw [pr_at (by omega)] at this
 simpa using this
theorem fi_miss {l:List Pr} {P:Pr→Bool} (hn:∀ j,j < l.length→P (l.getD j pr0) = false):l.findIdx? P = none:=by
 rw [List.findIdx?_eq_none_iff]
 intro x hx
 obtain ⟨k,hk,rfl⟩:=List.mem_iff_getElem.1 hx
 have:=hn k hk
 rwa [pr_at hk] at this
section
variable {w:World} {A:Nat} {f:CF} {av ov:Value}
set_option maxRecDepth 100000 in
set_option maxHeartbeats 4000000 in
theorem seam_any (h:IsF w A f av ov) (ho:f.ow.length≤100000):Calls Tryz.prog 250 #[.pointer (some ⟨A,0,none⟩)] w fun e w'=>e = .returned (.int .i64 (opI (smF f)))∧Below w.heap.size w w':=by
 obtain ⟨oa,oc,hov,hoc,hom⟩:=own_slc h.ow
 subst hov
 have H:=hide h
 have HB0:=hide (Below.refl w.heap.size w)
 clear h
 go_enter Tryz.func250,Tryz.ntmps250
 go_wp2_with fail
 go_loopw [3] (fun i wx=>∃ (k:Nat),k≤f.ow.length∧i = .int .i64 k∧Hid (Below w.heap.size w wx)∧Hid (∀ j,j < k→smP f (f.ow.getD j pr0) = false)) (fun i _=>f.ow.length - (intOf i).toNat)
 case atStart=>exact ⟨0,Nat.zero_le _,rfl,HB0,hide (fun _ h=>absurd h (by omega))⟩
 case round =>
  clear HB0
  obtain ⟨k,hk,rfl,hb,hn⟩:=hrel
  have hF:=(uh H).below (uh hb)
  have c6:=hF.c6
  by_cases hlt:k < f.ow.length
  ·have hd:decide ((k:Int) < (f.ow.length:Int)) = true:=by simp;omega
   obtain ⟨g,cap,hgv,-,-⟩:=own_formP hF.ow hlt
   simp only [Value.slice.injEq,true_and] at hgv
   obtain ⟨rfl,rfl⟩:=hgv
   obtain ⟨x0,x1,x2⟩:=own_cells hF.ow hlt
   obtain ⟨p,hp⟩:∃ p,p = f.ow.getD k pr0:=⟨_,rfl⟩
   rw [← hp] at x0 x1 x2
   have HNM:=hide (named_any hF p.l)
   have HEN:Hid (Calls Tryz.prog 262 #[.pointer (some ⟨A,0,none⟩),.int .i64 p.l] wr fun e w'=>e = .returned (.int .i64 (enN f.ow p.l:Nat))∧Below w.heap.size w w'):=hide ((ends_any hF ho p.l).mono (by
    rintro e w' ⟨rfl,hb2⟩
    exact ⟨rfl,(uh hb).trans (hb2.mono (uh hb).size)⟩))
   have hsm:smP f p = (!(nmB f p.l || decide (p.r = p.l)) && decide (enN f.ow p.l = 1)):=rfl
   have HNX:Hid (smP f p = false→∀ j,j < k + 1→smP f (f.ow.getD j pr0) = false):=hide (fun h0 j hj=>by
    by_cases e:j = k
    ·rw [e,← hp];exact h0
    ·exact uh hn j (by omega))
   have HHT:Hid (smP f p = true→opI (smF f) = (k:Int)):=hide (fun h1=>by unfold smF;rw [fi_hit hlt (uh hn) (by rw [← hp];exact h1)];rfl)
   have i1:(0:Int)≤(k:Int):=by omega
   have i2:(k:Int) < (f.ow.length:Int):=by omega
   obtain ⟨b,hbb⟩:∃ b,b = nmB f p.l:=⟨_,rfl⟩
   obtain ⟨m,hm⟩:∃ m,m = enN f.ow p.l:=⟨_,rfl⟩
   have hml:m≤100000:=by rw [hm];exact Nat.le_trans (enN_le _ _) ho
   rw [← hbb] at hsm HNM
   rw [← hm] at hsm HEN
   have HSM:=hide hsm
   clear hF hp hsm hbb hm
   go_wp2_with fail
   refine (uh HNM).mono ?_
   rintro e w1 ⟨rfl,rfl⟩
   clear HNM
   cases b with
   | true =>
    have HE:Hid (smP f p = false):=hide (by rw [uh HSM];simp)
    go_wp2_with fail
    go_roundw
    case rel=>exact ⟨k + 1,by omega,by go_num,hb,hide (uh HNX (uh HE))⟩
    case measure=>simp [intOf];omega
   | false =>
    by_cases e1:p.r = p.l
    ·have b1:((p.r:Int) == (p.l:Int)) = true:=by simp [e1]
     have HE:Hid (smP f p = false):=hide (by rw [uh HSM];simp [e1])
     clear e1
     go_wp2_with fail
     go_roundw
     case rel=>exact ⟨k + 1,by omega,by go_num,hb,hide (uh HNX (uh HE))⟩
     case measure=>simp [intOf];omega
    ·have b1:((p.r:Int) == (p.l:Int)) = false:=by simp;omega
     have HE0:Hid (smP f p = decide (m = 1)):=hide (by rw [uh HSM];simp [e1])
     clear e1
     go_wp2_with fail
     refine (uh HEN).mono ?_
     rintro e w2 ⟨rfl,hb2⟩
     have HB2:=hide hb2
     clear hb2 HEN
     by_cases e2:m = 1
     ·have b2:((m:Int) == (1:Int)) = true:=by simp [e2]
      have HE:Hid (opI (smF f) = (k:Int)):=hide (uh HHT (by rw [uh HE0];simp [e2]))
      clear e2
      go_wp2_with fail
      go_ret
      exact ⟨ret_int (uh HE).symm,uh HB2⟩
     ·have b2:((m:Int) == (1:Int)) = false:=by simp;omega
      have HE:Hid (smP f p = false):=hide (by rw [uh HE0];simp [e2])
      clear e2
      go_wp2_with fail
      go_roundw
      case rel=>exact ⟨k + 1,by omega,by go_num,HB2,hide (uh HNX (uh HE))⟩
      case measure=>simp [intOf];omega
  ·have hd:decide ((k:Int) < (f.ow.length:Int)) = false:=by simp;omega
   have HE:Hid (opI (smF f) = -1):=hide (by unfold smF;rw [fi_miss (fun j hj=>uh hn j (by omega))];rfl)
   clear hF
   go_wp2_with fail
   go_ret
   exact ⟨ret_int (uh HE).symm,uh hb⟩
end
def mapK (g:Pr→Pr) (l:List Pr) (k:Nat):List Pr:=(l.take k).map g ++ l.drop k
theorem mapK_len (g:Pr→Pr) (l:List Pr) (k:Nat):(mapK g l k).length = l.length:=by simp [mapK];omega
theorem mapK_get {g:Pr→Pr} {l:List Pr} {k:Nat} (hk:k < l.length):(mapK g l k).getD k pr0 = l.getD k pr0:=by
 rw [pr_at hk]
 unfold mapK
 rw [List.getD_eq_getElem?_getD,List.getElem?_append_right (by simp;omega)]
 simp [hk,Nat.min_eq_left (Nat.le_of_lt hk)]
theorem mapK_step {g:Pr→Pr} {l:List Pr} {k:Nat} (hk:k < l.length):mapK g l (k + 1) = (mapK g l k).set k (g (l.getD k pr0)):=by
 rw [pr_at hk]
 unfold mapK
 have e:l.drop k = l[k] :: l.drop (k + 1):=List.drop_eq_getElem_cons hk
 have e2:(l.take (k + 1)).map g = (l.take k).map g ++ [g l[k]]:=by
  rw [List.take_add_one,List.getElem?_eq_getElem hk,List.map_append];rfl
 have e3:((l.take k).map g).length = k:=by simp;omega
 rw [e2,e,List.set_append_right _ _ (by omega),e3,Nat.sub_self,List.set_cons_zero,List.append_assoc]
 rfl
theorem mapK_all {g:Pr→Pr} {l:List Pr} {k:Nat} (hk:l.length≤k):mapK g l k = l.map g:=by
 unfold mapK;rw [List.take_of_length_le hk,List.drop_eq_nil_of_le hk,List.append_nil]
theorem set_sameP {l:List Pr} {k:Nat} (hk:k < l.length):l.set k (l.getD k pr0) = l:=by
 rw [pr_at hk,List.set_getElem_self]
def fo1 (m e:Nat) (p:Pr):Pr:=if p.r = m then ⟨4,p.l,e⟩ else p
def foS1 (f:CF) (k:Nat):CF:={ f with ow:=tkO (f.ow.map (fo1 (f.ow.getD k pr0).l (f.ow.getD k pr0).r)) k }
def foldN:Nat→CF→CF
 | 0,f=>f
 | n + 1,f=>match smF f with | none=>f | some k=>foldN n (foS1 f k)
def foF (f:CF):CF:=foldN f.ow.length f
theorem tkK_len2 (l:List Pr) (i k:Nat):(tkK l i k).length = if i < k then k - 1 else k:=by
 induction k with
 | zero=>simp [tkK]
 | succ k ih =>
  rw [tkK_step,List.length_append,ih]
  by_cases h:k = i
  ·rw [if_pos h,if_neg (by omega),if_pos (by omega)];simp
  ·rw [if_neg h]
   by_cases h2:i < k
   ·rw [if_pos h2,if_pos (by omega)];simp;omega
   ·rw [if_neg h2,if_neg (by omega)];simp
theorem tkO_len {l:List Pr} {k:Nat} (hk:k < l.length):(tkO l k).length = l.length - 1:=by
 unfold tkO;rw [tkK_len2,if_pos hk]
theorem smF_lt {f:CF} {k:Nat} (h:smF f = some k):k < f.ow.length:=by
 unfold smF at h
 rw [List.findIdx?_eq_some_iff_getElem] at h
 exact h.1
section
variable {w:World} {A:Nat} {f:CF} {av ov:Value}
set_option maxRecDepth 100000 in
set_option maxHeartbeats 4000000 in
theorem fold_any (h:Fm w A f av ov) (ho:f.ow.length≤100000):Calls Tryz.prog 228 #[.pointer (some ⟨A,0,none⟩)] w fun e w'=>e = .returned (.tuple #[])∧∃ ov',Fm w' A (foF f) av ov'∧Stp (bsF A av ov) w (bsF A av ov') w':=by
 have HS0:=hide (seam_any h.is ho)
 have H:=hide h
 clear h
 go_enter Tryz.func228,Tryz.ntmps228
 go_wp2_with fail
 refine (uh HS0).mono ?_
 rintro e w1 ⟨rfl,hb1⟩
 have HI0:Hid (Fm w1 A f av ov∧Stp (bsF A av ov) w (bsF A av ov) w1∧foldN f.ow.length f = foF f):=hide ⟨(uh H).below hb1,Stp.ofBw hb1,rfl⟩
 clear hb1 HS0
 go_wp2_with fail
 go_loopg [2] f.ow.length (fun gn kv wx=>∃ (F:CF) (ov':Value),F.ow.length = gn∧gn≤f.ow.length∧kv = .int .i64 (opI (smF F))∧Hid (Fm wx A F av ov'∧Stp (bsF A av ov) w (bsF A av ov') wx∧foldN gn F = foF f))
 case atStart=>exact ⟨f,ov,rfl,Nat.le_refl _,rfl,HI0⟩
 case round =>
  clear HI0
  obtain ⟨F,ov',hlen,hgn,rfl,hI⟩:=hrel
  obtain ⟨G,hG⟩:∃ G,G = gk:=⟨_,rfl⟩
  cases hsm:smF F with
  | none =>
   have HE:Hid (F = foF f):=hide (by
    have:=(uh hI).2.2
    rw [← this]
    cases gk with
    | zero=>rfl
    | succ n=>simp [foldN,hsm])
   clear hsm
   go_wp2_with fail
   go_end0
   exact ⟨rfl,ov',by rw [← uh HE];exact (uh hI).1,(uh hI).2.1⟩
  | some k =>
   have hkl:=smF_lt hsm
   have HNX:Hid (foldN (gk - 1) (foS1 F k) = foF f):=hide (by
    have h1:=(uh hI).2.2
    rw [← h1,show gk = gk - 1 + 1 by omega]
    simp [foldN,hsm])
   obtain ⟨p,hp⟩:∃ p,p = F.ow.getD k pr0:=⟨_,rfl⟩
   have HFS:Hid (foS1 F k = { F with ow:=tkO (F.ow.map (fo1 p.l p.r)) k }):=hide (by unfold foS1;rw [← hp])
   obtain ⟨g,cap,hgv,hcm,hcn⟩:=own_formP (uh hI).1.is.ow hkl
   subst hgv
   have c6:=(uh hI).1.is.c6
   obtain ⟨-,x1,x2⟩:=own_cells (uh hI).1.is.ow hkl
   rw [← hp] at x1 x2
   have d0:decide ((0:Int)≤(k:Int)) = true:=by simp
   have i1:(0:Int)≤(k:Int):=by omega
   have i2:(k:Int) < (F.ow.length:Int):=by omega
   have HI1:Hid (Fm wr A { F with ow:=mapK (fo1 p.l p.r) F.ow 0 } av (.slice (some ⟨g,0,none⟩) F.ow.length cap)∧Stp (bsF A av ov) w (bsF A av (.slice (some ⟨g,0,none⟩) F.ow.length cap)) wr):=hide ⟨by simpa [mapK] using (uh hI).1,(uh hI).2.1⟩
   have HLN:=hide hlen
   clear hsm hp hI hlen
   rw [show opI (some k) = (k:Int) from rfl]
   go_wp2_with fail
   go_loopg [5] F.ow.length (fun gn i wx=>∃ (j:Nat),j + gn = F.ow.length∧i = .int .i64 j∧Hid (Fm wx A { F with ow:=mapK (fo1 p.l p.r) F.ow j } av (.slice (some ⟨g,0,none⟩) F.ow.length cap)∧Stp (bsF A av ov) w (bsF A av (.slice (some ⟨g,0,none⟩) F.ow.length cap)) wx))
   case atStart=>exact ⟨0,by omega,rfl,HI1⟩
   case round =>
    clear HI1 x1 x2 c6
    obtain ⟨j,hjn,rfl,hJ⟩:=hrel
    obtain ⟨G2,hG2⟩:∃ G2,G2 = gk:=⟨_,rfl⟩
    have c6:=(uh hJ).1.is.c6
    have hml:=mapK_len (fo1 p.l p.r) F.ow j
    by_cases hlt:j < F.ow.length
    ·have hd:decide ((j:Int) < (F.ow.length:Int)) = true:=by simp;omega
     have hrow:wr.ownsRow 0 182 3 (.slice (some ⟨g,0,none⟩) F.ow.length cap) F.ow.length (prCells (mapK (fo1 p.l p.r) F.ow j)):=by
      have:=(uh hJ).1.is.ow
      rwa [show ({ F with ow:=mapK (fo1 p.l p.r) F.ow j }:CF).ow.length = F.ow.length from hml] at this
     have hrow':wr.ownsRow 0 182 3 (.slice (some ⟨g,0,none⟩) (mapK (fo1 p.l p.r) F.ow j).length cap) (mapK (fo1 p.l p.r) F.ow j).length (prCells (mapK (fo1 p.l p.r) F.ow j)):=by rw [hml];exact hrow
     obtain ⟨y0,-,y2⟩:=own_cells hrow' (i:=j) (by omega)
     obtain ⟨q,hq⟩:∃ q,q = F.ow.getD j pr0:=⟨_,rfl⟩
     rw [mapK_get hlt,← hq] at y0 y2
     have z0:=hrow.frozenAt (j * 3)
     have k1:(0:Int)≤(j:Int):=by omega
     have k2:(j:Int) < (F.ow.length:Int):=by omega
     by_cases e1:q.r = p.l
     ·have b1:((q.r:Int) == (p.l:Int)) = true:=by simp [e1]
      have r1:=(hrow.stored (j * 3) (.int .i64 4)).1
      rw [show (Value.int .i64 4) = Value.int .i64 ((4:Nat):Int) from rfl,prCells_set0 (by omega),mapK_get hlt,← hq] at r1
      have z2:(wr.setCell ⟨g,j * 3,none⟩ (.int .i64 4)).frozen? ⟨g,j * 3 + 2,none⟩ = false:=r1.frozenAt (j * 3 + 2)
      have y2':(wr.setCell ⟨g,j * 3,none⟩ (.int .i64 4)).cell? ⟨g,j * 3 + 2,none⟩ = some (.int .i64 (q.r:Int)):=by rw [World.cell?_setCell_other _ _ _ _ (by simp)];exact y2
      have r2:=(r1.stored (j * 3 + 2) (.int .i64 (p.r:Int))).1
      rw [prCells_set2 (by simp;omega)] at r2
      have e2:((mapK (fo1 p.l p.r) F.ow j).set j ⟨4,q.l,q.r⟩).set j ⟨(((mapK (fo1 p.l p.r) F.ow j).set j ⟨4,q.l,q.r⟩).getD j pr0).k,(((mapK (fo1 p.l p.r) F.ow j).set j ⟨4,q.l,q.r⟩).getD j pr0).l,p.r⟩ = mapK (fo1 p.l p.r) F.ow (j + 1):=by
       rw [mapK_step hlt,← hq,List.set_set]
       have:((mapK (fo1 p.l p.r) F.ow j).set j ⟨4,q.l,q.r⟩).getD j pr0 = ⟨4,q.l,q.r⟩:=by
        rw [List.getD_eq_getElem?_getD,List.getElem?_set_self (by omega)];rfl
       rw [this]
       unfold fo1
       rw [if_pos e1]
      rw [e2] at r2
      have hs:Stp (Value.slice (some ⟨g,0,none⟩) F.ow.length cap).ownBlock.toList wr (Value.slice (some ⟨g,0,none⟩) F.ow.length cap).ownBlock.toList ((wr.setCell ⟨g,j * 3,none⟩ (.int .i64 4)).setCell ⟨g,j * 3 + 2,none⟩ (.int .i64 (p.r:Int))):=((Stp.refl _ _).setCell (p:=⟨g,j * 3,none⟩) (Or.inl (by simp [Value.ownBlock])) _).setCell (p:=⟨g,j * 3 + 2,none⟩) (Or.inl (by simp [Value.ownBlock])) _
      have hN:=(uh hJ).1.newRow (ow':=mapK (fo1 p.l p.r) F.ow (j + 1)) (by rw [mapK_len,mapK_len]) (by rw [show ({ F with ow:=mapK (fo1 p.l p.r) F.ow j }:CF).ow.length = F.ow.length from hml];exact r2) hs
      have c6':(wr.setCell ⟨g,j * 3,none⟩ (.int .i64 4)).cell? ⟨A,6,none⟩ = some (.slice (some ⟨g,0,none⟩) F.ow.length cap):=by
       rw [World.cell?_setCell_other _ _ _ _ (by intro e;have:=(uh hJ).1.nds.2.1;simp at e;exact this (by rw [e.1];rfl))];exact c6
      have HN:Hid (Fm ((wr.setCell ⟨g,j * 3,none⟩ (.int .i64 4)).setCell ⟨g,j * 3 + 2,none⟩ (.int .i64 (p.r:Int))) A { F with ow:=mapK (fo1 p.l p.r) F.ow (j + 1) } av (.slice (some ⟨g,0,none⟩) F.ow.length cap)∧Stp (bsF A av ov) w (bsF A av (.slice (some ⟨g,0,none⟩) F.ow.length cap)) ((wr.setCell ⟨g,j * 3,none⟩ (.int .i64 4)).setCell ⟨g,j * 3 + 2,none⟩ (.int .i64 (p.r:Int)))):=hide ⟨hN.1,(uh hJ).2.trans hN.2⟩
      clear e1 r1 r2 e2 hs hN hrow hrow' hq hml hJ
      go_wp2_with fail
      go_roundg (G2 - 1)
      case rel=>exact ⟨j + 1,by omega,by go_num,HN⟩
      case measure=>omega
     ·have b1:((q.r:Int) == (p.l:Int)) = false:=by simp;omega
      have HE:Hid (mapK (fo1 p.l p.r) F.ow (j + 1) = mapK (fo1 p.l p.r) F.ow j):=hide (by
       rw [mapK_step hlt,← hq,show fo1 p.l p.r q = q from if_neg e1]
       have h1:=set_sameP (l:=mapK (fo1 p.l p.r) F.ow j) (k:=j) (by omega)
       rw [mapK_get hlt,← hq] at h1
       exact h1)
      clear e1 hrow hrow' hq hml
      go_wp2_with fail
      go_roundg (G2 - 1)
      case rel=>exact ⟨j + 1,by omega,by go_num,hide (by rw [uh HE];exact uh hJ)⟩
      case measure=>omega
    ·have hd:decide ((j:Int) < (F.ow.length:Int)) = false:=by simp;omega
     have hF:Fm wr A { F with ow:=F.ow.map (fo1 p.l p.r) } av (.slice (some ⟨g,0,none⟩) F.ow.length cap):=by
      have:=(uh hJ).1
      rwa [mapK_all (by omega)] at this
     have HT:=hide (ftake_any hF (by simp;have:=uh HLN;omega) k)
     have HST:=hide (uh hJ).2
     clear hF hml hJ
     go_wp2_with fail
     refine (uh HT).mono ?_
     rintro e w2 ⟨rfl,ov2,hF2,hs2⟩
     have hl2:(tkO (F.ow.map (fo1 p.l p.r)) k).length = F.ow.length - 1:=by rw [tkO_len (by simpa using hkl)];simp
     have HS2:=hide (seam_any hF2.is (by show (tkO (F.ow.map (fo1 p.l p.r)) k).length≤100000;have:=uh HLN;omega))
     have HF2:=hide hF2
     have HSS:=hide ((uh HST).trans hs2)
     have HL2:=hide hl2
     clear hF2 hs2 hl2 HT c6
     go_wp2_with fail
     refine (uh HS2).mono ?_
     rintro e w3 ⟨rfl,hb3⟩
     have HF3:Hid (Fm w3 A (foS1 F k) av ov2∧Stp (bsF A av ov) w (bsF A av ov2) w3):=hide ⟨by rw [uh HFS];exact (uh HF2).below hb3,(uh HSS).trans (Stp.ofBw hb3)⟩
     clear hb3 HS2
     go_wp2_with fail
     go_roundg (G - 1)
     case rel =>
      have h1:=uh HLN
      refine ⟨foS1 F k,ov2,?_,by omega,by rw [uh HFS],hide ⟨(uh HF3).1,(uh HF3).2,?_⟩⟩
      ·rw [uh HFS]
       show (tkO (F.ow.map (fo1 p.l p.r)) k).length = _
       rw [uh HL2];omega
      ·rw [hG];exact uh HNX
     case measure=>have:=uh HLN;omega
end
def bfB (p q:Pr):Bool:=decide (p.l < q.l) || (decide (p.l = q.l) && decide (p.r < q.r))
def prV (p:Pr):Value:=.agg #[.int .i64 (p.k:Int),.int .i64 (p.l:Int),.int .i64 (p.r:Int)]
section
variable {w:World}
set_option maxRecDepth 100000 in
set_option maxHeartbeats 2000000 in
theorem before_any (p q:Pr):Calls Tryz.prog 249 #[prV p,prV q] w fun e w'=>e = .returned (.bool (bfB p q))∧Below w.heap.size w w':=by
 have HB:Hid (Below w.heap.size w ((w.alloc (.cells #[.int .i64 (p.k:Int),.int .i64 (p.l:Int),.int .i64 (p.r:Int)] 182)).alloc (.cells #[.int .i64 (q.k:Int),.int .i64 (q.l:Int),.int .i64 (q.r:Int)] 182))):=hide (((Below.refl _ _).alloc (Nat.le_refl _) _).alloc (by simp) _)
 unfold prV
 obtain ⟨b,hb⟩:∃ b,b = bfB p q:=⟨_,rfl⟩
 rw [← hb]
 unfold bfB at hb
 obtain ⟨pk,pl,pr⟩:=p
 obtain ⟨qk,ql,qr⟩:=q
 simp only at hb ⊢
 by_cases h1:pl < ql
 ·have HE:Hid (b = true):=hide (by rw [hb];simp [h1])
  clear hb
  go_enter Tryz.func249,Tryz.ntmps249
  go_wp2_with fail
  go_ret
  exact ⟨ret_bool (uh HE).symm,uh HB⟩
 ·by_cases h2:pl = ql
  ·subst h2
   have HE:Hid (b = decide (pr < qr)):=hide (by rw [hb];simp)
   clear hb h1
   go_enter Tryz.func249,Tryz.ntmps249
   go_wp2_with fail
   go_ret
   exact ⟨ret_bool (uh HE).symm,uh HB⟩
  ·have HE:Hid (b = false):=hide (by rw [hb];simp [h1,h2])
   have h3:ql < pl:=by omega
   clear hb h1
   go_enter Tryz.func249,Tryz.ntmps249
   go_wp2_with fail
   go_ret
   exact ⟨ret_bool (by rw [uh HE];simp;omega),uh HB⟩
set_option maxRecDepth 100000 in
theorem greater_any (a b:Nat):Calls Tryz.prog 265 #[.int .i64 a,.int .i64 b] w fun e w'=>e = .returned (.int .i64 (max a b:Nat))∧w' = w:=by
 by_cases h:b < a
 ·have HE:Hid (max a b = a):=hide (by omega)
  go_enter Tryz.func265,Tryz.ntmps265
  go_wp2_with fail
  go_ret
  exact ⟨ret_int (by rw [uh HE]),rfl⟩
 ·have HE:Hid (max a b = b):=hide (by omega)
  go_enter Tryz.func265,Tryz.ntmps265
  go_wp2_with fail
  go_ret
  exact ⟨ret_int (by rw [uh HE]),rfl⟩
end
def mxP (m:Nat) (l:List Pr):Nat:=l.foldl (fun m p=>max (max m p.l) p.r) m
def mxC (f:CF):Nat:=max (max (max (max (max 0 (f.cl.getD 0 0)) (f.cl.getD 1 0)) (f.cl.getD 2 0)) (f.cl.getD 3 0)) (f.cl.getD 4 0)
def namF (f:CF):Nat:=mxP (mxP (mxC f) f.ow) f.ap + 1
theorem mxP_step {m:Nat} {l:List Pr} {k:Nat} (hk:k < l.length):mxP m (l.take (k + 1)) = max (max (mxP m (l.take k)) (l.getD k pr0).l) (l.getD k pr0).r:=by
 rw [pr_at hk]
 unfold mxP
 rw [List.take_add_one,List.getElem?_eq_getElem hk,List.foldl_append];rfl
section
variable {w:World} {A:Nat} {f:CF} {av ov:Value}
set_option maxRecDepth 100000 in
set_option maxHeartbeats 4000000 in
theorem fnames_any (h:IsF w A f av ov) (ha:f.ap.length≤100000) (ho:f.ow.length≤100000) (hm:namF f≤100000):Calls Tryz.prog 258 #[.pointer (some ⟨A,0,none⟩)] w fun e w'=>e = .returned (.int .i64 (namF f:Nat))∧Below w.heap.size w w':=by
 obtain ⟨oa,oc,hov,-,-⟩:=own_slc h.ow
 subst hov
 obtain ⟨aa,ac,hav,-,-⟩:=own_slc h.ap
 subst hav
 have x0:=h.cls (i:=0) (by omega)
 have x1:=h.cls (i:=1) (by omega)
 have x2:=h.cls (i:=2) (by omega)
 have x3:=h.cls (i:=3) (by omega)
 have x4:=h.cls (i:=4) (by omega)
 unfold clV at x0 x1 x2 x3 x4
 obtain ⟨y0,e0⟩:∃ y,y = f.cl.getD 0 0:=⟨_,rfl⟩
 obtain ⟨y1,e1⟩:∃ y,y = f.cl.getD 1 0:=⟨_,rfl⟩
 obtain ⟨y2,e2⟩:∃ y,y = f.cl.getD 2 0:=⟨_,rfl⟩
 obtain ⟨y3,e3⟩:∃ y,y = f.cl.getD 3 0:=⟨_,rfl⟩
 obtain ⟨y4,e4⟩:∃ y,y = f.cl.getD 4 0:=⟨_,rfl⟩
 have HC:Hid (mxC f = max (max (max (max (max 0 y0) y1) y2) y3) y4):=hide (by unfold mxC;rw [e0,e1,e2,e3,e4])
 rw [← e0] at x0
 rw [← e1] at x1
 rw [← e2] at x2
 rw [← e3] at x3
 rw [← e4] at x4
 have j0:=idx5_0 (.int .i64 (y0:Int)) (.int .i64 (y1:Int)) (.int .i64 (y2:Int)) (.int .i64 (y3:Int)) (.int .i64 (y4:Int))
 have j1:=idx5_1 (.int .i64 (y0:Int)) (.int .i64 (y1:Int)) (.int .i64 (y2:Int)) (.int .i64 (y3:Int)) (.int .i64 (y4:Int))
 have j2:=idx5_2 (.int .i64 (y0:Int)) (.int .i64 (y1:Int)) (.int .i64 (y2:Int)) (.int .i64 (y3:Int)) (.int .i64 (y4:Int))
 have j3:=idx5_3 (.int .i64 (y0:Int)) (.int .i64 (y1:Int)) (.int .i64 (y2:Int)) (.int .i64 (y3:Int)) (.int .i64 (y4:Int))
 have j4:=idx5_4 (.int .i64 (y0:Int)) (.int .i64 (y1:Int)) (.int .i64 (y2:Int)) (.int .i64 (y3:Int)) (.int .i64 (y4:Int))
 have c6:=h.c6
 have c5:=h.c5
 have H:=hide h
 have HM:=hide hm
 have HG:Hid (∀ (W:World) (a b:Nat),Calls Tryz.prog 265 #[.int .i64 a,.int .i64 b] W fun e w'=>e = .returned (.int .i64 (max a b:Nat))∧w' = W):=hide (fun W a b=>greater_any a b)
 clear h e0 e1 e2 e3 e4 hm
 go_enter Tryz.func258,Tryz.ntmps258
 go_wp2_with fail
 go_loop [3,14] (fun m i=>∃ (k:Nat),k≤5∧i = .int .i64 k∧m = .int .i64 ((([y0,y1,y2,y3,y4].take k).foldl max 0:Nat):Int)) (fun _ i=>5 - (intOf i).toNat)
 case atStart=>exact ⟨0,Nat.zero_le _,rfl,rfl⟩
 case round =>
  obtain ⟨k,hk,rfl,rfl⟩:=hrel
  obtain ⟨m,hmm⟩:∃ m,m = ([y0,y1,y2,y3,y4].take k).foldl max 0:=⟨_,rfl⟩
  rw [← hmm]
  have HMM:=hide hmm
  clear hmm
  have hcase:k = 0∨k = 1∨k = 2∨k = 3∨k = 4∨k = 5:=by omega
  rcases hcase with rfl | rfl | rfl | rfl | rfl | rfl
  ·go_wp2_with fail
   refine (uh HG _ _ _).mono ?_
   rintro e w1 ⟨rfl,rfl⟩
   go_wp2_with fail
   go_round
   case rel=>exact ⟨1,by omega,by go_num,by rw [uh HMM];rfl⟩
   case measure=>simp [intOf]
  ·go_wp2_with fail
   refine (uh HG _ _ _).mono ?_
   rintro e w1 ⟨rfl,rfl⟩
   go_wp2_with fail
   go_round
   case rel=>exact ⟨2,by omega,by go_num,by rw [uh HMM];rfl⟩
   case measure=>simp [intOf]
  ·go_wp2_with fail
   refine (uh HG _ _ _).mono ?_
   rintro e w1 ⟨rfl,rfl⟩
   go_wp2_with fail
   go_round
   case rel=>exact ⟨3,by omega,by go_num,by rw [uh HMM];rfl⟩
   case measure=>simp [intOf]
  ·go_wp2_with fail
   refine (uh HG _ _ _).mono ?_
   rintro e w1 ⟨rfl,rfl⟩
   go_wp2_with fail
   go_round
   case rel=>exact ⟨4,by omega,by go_num,by rw [uh HMM];rfl⟩
   case measure=>simp [intOf]
  ·go_wp2_with fail
   refine (uh HG _ _ _).mono ?_
   rintro e w1 ⟨rfl,rfl⟩
   go_wp2_with fail
   go_round
   case rel=>exact ⟨5,by omega,by go_num,by rw [uh HMM];rfl⟩
   case measure=>simp [intOf]
  ·have hmc:m = mxC f:=by rw [uh HMM,uh HC];rfl
   have HB0:=hide (Below.refl w.heap.size w)
   have HST:Hid (m = mxP (mxC f) (f.ow.take 0)):=hide (by rw [hmc];rfl)
   clear HMM hmc j0 j1 j2 j3 j4 x0 x1 x2 x3 x4 HC
   go_wp2_with fail
   go_loopw [3,26] (fun mv i wx=>∃ (k:Nat),k≤f.ow.length∧i = .int .i64 k∧mv = .int .i64 (mxP (mxC f) (f.ow.take k):Nat)∧Hid (Below w.heap.size w wx)) (fun _ i _=>f.ow.length - (intOf i).toNat)
   case atStart=>exact ⟨0,Nat.zero_le _,rfl,by rw [← uh HST],HB0⟩
   case round =>
    clear HST HB0
    obtain ⟨k,hk,rfl,rfl,hb⟩:=hrel
    obtain ⟨m,hmm⟩:∃ m,m = mxP (mxC f) (f.ow.take k):=⟨_,rfl⟩
    rw [← hmm]
    have hF:=(uh H).below (uh hb)
    by_cases hlt:k < f.ow.length
    ·have hd:decide ((k:Int) < (f.ow.length:Int)) = true:=by simp;omega
     obtain ⟨g,cap,hgv,-,-⟩:=own_formP hF.ow hlt
     simp only [Value.slice.injEq,true_and] at hgv
     obtain ⟨rfl,rfl⟩:=hgv
     obtain ⟨x0,x1,x2⟩:=own_cells hF.ow hlt
     have hst:=mxP_step (m:=mxC f) hlt
     obtain ⟨p,hp⟩:∃ p,p = f.ow.getD k pr0:=⟨_,rfl⟩
     rw [← hp] at x0 x1 x2 hst
     rw [← hmm] at hst
     have HST:=hide hst
     have HB1:Hid (Below w.heap.size w (wr.alloc (.cells #[.int .i64 (p.k:Int),.int .i64 (p.l:Int),.int .i64 (p.r:Int)] 182))):=hide ((uh hb).alloc (uh hb).size _)
     have i1:(0:Int)≤(k:Int):=by omega
     have i2:(k:Int) < (f.ow.length:Int):=by omega
     clear hF hp hst hmm
     go_wp2_with fail
     refine (uh HG _ _ _).mono ?_
     rintro e w1 ⟨rfl,rfl⟩
     go_wp2_with fail
     refine (uh HG _ _ _).mono ?_
     rintro e w1 ⟨rfl,rfl⟩
     go_wp2_with fail
     go_roundw
     case rel=>exact ⟨k + 1,by omega,by go_num,by rw [uh HST,Nat.max_assoc],HB1⟩
     case measure=>simp [intOf];omega
    ·have hd:decide ((k:Int) < (f.ow.length:Int)) = false:=by simp;omega
     have hke:m = mxP (mxP (mxC f) f.ow) (f.ap.take 0):=by rw [hmm,List.take_of_length_le (by omega)];rfl
     have HKE:=hide hke
     have c5':=hF.c5
     clear hF hmm hke
     go_wp2_with fail
     go_loopw [3,44] (fun mv i wx=>∃ (k:Nat),k≤f.ap.length∧i = .int .i64 k∧mv = .int .i64 (mxP (mxP (mxC f) f.ow) (f.ap.take k):Nat)∧Hid (Below w.heap.size w wx)) (fun _ i _=>f.ap.length - (intOf i).toNat)
     case atStart=>exact ⟨0,Nat.zero_le _,rfl,by rw [← uh HKE],hb⟩
     case round =>
      clear HKE hb
      obtain ⟨k2,hk2,rfl,rfl,hb⟩:=hrel
      obtain ⟨m2,hmm⟩:∃ m,m = mxP (mxP (mxC f) f.ow) (f.ap.take k2):=⟨_,rfl⟩
      rw [← hmm]
      have hF:=(uh H).below (uh hb)
      by_cases hlt2:k2 < f.ap.length
      ·have hd2:decide ((k2:Int) < (f.ap.length:Int)) = true:=by simp;omega
       obtain ⟨g,cap,hgv,-,-⟩:=own_formP hF.ap hlt2
       simp only [Value.slice.injEq,true_and] at hgv
       obtain ⟨rfl,rfl⟩:=hgv
       obtain ⟨x0,x1,x2⟩:=own_cells hF.ap hlt2
       have hst:=mxP_step (m:=mxP (mxC f) f.ow) hlt2
       obtain ⟨p,hp⟩:∃ p,p = f.ap.getD k2 pr0:=⟨_,rfl⟩
       rw [← hp] at x0 x1 x2 hst
       rw [← hmm] at hst
       have HST:=hide hst
       have HB1:Hid (Below w.heap.size w (wr.alloc (.cells #[.int .i64 (p.k:Int),.int .i64 (p.l:Int),.int .i64 (p.r:Int)] 182))):=hide ((uh hb).alloc (uh hb).size _)
       have i1:(0:Int)≤(k2:Int):=by omega
       have i2:(k2:Int) < (f.ap.length:Int):=by omega
       clear hF hp hst hmm
       go_wp2_with fail
       refine (uh HG _ _ _).mono ?_
       rintro e w1 ⟨rfl,rfl⟩
       go_wp2_with fail
       refine (uh HG _ _ _).mono ?_
       rintro e w1 ⟨rfl,rfl⟩
       go_wp2_with fail
       go_roundw
       case rel=>exact ⟨k2 + 1,by omega,by go_num,by rw [uh HST,Nat.max_assoc],HB1⟩
       case measure=>simp [intOf];omega
      ·have hd2:decide ((k2:Int) < (f.ap.length:Int)) = false:=by simp;omega
       have hE:m2 + 1 = namF f:=by unfold namF;rw [hmm,List.take_of_length_le (by omega)]
       have hml:m2≤100000:=by have:=uh HM;omega
       have HE:=hide hE
       clear hF hmm hE
       go_wp2_with fail
       go_ret
       exact ⟨ret_int (by rw [← uh HE];go_num),uh hb⟩
end
def clL (f:CF):List Nat:=[f.cl.getD 0 0,f.cl.getD 1 0,f.cl.getD 2 0,f.cl.getD 3 0,f.cl.getD 4 0]
def lvL (f:CF):List Nat:=clL f ++ f.ow.flatMap (fun p=>[p.l,p.r])
def fgP (f:CF) (p:Pr):Bool:=decide (p.l∈lvL f) && decide (p.r∈lvL f) && !clrB f p.l p.r
def fgF (f:CF):CF:={ f with ap:=f.ap.filter (fgP f) }
def meN (ms:List Nat) (c:Nat):List Nat:=if c∈ms then ms else ms ++ [c]
def frN (ms:List Nat) (c:Nat):Nat:=if c∈ms then ms.idxOf c + 1 else 0
def spS (f:CF) (k:Nat) (ms:List Nat):List Nat :=
 match bgn f.ow (ms.getD k 0) with
 | some i=>meN ms (f.ow.getD i pr0).r
 | none=>ms
def spN (f:CF):Nat→Nat→List Nat→List Nat
 | 0,_,ms=>ms
 | n + 1,k,ms=>if k < ms.length then spN f n (k + 1) (spS f k ms) else ms
def roS (f:CF) (ms:List Nat) (p:Pr):List Nat:=spN f 25 ms.length (meN ms p.l)
def roL (f:CF):List Nat:=f.ow.foldl (roS f) (spN f 25 0 ((clL f).foldl meN []))
def nuP (ms:List Nat) (p:Pr):Pr:=⟨p.k,ms.idxOf p.l,ms.idxOf p.r⟩
def rnF (f:CF):CF:=⟨(clL f).map (fun c=>(roL f).idxOf c),f.ap.map (nuP (roL f)),f.ow.map (nuP (roL f))⟩
def MsOk (ms:List Nat):Prop:=ms.Nodup∧∀ c∈ms,c < 24
theorem MsOk.len {ms:List Nat} (h:MsOk ms):ms.length≤24:=by
 have:=List.Nodup.length_le_of_subset h.1 (l₂:=List.range 24) (fun c hc=>by simpa using h.2 c hc)
 simpa using this
theorem MsOk.nil:MsOk []:=⟨List.nodup_nil,fun c hc=>by simp at hc⟩
theorem MsOk.me {ms:List Nat} (h:MsOk ms) {c:Nat} (hc:c < 24):MsOk (meN ms c):=by
 unfold meN
 split
 ·exact h
 ·rename_i hn
  refine ⟨?_,fun d hd=>?_⟩
  ·rw [List.nodup_append]
   exact ⟨h.1,by simp,fun a ha b hb e=>by simp only [List.mem_singleton] at hb;subst hb;subst e;exact hn ha⟩
  ·rw [List.mem_append,List.mem_singleton] at hd
   rcases hd with hd | rfl
   ·exact h.2 d hd
   ·exact hc
theorem meN_sub {ms:List Nat} {c d:Nat} (h:d∈ms):d∈meN ms c:=by unfold meN;split;exact h;exact List.mem_append_left _ h
theorem meN_mem (ms:List Nat) (c:Nat):c∈meN ms c:=by unfold meN;split;assumption;simp
theorem meN_len (ms:List Nat) (c:Nat):ms.length≤(meN ms c).length:=by unfold meN;split <;> simp
theorem meN_get {ms:List Nat} {c k:Nat} (hk:k < ms.length):(meN ms c).getD k 0 = ms.getD k 0:=by
 unfold meN
 split
 ·rfl
 ·simp [List.getD_eq_getElem?_getD,List.getElem?_append_left hk]
theorem bgn_lt:∀ {l:List Pr} {c i:Nat},bgn l c = some i→i < l.length∧(l.getD i pr0).l = c
 | [],_,_,h=>by simp [bgn] at h
 | p :: r,c,i,h=>by
  unfold bgn at h
  split at h
  ·injection h with h
   subst h
   rename_i e
   exact ⟨by simp,by simpa using e⟩
  ·obtain ⟨j,hj,rfl⟩:=Option.map_eq_some_iff.1 h
   obtain ⟨h1,h2⟩:=bgn_lt hj
   exact ⟨by simp only [List.length_cons];omega,by rw [List.getD_cons_succ];exact h2⟩
theorem bgn_mem {l:List Pr} {c i:Nat} (h:bgn l c = some i):l.getD i pr0∈l:=by
 obtain ⟨h1,-⟩:=bgn_lt h
 rw [List.getD_eq_getElem?_getD,List.getElem?_eq_getElem h1]
 exact List.getElem_mem h1
def LfN (l:List Pr):Prop:=(l.map (·.l)).Nodup
theorem bgn_of {l:List Pr} {p:Pr} (hN:LfN l) (hp:p∈l):∃ i,bgn l p.l = some i∧l.getD i pr0 = p:=by
 induction l with
 | nil=>simp at hp
 | cons q r ih =>
  unfold LfN at hN
  rw [List.map_cons,List.nodup_cons] at hN
  rcases List.mem_cons.1 hp with rfl | hp
  ·exact ⟨0,by simp [bgn],by simp⟩
  ·obtain ⟨i,h1,h2⟩:=ih hN.2 hp
   have hne:¬ (q.l = p.l):=fun e=>hN.1 (by rw [e];exact List.mem_map_of_mem (f:=(·.l)) hp)
   exact ⟨i + 1,by unfold bgn;rw [if_neg hne,h1];rfl,by simpa using h2⟩
section
variable {f:CF}
theorem spS_ok (hO:∀ p∈f.ow,p.l < 24∧p.r < 24) {k:Nat} {ms:List Nat} (h:MsOk ms):MsOk (spS f k ms):=by
 unfold spS
 split
 ·rename_i i hi
  exact h.me (hO _ (bgn_mem hi)).2
 ·exact h
theorem spS_sub {k:Nat} {ms:List Nat} {d:Nat} (h:d∈ms):d∈spS f k ms:=by unfold spS;split;exact meN_sub h;exact h
theorem spS_len (f:CF) (k:Nat) (ms:List Nat):ms.length≤(spS f k ms).length:=by unfold spS;split;exact meN_len _ _;exact Nat.le_refl _
theorem spS_get {k:Nat} {ms:List Nat} {j:Nat} (h:j < ms.length):(spS f k ms).getD j 0 = ms.getD j 0:=by unfold spS;split;exact meN_get h;rfl
theorem spN_ok (hO:∀ p∈f.ow,p.l < 24∧p.r < 24):∀ (n k:Nat) {ms:List Nat},MsOk ms→MsOk (spN f n k ms)
 | 0,_,_,h=>h
 | n + 1,k,ms,h=>by
  unfold spN
  split
  ·exact spN_ok hO n (k + 1) (spS_ok hO h)
  ·exact h
theorem spN_sub:∀ (n k:Nat) {ms:List Nat} {d:Nat},d∈ms→d∈spN f n k ms
 | 0,_,_,_,h=>h
 | n + 1,k,ms,d,h=>by
  unfold spN
  split
  ·exact spN_sub n (k + 1) (spS_sub h)
  ·exact h
theorem spN_get:∀ (n k:Nat) {ms:List Nat} {j:Nat},j < ms.length→j < (spN f n k ms).length∧(spN f n k ms).getD j 0 = ms.getD j 0
 | 0,_,_,_,h=>⟨h,rfl⟩
 | n + 1,k,ms,j,h=>by
  unfold spN
  split
  ·obtain ⟨h1,h2⟩:=spN_get n (k + 1) (ms:=spS f k ms) (j:=j) (Nat.lt_of_lt_of_le h (spS_len f k ms))
   exact ⟨h1,h2.trans (spS_get h)⟩
  ·exact ⟨h,rfl⟩
theorem spN_clo (hO:∀ p∈f.ow,p.l < 24∧p.r < 24):∀ (n k:Nat) {ms:List Nat},MsOk ms→24 < n + k→∀ j,k≤j→j < (spN f n k ms).length→∀ i,bgn f.ow ((spN f n k ms).getD j 0) = some i→(f.ow.getD i pr0).r∈spN f n k ms
 | 0,k,ms,h,hk,j,hj,hl,i,hi=>by
  have:=h.len
  unfold spN at hl
  omega
 | n + 1,k,ms,h,hk,j,hj,hl,i,hi=>by
  unfold spN at hl hi ⊢
  split at hl
  ·rename_i hlt
   rw [if_pos hlt] at hi ⊢
   by_cases e:k = j
   ·subst e
    obtain ⟨-,h2⟩:=spN_get (f:=f) n (k + 1) (ms:=spS f k ms) (j:=k) (Nat.lt_of_lt_of_le hlt (spS_len f k ms))
    rw [h2,spS_get hlt] at hi
    refine spN_sub n (k + 1) ?_
    unfold spS
    rw [hi]
    exact meN_mem _ _
   ·exact spN_clo hO n (k + 1) (spS_ok hO h) (by omega) j (by omega) hl i hi
  ·rename_i hlt
   omega
def Clo (f:CF) (ms:List Nat):Prop:=∀ c∈ms,∀ i,bgn f.ow c = some i→(f.ow.getD i pr0).r∈ms
theorem clo_of (hO:∀ p∈f.ow,p.l < 24∧p.r < 24) {n k:Nat} {ms:List Nat} (h:MsOk ms) (hk:24 < n + k) (hc:∀ j,j < k→j < ms.length→∀ i,bgn f.ow (ms.getD j 0) = some i→(f.ow.getD i pr0).r∈ms):Clo f (spN f n k ms):=by
 intro c hc' i hi
 obtain ⟨j,hj,rfl⟩:=List.mem_iff_getElem.1 hc'
 have e:(spN f n k ms).getD j 0 = (spN f n k ms)[j]:=by rw [List.getD_eq_getElem?_getD,List.getElem?_eq_getElem hj];rfl
 by_cases hlt:k≤j
 ·exact spN_clo hO n k h hk j hlt hj i (by rw [e];exact hi)
 ·by_cases hjm:j < ms.length
  ·obtain ⟨-,h2⟩:=spN_get (f:=f) n k hjm
   exact spN_sub n k (hc j (by omega) hjm i (by rw [← h2,e];exact hi))
  ·exfalso
   cases n with
   | zero=>unfold spN at hj;omega
   | succ n =>
    unfold spN at hj
    rw [if_neg (by omega)] at hj
    omega
theorem roS_ok (hO:∀ p∈f.ow,p.l < 24∧p.r < 24) {ms:List Nat} {p:Pr} (hp:p∈f.ow) (h:MsOk ms) (hc:Clo f ms):MsOk (roS f ms p)∧Clo f (roS f ms p)∧p.l∈roS f ms p∧∀ d∈ms,d∈roS f ms p:=by
 have h1:=h.me (hO p hp).1
 refine ⟨spN_ok hO _ _ h1,clo_of hO h1 (by omega) (fun j hj _ i hi=>?_),spN_sub _ _ (meN_mem _ _),fun d hd=>spN_sub _ _ (meN_sub hd)⟩
 rw [meN_get hj] at hi
 refine meN_sub (hc _ ?_ i hi)
 rw [List.getD_eq_getElem?_getD,List.getElem?_eq_getElem hj]
 exact List.getElem_mem hj
theorem roF_ok (hO:∀ p∈f.ow,p.l < 24∧p.r < 24):∀ (l:List Pr) {ms:List Nat},(∀ p∈l,p∈f.ow)→MsOk ms→Clo f ms→MsOk (l.foldl (roS f) ms)∧Clo f (l.foldl (roS f) ms)∧(∀ p∈l,p.l∈l.foldl (roS f) ms)∧∀ d∈ms,d∈l.foldl (roS f) ms
 | [],ms,_,h,hc=>⟨h,hc,fun p hp=>by simp at hp,fun d hd=>hd⟩
 | p :: r,ms,hl,h,hc=>by
  obtain ⟨h1,h2,h3,h4⟩:=roS_ok hO (hl p (by simp)) h hc
  obtain ⟨g1,g2,g3,g4⟩:=roF_ok hO r (fun q hq=>hl q (by simp [hq])) h1 h2
  rw [List.foldl_cons]
  exact ⟨g1,g2,fun q hq=>by
   rcases List.mem_cons.1 hq with rfl | hq
   ·exact g4 _ h3
   ·exact g3 q hq,fun d hd=>g4 d (h4 d hd)⟩
theorem meF_ok:∀ (l:List Nat) {ms:List Nat},(∀ c∈l,c < 24)→MsOk ms→MsOk (l.foldl meN ms)∧(∀ c∈l,c∈l.foldl meN ms)∧∀ d∈ms,d∈l.foldl meN ms
 | [],ms,_,h=>⟨h,fun c hc=>by simp at hc,fun d hd=>hd⟩
 | c :: r,ms,hl,h=>by
  obtain ⟨g1,g2,g3⟩:=meF_ok r (fun d hd=>hl d (by simp [hd])) (h.me (hl c (by simp)))
  rw [List.foldl_cons]
  exact ⟨g1,fun d hd=>by
   rcases List.mem_cons.1 hd with rfl | hd
   ·exact g3 _ (meN_mem _ _)
   ·exact g2 d hd,fun d hd=>g3 d (meN_sub hd)⟩
theorem roL_ok0 (hO:∀ p∈f.ow,p.l < 24∧p.r < 24) (hC:∀ c∈clL f,c < 24):MsOk (roL f)∧Clo f (roL f)∧(∀ c∈clL f,c∈roL f)∧∀ p∈f.ow,p.l∈roL f:=by
 obtain ⟨h1,h2,-⟩:=meF_ok (clL f) hC MsOk.nil
 have h3:=clo_of hO (n:=25) (k:=0) h1 (by omega) (fun j hj=>by omega)
 obtain ⟨g1,g2,g3,g4⟩:=roF_ok hO f.ow (fun p hp=>hp) (spN_ok hO 25 0 h1) h3
 exact ⟨g1,g2,fun c hc=>g4 c (spN_sub _ _ (h2 c hc)),g3⟩
theorem roL_live (hO:∀ p∈f.ow,p.l < 24∧p.r < 24) (hC:∀ c∈clL f,c < 24) (hN:LfN f.ow):∀ c∈lvL f,c∈roL f:=by
 obtain ⟨-,g2,g3,g4⟩:=roL_ok0 hO hC
 intro c hc
 unfold lvL at hc
 rw [List.mem_append,List.mem_flatMap] at hc
 rcases hc with hc | ⟨p,hp,hc⟩
 ·exact g3 c hc
 ·simp only [List.mem_cons,List.not_mem_nil,or_false] at hc
  rcases hc with rfl | rfl
  ·exact g4 p hp
  ·obtain ⟨i,h1,h2⟩:=bgn_of hN hp
   have:=g2 _ (g4 p hp) i h1
   rwa [h2] at this
end
def whr (p:Pr) (l:List Pr):Nat→Nat
 | 0=>0
 | k + 1=>if bfB p (l.getD k pr0) = true then whr p l k else k + 1
def insP (l:List Pr) (p:Pr):List Pr:=l.take (whr p l l.length) ++ p :: l.drop (whr p l l.length)
def prE (p q:Pr):Bool:=decide (p.k = q.k) && decide (p.l = q.l) && decide (p.r = q.r)
def ddS (a:List Pr) (p:Pr):List Pr:=if a = []∨prE p (a.getD (a.length - 1) pr0) = false then a ++ [p] else a
def srL (l:List Pr):List Pr:=(l.foldl insP []).foldl ddS []
theorem prE_iff {p q:Pr}:prE p q = true↔p = q:=by
 unfold prE
 cases p;cases q
 simp [and_assoc]
theorem whr_le (p:Pr) (l:List Pr):∀ k,whr p l k≤k
 | 0=>Nat.le_refl _
 | k + 1=>by
  unfold whr
  split
  ·exact Nat.le_succ_of_le (whr_le p l k)
  ·exact Nat.le_refl _
theorem whr_lt (p:Pr) (l:List Pr):∀ k j,whr p l k≤j→j < k→bfB p (l.getD j pr0) = true
 | 0,j,_,h=>by omega
 | k + 1,j,h1,h2=>by
  unfold whr at h1
  split at h1
  ·rename_i h
   by_cases e:j = k
   ·rw [e];exact h
   ·exact whr_lt p l k j h1 (by omega)
  ·omega
theorem whr_ge (p:Pr) (l:List Pr):∀ k,0 < whr p l k→bfB p (l.getD (whr p l k - 1) pr0) = false
 | 0,h=>by simp [whr] at h
 | k + 1,h=>by
  unfold whr at h ⊢
  split
  ·rename_i hb
   rw [if_pos hb] at h
   exact whr_ge p l k h
  ·rename_i hb
   simpa using hb
def leP (p q:Pr):Prop:=p.l < q.l∨(p.l = q.l∧p.r≤q.r)
def ltP (p q:Pr):Prop:=p.l < q.l∨(p.l = q.l∧p.r < q.r)
theorem bfB_iff {p q:Pr}:bfB p q = true↔ltP p q:=by simp [bfB,ltP]
theorem bfB_not {p q:Pr}:bfB p q = false↔leP q p:=by
 rw [← Bool.not_eq_true,bfB_iff]
 unfold ltP leP
 omega
theorem leP_trans {p q r:Pr} (h1:leP p q) (h2:leP q r):leP p r:=by unfold leP at *;omega
theorem lt_le {p q:Pr} (h:ltP p q):leP p q:=by unfold ltP leP at *;omega
theorem ltP_trans {p q r:Pr} (h1:ltP p q) (h2:ltP q r):ltP p r:=by unfold ltP at *;omega
theorem mem_getD {l:List Pr} {j:Nat} (h:j < l.length):l.getD j pr0∈l:=by
 rw [List.getD_eq_getElem?_getD,List.getElem?_eq_getElem h]
 exact List.getElem_mem h
theorem getD_eq {l:List Pr} {j:Nat} (h:j < l.length):l.getD j pr0 = l[j]:=by
 rw [List.getD_eq_getElem?_getD,List.getElem?_eq_getElem h];rfl
theorem insP_mem {l:List Pr} {p q:Pr}:q∈insP l p↔q = p∨q∈l:=by
 unfold insP
 rw [List.mem_append,List.mem_cons]
 constructor
 ·rintro (h | h | h)
  ·exact Or.inr (List.mem_of_mem_take h)
  ·exact Or.inl h
  ·exact Or.inr (List.mem_of_mem_drop h)
 ·rintro (h | h)
  ·exact Or.inr (Or.inl h)
  ·rw [← List.take_append_drop (whr p l l.length) l,List.mem_append] at h
   rcases h with h | h
   ·exact Or.inl h
   ·exact Or.inr (Or.inr h)
theorem insP_len (l:List Pr) (p:Pr):(insP l p).length = l.length + 1:=by
 unfold insP
 have:=whr_le p l l.length
 simp only [List.length_append,List.length_take,List.length_cons,List.length_drop]
 omega
theorem insP_srt {l:List Pr} {p:Pr} (h:l.Pairwise leP):(insP l p).Pairwise leP:=by
 have hle:=whr_le p l l.length
 have hlt:=whr_lt p l l.length
 have hge:=whr_ge p l l.length
 unfold insP
 generalize hk:whr p l l.length = k at *
 have hd:∀ q∈l.drop k,leP p q:=by
  intro q hq
  obtain ⟨j,hj,rfl⟩:=List.mem_iff_getElem.1 hq
  rw [List.length_drop] at hj
  rw [List.getElem_drop,← getD_eq (by omega)]
  exact lt_le (bfB_iff.1 (hlt (k + j) (by omega) (by omega)))
 have ht:∀ q∈l.take k,leP q p:=by
  intro q hq
  obtain ⟨j,hj,rfl⟩:=List.mem_iff_getElem.1 hq
  rw [List.length_take] at hj
  have h1:=bfB_not.1 (hge (by omega))
  rw [List.getElem_take]
  by_cases e:j = k - 1
  ·rw [getD_eq (by omega)] at h1
   subst e
   exact h1
  ·refine leP_trans ?_ h1
   rw [getD_eq (by omega)]
   exact List.pairwise_iff_getElem.1 h j (k - 1) (by omega) (by omega) (by omega)
 rw [List.pairwise_append,List.pairwise_cons]
 refine ⟨h.sublist (List.take_sublist _ _),⟨hd,h.sublist (List.drop_sublist _ _)⟩,?_⟩
 intro a ha b hb
 rcases List.mem_cons.1 hb with rfl | hb
 ·exact ht a ha
 ·exact leP_trans (ht a ha) (hd b hb)
theorem insF_srt:∀ (l:List Pr) {a:List Pr},a.Pairwise leP→(l.foldl insP a).Pairwise leP∧(∀ q,q∈l.foldl insP a↔q∈a∨q∈l)∧(l.foldl insP a).length = a.length + l.length
 | [],a,h=>⟨h,fun q=>by simp,by simp⟩
 | p :: r,a,h=>by
  obtain ⟨h1,h2,h3⟩:=insF_srt r (insP_srt (p:=p) h)
  rw [List.foldl_cons]
  refine ⟨h1,fun q=>?_,?_⟩
  ·rw [h2,insP_mem,List.mem_cons]
   constructor
   ·rintro ((h | h) | h)
    ·exact Or.inr (Or.inl h)
    ·exact Or.inl h
    ·exact Or.inr (Or.inr h)
   ·rintro (h | h | h)
    ·exact Or.inl (Or.inr h)
    ·exact Or.inl (Or.inl h)
    ·exact Or.inr h
  ·rw [h3,insP_len,List.length_cons];omega
theorem ddS_last {a:List Pr} {p:Pr}:p∈ddS a p:=by
 unfold ddS
 split
 ·simp
 ·rename_i h
  rw [not_or] at h
  have h1:prE p (a.getD (a.length - 1) pr0) = true:=by simpa using h.2
  rw [prE_iff] at h1
  rw [h1]
  exact mem_getD (by have:=List.length_pos_iff.2 h.1;omega)
theorem ddS_sub {a:List Pr} {p q:Pr} (h:q∈a):q∈ddS a p:=by unfold ddS;split;exact List.mem_append_left _ h;exact h
theorem ddF_mem:∀ (l:List Pr) {a:List Pr} {q:Pr},q∈l.foldl ddS a↔q∈a∨q∈l
 | [],a,q=>by simp
 | p :: r,a,q=>by
  rw [List.foldl_cons,ddF_mem r,List.mem_cons]
  constructor
  ·rintro (h | h)
   ·unfold ddS at h
    split at h
    ·rw [List.mem_append,List.mem_singleton] at h
     rcases h with h | h
     ·exact Or.inl h
     ·exact Or.inr (Or.inl h)
    ·exact Or.inl h
   ·exact Or.inr (Or.inr h)
  ·rintro (h | rfl | h)
   ·exact Or.inl (ddS_sub h)
   ·exact Or.inl ddS_last
   ·exact Or.inr h
theorem srL_mem {l:List Pr} {q:Pr}:q∈srL l↔q∈l:=by
 unfold srL
 rw [ddF_mem,(insF_srt l (a:=[]) List.Pairwise.nil).2.1]
 simp
theorem ddF_srt {K:Nat}:∀ (l:List Pr) {a:List Pr},a.Pairwise ltP→l.Pairwise leP→(∀ p∈a,∀ q∈l,leP p q)→(∀ p∈a,p.k = K)→(∀ p∈l,p.k = K)→(l.foldl ddS a).Pairwise ltP
 | [],a,h,_,_,_,_=>h
 | p :: r,a,h,hl,hal,ha,hk=>by
  rw [List.foldl_cons]
  have h1:=List.pairwise_cons.1 hl
  by_cases hn:a = []∨prE p (a.getD (a.length - 1) pr0) = false
  ·have e:ddS a p = a ++ [p]:=by unfold ddS;rw [if_pos hn]
   rw [e]
   refine ddF_srt (K:=K) r ?_ h1.2 ?_ ?_ (fun q hq=>hk q (by simp [hq]))
   ·rw [List.pairwise_append]
    refine ⟨h,by simp,fun x hx y hy=>?_⟩
    rw [List.mem_singleton] at hy
    subst hy
    have hx0:=hal x hx y (by simp)
    rcases hn with hn | hn
    ·subst hn;simp at hx
    ·obtain ⟨j,hj,rfl⟩:=List.mem_iff_getElem.1 hx
     have hz:leP (a.getD (a.length - 1) pr0) y:=hal _ (mem_getD (by omega)) y (by simp)
     have hzl:ltP (a.getD (a.length - 1) pr0) y:=by
      have hk1:y.k = K:=hk y (by simp)
      have hk2:=ha _ (mem_getD (l:=a) (j:=a.length - 1) (by omega))
      generalize a.getD (a.length - 1) pr0 = z at hn hz hk2
      have hne:y≠z:=fun e=>by rw [prE_iff.2 e] at hn;cases hn
      unfold leP at hz
      unfold ltP
      rcases hz with h | ⟨h,h'⟩
      ·exact Or.inl h
      ·right
       refine ⟨h,?_⟩
       by_cases hr:z.r = y.r
       ·exfalso
        apply hne
        cases y;cases z
        simp_all
       ·omega
     by_cases e:j = a.length - 1
     ·subst e
      rwa [getD_eq (by omega)] at hzl
     ·refine ltP_trans ?_ hzl
      rw [getD_eq (by omega)]
      exact List.pairwise_iff_getElem.1 h j (a.length - 1) hj (by omega) (by omega)
   ·intro x hx y hy
    rw [List.mem_append,List.mem_singleton] at hx
    rcases hx with hx | rfl
    ·exact hal x hx y (by simp [hy])
    ·exact h1.1 y hy
   ·intro x hx
    rw [List.mem_append,List.mem_singleton] at hx
    rcases hx with hx | rfl
    ·exact ha x hx
    ·exact hk x (by simp)
  ·have e:ddS a p = a:=by unfold ddS;rw [if_neg hn]
   rw [e]
   exact ddF_srt (K:=K) r h h1.2 (fun x hx y hy=>hal x hx y (by simp [hy])) ha (fun q hq=>hk q (by simp [hq]))
theorem srL_srt {K:Nat} {l:List Pr} (hk:∀ p∈l,p.k = K):(srL l).Pairwise ltP:=by
 obtain ⟨h1,h2,-⟩:=insF_srt l (a:=[]) List.Pairwise.nil
 refine ddF_srt (K:=K) _ List.Pairwise.nil h1 (fun p hp=>by simp at hp) (fun p hp=>by simp at hp) (fun p hp=>hk p ?_)
 have:=(h2 p).1 hp
 simpa using this
theorem ddF_nd:∀ (l:List Pr) {a:List Pr},LfN (a ++ l)→l.foldl ddS a = a ++ l
 | [],a,_=>by simp
 | p :: r,a,h=>by
  have e:ddS a p = a ++ [p]:=by
   unfold ddS
   rw [if_pos]
   by_cases ha:a = []
   ·exact Or.inl ha
   ·right
    cases hx:prE p (a.getD (a.length - 1) pr0) with
    | false=>rfl
    | true =>
     exfalso
     rw [prE_iff] at hx
     have hm:=mem_getD (l:=a) (j:=a.length - 1) (by have:=List.length_pos_iff.2 ha;omega)
     rw [← hx] at hm
     unfold LfN at h
     rw [List.map_append,List.nodup_append] at h
     exact h.2.2 p.l (List.mem_map_of_mem (f:=(·.l)) hm) p.l (by simp) rfl
  rw [List.foldl_cons,e,ddF_nd r (by rw [List.append_assoc];exact h),List.append_assoc]
  rfl
theorem insP_perm (l:List Pr) (p:Pr):(insP l p).Perm (p :: l):=by
 unfold insP
 refine List.perm_middle.trans ?_
 rw [List.take_append_drop]
theorem insF_perm:∀ (l:List Pr) {a:List Pr},(l.foldl insP a).Perm (a ++ l)
 | [],a=>by simp
 | p :: r,a=>by
  rw [List.foldl_cons]
  refine (insF_perm r).trans ?_
  refine ((insP_perm a p).append_right r).trans ?_
  exact (List.perm_middle (l₁:=a) (l₂:=r) (a:=p)).symm
theorem srL_perm {l:List Pr} (h:LfN l):(srL l).Perm l:=by
 unfold srL
 have h1:=insF_perm l (a:=[])
 rw [ddF_nd _ (by unfold LfN at h ⊢;rw [List.nil_append];exact ((h1.map (·.l)).nodup_iff).2 (by simpa using h)),List.nil_append]
 simpa using h1
theorem srt_len {l:List Pr} (h:l.Pairwise ltP) (hb:∀ p∈l,p.l < 24∧p.r < 24):l.length≤576:=by
 have h1:(l.map (fun p=>p.l * 24 + p.r)).Nodup:=by
  unfold List.Nodup
  rw [List.pairwise_map]
  refine List.Pairwise.imp_of_mem ?_ h
  intro a b ha hb' hab e
  have:=hb a ha
  have:=hb b hb'
  unfold ltP at hab
  omega
 have:=List.Nodup.length_le_of_subset h1 (l₂:=List.range 576) (fun c hc=>by
  obtain ⟨p,hp,rfl⟩:=List.mem_map.1 hc
  have:=hb p hp
  rw [List.mem_range]
  omega)
 simpa using this
def swP (p:Pr):Pr:=if p.r < p.l then ⟨p.k,p.r,p.l⟩ else p
def orF (f:CF):CF:=⟨f.cl,srL (f.ap.map swP),srL f.ow⟩
def tdF (f:CF):CF:=orF (rnF (fgF f))
structure FoOk (f:CF):Prop where
 c5:f.cl.length = 5
 cl:∀ c∈clL f,c < 24
 ow:∀ p∈f.ow,p.l < 24∧p.r < 24
 ap:∀ p∈f.ap,p.l < 24∧p.r < 24
 lf:LfN f.ow
 kd:∀ p∈f.ap,p.k = 2
theorem FoOk.owLen {f:CF} (h:FoOk f):f.ow.length≤24:=by
 have h0:MsOk (f.ow.map (·.l)):=⟨h.lf,fun c hc=>by obtain ⟨p,hp,rfl⟩:=List.mem_map.1 hc;exact (h.ow p hp).1⟩
 simpa using h0.len
theorem roL_fg (f:CF):roL (fgF f) = roL f:=by
 have e:∀ k ms,spS (fgF f) k ms = spS f k ms:=fun k ms=>rfl
 have e2:∀ n k ms,spN (fgF f) n k ms = spN f n k ms:=by
  intro n
  induction n with
  | zero=>intro k ms;rfl
  | succ n ih=>intro k ms;unfold spN;rw [e,ih]
 have e3:roS (fgF f) = roS f:=by funext ms p;unfold roS;rw [e2]
 unfold roL
 rw [e2,e3]
 rfl
theorem FoOk.fg {f:CF} (h:FoOk f):FoOk (fgF f):=⟨h.c5,h.cl,h.ow,fun p hp=>h.ap p ((List.mem_filter.1 hp).1),h.lf,fun p hp=>h.kd p ((List.mem_filter.1 hp).1)⟩
theorem fg_live {f:CF} {p:Pr} (hp:p∈(fgF f).ap):p.l∈lvL (fgF f)∧p.r∈lvL (fgF f):=by
 have:=(List.mem_filter.1 hp).2
 unfold fgP at this
 simp only [Bool.and_eq_true,decide_eq_true_eq] at this
 exact this.1
theorem idx_lt {ms:List Nat} (h:MsOk ms) {c:Nat} (hc:c∈ms):ms.idxOf c < 24:=Nat.lt_of_lt_of_le (List.idxOf_lt_length_iff.2 hc) h.len
theorem idx_inj {ms:List Nat} {c d:Nat} (hc:c∈ms) (hd:d∈ms) (e:ms.idxOf c = ms.idxOf d):c = d:=by
 have h1:=List.getElem_idxOf (List.idxOf_lt_length_iff.2 hc)
 have h2:=List.getElem_idxOf (List.idxOf_lt_length_iff.2 hd)
 rw [← h1,← h2]
 simp only [e]
theorem clL_map {f:CF} (g:Nat→Nat) (ap ow:List Pr):clL ⟨(clL f).map g,ap,ow⟩ = (clL f).map g:=rfl
theorem FoOk.rn {f:CF} (h:FoOk f) (hl:∀ p∈f.ap,p.l∈lvL f∧p.r∈lvL f):FoOk (rnF f):=by
 have hM:=(roL_ok0 h.ow h.cl).1
 have hL:=roL_live h.ow h.cl h.lf
 refine ⟨rfl,?_,?_,?_,?_,?_⟩
 ·intro c hc
  unfold rnF at hc
  rw [clL_map] at hc
  obtain ⟨d,hd,rfl⟩:=List.mem_map.1 hc
  exact idx_lt hM (hL d (List.mem_append_left _ hd))
 ·intro p hp
  obtain ⟨q,hq,rfl⟩:=List.mem_map.1 hp
  have hq1:q.l∈lvL f:=List.mem_append_right _ (List.mem_flatMap.2 ⟨q,hq,by simp⟩)
  have hq2:q.r∈lvL f:=List.mem_append_right _ (List.mem_flatMap.2 ⟨q,hq,by simp⟩)
  exact ⟨idx_lt hM (hL _ hq1),idx_lt hM (hL _ hq2)⟩
 ·intro p hp
  obtain ⟨q,hq,rfl⟩:=List.mem_map.1 hp
  exact ⟨idx_lt hM (hL _ (hl q hq).1),idx_lt hM (hL _ (hl q hq).2)⟩
 ·have h2:=h.lf
  unfold LfN rnF at *
  simp only [List.map_map]
  have e:((fun x:Pr=>x.l) ∘ nuP (roL f)) = (fun c=>(roL f).idxOf c) ∘ (fun x:Pr=>x.l):=rfl
  rw [e,← List.map_map]
  unfold List.Nodup at h2 ⊢
  rw [List.pairwise_map]
  refine List.Pairwise.imp_of_mem ?_ h2
  intro a b ha hb hab e2
  obtain ⟨p,hp,rfl⟩:=List.mem_map.1 ha
  obtain ⟨q,hq,rfl⟩:=List.mem_map.1 hb
  exact hab (idx_inj (hL _ (List.mem_append_right _ (List.mem_flatMap.2 ⟨p,hp,by simp⟩))) (hL _ (List.mem_append_right _ (List.mem_flatMap.2 ⟨q,hq,by simp⟩))) e2)
 ·intro p hp
  obtain ⟨q,hq,rfl⟩:=List.mem_map.1 hp
  exact h.kd q hq
theorem swP_k (p:Pr):(swP p).k = p.k:=by unfold swP;split <;> rfl
theorem swP_lt {p:Pr} (h:p.l < 24∧p.r < 24):(swP p).l < 24∧(swP p).r < 24:=by unfold swP;split;exact ⟨h.2,h.1⟩;exact h
theorem FoOk.or {f:CF} (h:FoOk f):FoOk (orF f):=by
 refine ⟨h.c5,h.cl,fun p hp=>h.ow p (srL_mem.1 hp),?_,?_,?_⟩
 ·intro p hp
  obtain ⟨q,hq,rfl⟩:=List.mem_map.1 (srL_mem.1 hp)
  exact swP_lt (h.ap q hq)
 ·have:=(srL_perm h.lf).map (·.l)
  exact this.nodup_iff.2 h.lf
 ·intro p hp
  obtain ⟨q,hq,rfl⟩:=List.mem_map.1 (srL_mem.1 hp)
  rw [swP_k]
  exact h.kd q hq
theorem FoOk.td {f:CF} (h:FoOk f):FoOk (tdF f):=(h.fg.rn (fun _ hp=>fg_live hp)).or
theorem orF_len {f:CF} (h:FoOk f):(orF f).ap.length≤576:=by
 refine srt_len (srL_srt (K:=2) ?_) (h.or).ap
 intro p hp
 obtain ⟨q,hq,rfl⟩:=List.mem_map.1 hp
 rw [swP_k]
 exact h.kd q hq
theorem tdF_len {f:CF} (h:FoOk f):(tdF f).ap.length≤576:=orF_len (h.fg.rn (fun _ hp=>fg_live hp))
def rcS (s:List Nat) (p:Pr):List Nat:=if p.l∈s∧p.r ∉ s then s ++ [p.r] else s
def rcR (f:CF) (s:List Nat):List Nat:=f.ow.foldl rcS s
def rcN (f:CF):Nat→List Nat→List Nat
 | 0,s=>s
 | n + 1,s=>if (rcR f s).length = s.length then s else rcN f n (rcR f s)
def rc0 (f:CF):List Nat:=[f.cl.getD 1 0,f.cl.getD 2 0,f.cl.getD 3 0,f.cl.getD 4 0].foldl meN []
def rcL (f:CF):List Nat:=rcN f 25 (rc0 f)
def rcA (f:CF):List Bool:=(List.range 24).map (fun c=>decide (c∈rcL f))
theorem rcS_ok {s:List Nat} {p:Pr} (h:MsOk s) (hp:p.r < 24):MsOk (rcS s p):=by
 unfold rcS
 split
 ·rename_i hc
  have:=h.me hp
  unfold meN at this
  rwa [if_neg hc.2] at this
 ·exact h
theorem rcS_len (s:List Nat) (p:Pr):s.length≤(rcS s p).length:=by unfold rcS;split <;> simp
theorem rcF_ok:∀ (l:List Pr) {s:List Nat},MsOk s→(∀ p∈l,p.r < 24)→MsOk (l.foldl rcS s)∧s.length≤(l.foldl rcS s).length
 | [],s,h,_=>⟨h,Nat.le_refl _⟩
 | p :: r,s,h,hl=>by
  obtain ⟨h1,h2⟩:=rcF_ok r (rcS_ok h (hl p (by simp))) (fun q hq=>hl q (by simp [hq]))
  exact ⟨h1,Nat.le_trans (rcS_len s p) h2⟩
theorem rc0_ok {f:CF} (h:∀ c∈clL f,c < 24):MsOk (rc0 f):=(meF_ok _ (fun c hc=>h c (by unfold clL;simp at hc ⊢;rcases hc with h | h | h | h <;> simp [h])) MsOk.nil).1
end Go.Proofs.YtciihepbeacppaaGreat
