import Derived.Test.YtciihepbeacppabGreatM08
import Derived.Deep.LoopGhost
namespace Go.Proofs.YtciihepbeacppabGreat
open Go.RowKit
set_option linter.unusedVariables false
theorem Sq.below {w w' : World} {q f t : Nat} {an : List (Option Nat)} {st : Int} (h : Sq w q f t an st) (hb : Below w.heap.size w w') : Sq w' q f t an st:=by
 obtain ⟨mid,vv,ov0,uv,pv0,hob,hmid,han⟩:=h
 exact ⟨mid,vv,ov0,uv,pv0,hob.of_eq (hb.block _ (World.ownsRow.lt hob _ rfl).2),hmid,han⟩
theorem IsF.below {w w' : World} {A : Nat} {f : CF} {av ov : Value} (h : IsF w A f av ov) (hb : Below w.heap.size w w') : IsF w' A f av ov:=h.of_eq (fun k hk=>hb.block k (h.lt k hk))
theorem rowB {w w' : World} {B : Nat} {e : TypeId} {sz n : Nat} {v : Value} {xs : List Value} (h : w.ownsRow B e sz v n xs) (hb : Below w.heap.size w w') : w'.ownsRow B e sz v n xs:=ownsRow_of_eq h (fun k hk=>hb.block k (h.lt k hk).2)
def cutR (n : Nat) (l : List Pr) (i : Nat) : List Pr:=(List.range i).foldl (cuF n l) l
theorem cutR_succ (n : Nat) (l : List Pr) (i : Nat) : cutR n l (i + 1) = cuF n l (cutR n l i) i:=by
 unfold cutR; rw [List.range_succ,List.foldl_append]; rfl
theorem cutA_up (l : List Pr) (i size : Nat) : (cutA l i size).length ≤ l.length + 2:=by
 unfold cutA; split
 ·simp
 ·split <;> simp
theorem cutR_len (n : Nat) (l : List Pr) (i : Nat) : l.length ≤ (cutR n l i).length ∧ (cutR n l i).length ≤ l.length + 2 * i:=by
 induction i with
 | zero=>exact ⟨Nat.le_refl _,Nat.le_refl _⟩
 | succ i ih =>
  rw [cutR_succ]
  unfold cuF
  split
  ·have h1:=cut_len (l:=cutR n l i) (i:=i) (size:=3)
   have h2:=cutA_up (cutR n l i) i 3
   omega
  ·omega
set_option maxRecDepth 100000 in
set_option maxHeartbeats 4000000 in
theorem cutAll_any {w : World} {q f t : Nat} {an : List (Option Nat)} {st : Int} {F T : CF} {l : List Pr} {fav fov tav tov lv : Value} (h : Se w q f t an F T fav fov tav tov st) (hl : w.ownsRow 0 103 3 lv l.length (prCells l)) (hll : l.length ≤ 3000) :
  Calls Tryz.prog 35 #[.pointer (some ⟨q,0,none⟩),lv] w fun e w'=>∃ v,e = .returned v ∧ w'.ownsRow 0 103 3 v (cutL F.ow.length l).length (prCells (cutL F.ow.length l)) ∧ (∀ k,v.ownBlock = some k → lv.ownBlock = some k ∨ w.heap.size ≤ k) ∧ Below w.heap.size w w':=by
 obtain ⟨lao,lcap,hlv⟩:=slice_of_own hl
 have HS:=hide h
 have HL:=hide hl
 have HLV:=hide hlv
 rw [hlv]
 clear h hl hlv
 go_enter Tryz.func35,Tryz.ntmps35
 go_wp2_with fail
 go_loopw [5,6] (fun fv i wr=>∃ k : Nat,k ≤ l.length ∧ i = .int .i64 k ∧ Hid (wr.ownsRow 0 103 3 fv (cutR F.ow.length l k).length (prCells (cutR F.ow.length l k))) ∧ Hid (∀ b,fv.ownBlock = some b → lv.ownBlock = some b ∨ w.heap.size ≤ b) ∧ Hid (Below w.heap.size w wr)) (fun _ i _=>l.length - (intOf i).toNat)
 case atStart=>exact ⟨0,Nat.zero_le _,rfl,hide (by rw [← uh HLV]; exact uh HL),hide (fun b hb=>Or.inl (by rw [uh HLV]; exact hb)),hide (Below.refl _ _)⟩
 case round =>
  obtain ⟨k,hk,rfl,hrow,hown,hbl⟩:=hrel
  by_cases hlt : k < l.length
  ·have hd : decide ((k : Int) < (l.length : Int)) = true:=by simp; omega
   have HW:=hide (whole_any ((uh HS).sq.below (uh hbl)) ((uh HS).ff.below (uh hbl)) (rowB (uh HL) (uh hbl)) hlt)
   rw [uh HLV] at HW
   have hst:=cutR_succ F.ow.length l k
   unfold cuF at hst
   cases hwh : whB F.ow.length l k with
   | true =>
    rw [hwh,if_pos rfl] at hst
    rw [hwh] at HW
    have hlen:=cutR_len F.ow.length l k
    have HCut:=hide (cut_any (i:=k) (size:=3) (uh hrow) (by omega) (by omega) (Or.inr (Or.inr rfl)))
    have HSt:=hide hst
    clear hst
    go_wp2_with fail
    refine (uh HW).mono ?_
    rintro e w1 ⟨rfl,rfl⟩
    go_wp2_with fail
    refine (uh HCut).mono ?_
    rintro e w2 ⟨v2,rfl,hrow2,hb2⟩
    have HR2:=hide hrow2
    have HB2:=hide hb2
    clear hrow2 hb2
    go_wp2_with fail
    go_roundw
    case rel =>
     refine ⟨k + 1,by omega,by go_num,hide ?_,hide (fun b hb=>Or.inr ?_),hide ((uh hbl).trans ((uh HB2).mono (uh hbl).size))⟩
     ·rw [uh HSt]; exact rowBase (uh HR2) (Nat.zero_le _)
     ·have h1:=((uh HR2).lt b hb).1
      have h2:=(uh hbl).size
      omega
    case measure=>simp [intOf]; omega
   | false =>
    rw [hwh,if_neg (by simp)] at hst
    rw [hwh] at HW
    have HSt:=hide hst
    clear hst
    go_wp2_with fail
    refine (uh HW).mono ?_
    rintro e w1 ⟨rfl,rfl⟩
    go_wp2_with fail
    go_roundw
    case rel=>exact ⟨k + 1,by omega,by go_num,hide (by rw [uh HSt]; exact uh hrow),hown,hbl⟩
    case measure=>simp [intOf]; omega
  ·have hd : decide ((k : Int) < (l.length : Int)) = false:=by simp; omega
   have hkl : k = l.length:=by omega
   subst hkl
   go_wp2_with fail
   refine bodyPost_ret (v:=u5) (by simp [results,Tryz.results35,go_sem]) rfl ⟨_,rfl,uh hrow,by rw [← uh HLV]; exact uh hown,uh hbl⟩
def tePb (i : Nat) (b : Option Nat) : Bool:=b == some (24 + 2 * i) || b == some (25 + 2 * i)
theorem opI_eqs (o : Option Nat) (n : Nat) : (opI o == (n : Int)) = (o == some n):=by
 cases o with
 | none=>simp [opI]
 | some m=>rw [Bool.eq_iff_iff]; simp [opI]; omega
set_option maxRecDepth 100000 in
set_option maxHeartbeats 8000000 in
theorem tears_any {y : Lay} {T V : CF} {w : World} {s : SS} (h : Sw w y T V s) (hlo : s.ot.length = V.ow.length) (hVl : V.ow.length ≤ 100000) {i : Nat} (hi : i < s.ot.length) :
  Calls Tryz.prog 66 #[.pointer (some ⟨y.q,0,none⟩),.int .i64 i] w fun e w'=>e = .returned (.bool (teB V.ow s i)) ∧ ∃ n,w' = w.drewN n:=by
 have hcv:=h.cv
 have HIn:=hide (inner_any i (by omega) w)
 obtain ⟨near,hnear⟩ : ∃ near : Nat,near = 24 + 2 * i:=⟨_,rfl⟩
 obtain ⟨far,hfar⟩ : ∃ far : Nat,far = 25 + 2 * i:=⟨_,rfl⟩
 rw [← hnear,← hfar] at HIn
 have HB1:=hide (begins_any near h.fv)
 have HB2:=hide (begins_any far h.fv)
 have HS:=hide h
 have HN:=hide hnear
 have HF:=hide hfar
 have HE0 : Hid ((bgn V.ow near = none ∨ bgn V.ow far = none) → teB V.ow s i = true):=hide (by
  intro hx
  unfold teB
  rw [← hnear,← hfar]
  rcases hx with hx | hx
  ·rw [hx]
  ·rw [hx]; cases bgn V.ow near <;> rfl)
 clear h hnear hfar
 cases h1 : bgn V.ow near with
 | none =>
  have HE:=hide (uh HE0 (Or.inl h1))
  rw [h1] at HB1
  clear h1
  go_enter Tryz.func66,Tryz.ntmps66
  go_wp2_with fail
  refine (uh HIn).mono ?_
  rintro e w1 ⟨rfl,rfl⟩
  go_wp2_with fail
  refine (uh HB1).mono ?_
  rintro e w2 ⟨rfl,rfl⟩
  rw [show opI none = (-1 : Int) from rfl]
  go_wp2_with fail
  refine (uh HB2).mono ?_
  rintro e w3 ⟨rfl,rfl⟩
  go_wp2_with fail
  go_ret
  exact ⟨by rw [uh HE]; rfl,0,rfl⟩
 | some m =>
  obtain ⟨hm,-⟩:=bgn_some h1
  cases h2 : bgn V.ow far with
  | none =>
   have HE:=hide (uh HE0 (Or.inr h2))
   rw [h1] at HB1
   rw [h2] at HB2
   have hm0 : decide ((m : Int) < 0) = false:=by simp
   clear h1 h2
   go_enter Tryz.func66,Tryz.ntmps66
   go_wp2_with fail
   refine (uh HIn).mono ?_
   rintro e w1 ⟨rfl,rfl⟩
   go_wp2_with fail
   refine (uh HB1).mono ?_
   rintro e w2 ⟨rfl,rfl⟩
   rw [show opI (some m) = (m : Int) from rfl]
   go_wp2_with fail
   refine (uh HB2).mono ?_
   rintro e w3 ⟨rfl,rfl⟩
   rw [show opI none = (-1 : Int) from rfl]
   go_wp2_with fail
   go_ret
   exact ⟨by rw [uh HE]; rfl,0,rfl⟩
  | some e0 =>
   obtain ⟨he,-⟩:=bgn_some h2
   have hm' : m < s.ot.length:=by omega
   have he' : e0 < s.ot.length:=by omega
   obtain ⟨O,ocap,hov,hocn,hocm',-,-⟩:=(uh HS).own (by intro e; rw [e] at hi; simp at hi)
   have hocm : ocap ≤ 9223372036854775807:=by unfold maxLen at hocm'; omega
   have hco:=(uh HS).co
   rw [hov] at hco
   obtain ⟨hx1,-⟩:=(uh HS).ocell hov hi
   obtain ⟨hx2,-⟩:=(uh HS).ocell hov hm'
   obtain ⟨hx3,-⟩:=(uh HS).ocell hov he'
   obtain ⟨oi,hoi⟩ : ∃ x,x = s.ot.getD i none:=⟨_,rfl⟩
   obtain ⟨om,hom⟩ : ∃ x,x = s.ot.getD m none:=⟨_,rfl⟩
   obtain ⟨oe,hoe⟩ : ∃ x,x = s.ot.getD e0 none:=⟨_,rfl⟩
   rw [← hoi] at hx1
   rw [← hom] at hx2
   rw [← hoe] at hx3
   have hopeq : ∀ a b : Option Nat,(opI a != opI b) = decide (a ≠ b):=by
    intro a b
    cases a <;> cases b <;> rw [Bool.eq_iff_iff] <;> simp [opI] <;> omega
   have hq1:=hopeq om oi
   have hq2:=hopeq oe oi
   have HE1 : Hid (teB V.ow s i = if om ≠ oi ∨ oe ≠ oi then true else s.bd.any (tePb i)):=hide (by
    unfold teB
    rw [← uh HN,← uh HF,h1,h2]
    dsimp only
    rw [← hoi,← hom,← hoe,uh HN,uh HF]
    rfl)
   rw [h1] at HB1
   rw [h2] at HB2
   have hm0 : decide ((m : Int) < 0) = false:=by simp
   have he0 : decide ((e0 : Int) < 0) = false:=by simp
   have HOV:=hide hov
   clear h1 h2 hov hoi hom hoe hopeq hocm'
   by_cases hb : om ≠ oi ∨ oe ≠ oi
   ·have HE : Hid (teB V.ow s i = true):=hide (by rw [uh HE1,if_pos hb])
    by_cases hb1 : om = oi
    ·have hb2 : oe ≠ oi:=by rcases hb with h | h; exact absurd hb1 h; exact h
     rw [decide_eq_false (by simpa using hb1)] at hq1
     rw [decide_eq_true hb2] at hq2
     clear hb hb1 hb2
     go_enter Tryz.func66,Tryz.ntmps66
     go_wp2_with fail
     refine (uh HIn).mono ?_
     rintro e w1 ⟨rfl,rfl⟩
     go_wp2_with fail
     refine (uh HB1).mono ?_
     rintro e w2 ⟨rfl,rfl⟩
     rw [show opI (some m) = (m : Int) from rfl]
     go_wp2_with fail
     refine (uh HB2).mono ?_
     rintro e w3 ⟨rfl,rfl⟩
     rw [show opI (some e0) = (e0 : Int) from rfl]
     go_wp2_with fail
     go_quiet (fail)
     go_wp2_with fail
     go_ret
     exact ⟨by rw [uh HE]; rfl,_,rfl⟩
    ·rw [decide_eq_true hb1] at hq1
     clear hb hb1
     go_enter Tryz.func66,Tryz.ntmps66
     go_wp2_with fail
     refine (uh HIn).mono ?_
     rintro e w1 ⟨rfl,rfl⟩
     go_wp2_with fail
     refine (uh HB1).mono ?_
     rintro e w2 ⟨rfl,rfl⟩
     rw [show opI (some m) = (m : Int) from rfl]
     go_wp2_with fail
     refine (uh HB2).mono ?_
     rintro e w3 ⟨rfl,rfl⟩
     rw [show opI (some e0) = (e0 : Int) from rfl]
     go_wp2_with fail
     go_quiet (fail)
     go_wp2_with fail
     go_ret
     exact ⟨by rw [uh HE]; rfl,_,rfl⟩
   ·have HE : Hid (teB V.ow s i = s.bd.any (tePb i)):=hide (by rw [uh HE1,if_neg hb])
    have hb1 : om = oi:=Classical.byContradiction (fun h=>hb (Or.inl h))
    have hb2 : oe = oi:=Classical.byContradiction (fun h=>hb (Or.inr h))
    rw [decide_eq_false (by simpa using hb1)] at hq1
    rw [decide_eq_false (by simpa using hb2)] at hq2
    clear hb hb1 hb2
    go_enter Tryz.func66,Tryz.ntmps66
    go_wp2_with fail
    refine (uh HIn).mono ?_
    rintro e w1 ⟨rfl,rfl⟩
    go_wp2_with fail
    refine (uh HB1).mono ?_
    rintro e w2 ⟨rfl,rfl⟩
    rw [show opI (some m) = (m : Int) from rfl]
    go_wp2_with fail
    refine (uh HB2).mono ?_
    rintro e w3 ⟨rfl,rfl⟩
    rw [show opI (some e0) = (e0 : Int) from rfl]
    go_wp2_with fail
    go_quiet (fail)
    go_wp2_with fail
    go_loopw [9] (fun c wr=>∃ k : Nat,k ≤ 24 ∧ c = .int .i64 k ∧ Hid (∀ j,j < k → tePb i (s.b j) = false) ∧ ∃ n,wr = w3.drewN n) (fun c _=>24 - (intOf c).toNat)
    case atStart=>exact ⟨0,Nat.zero_le _,rfl,hide (fun j hj=>by omega),_,rfl⟩
    case round =>
     obtain ⟨k,hk,rfl,hall,n,rfl⟩:=hrel
     by_cases hlt : k < 24
     ·have hd : decide ((k : Int) < 24) = true:=by simp; omega
      have hcb:=(uh HS).cb hlt
      obtain ⟨bk,hbk⟩ : ∃ bk,bk = s.b k:=⟨_,rfl⟩
      rw [← hbk] at hcb
      have e1:=opI_eqs bk near
      have e2:=opI_eqs bk far
      have HT : Hid (tePb i bk = ((bk == some near) || (bk == some far))):=hide (by unfold tePb; rw [uh HN,uh HF])
      have HBK:=hide hbk
      have hlb : k < s.bd.length:=by rw [(uh HS).lb]; exact hlt
      clear hbk
      cases f1 : (bk == some near) with
      | true =>
       rw [f1] at e1
       go_wp2_with fail
       go_ret
       refine ⟨?_,n,rfl⟩
       rw [uh HE]
       have : s.bd.any (tePb i) = true:=List.any_eq_true.2 ⟨s.bd[k],List.getElem_mem hlb,by
        have h3 : s.b k = s.bd[k]:=by unfold SS.b; simp [hlb]
        rw [← h3,← uh HBK,uh HT,f1]; rfl⟩
       rw [this]; rfl
      | false =>
       rw [f1] at e1
       cases f2 : (bk == some far) with
       | true =>
        rw [f2] at e2
        go_wp2_with fail
        go_ret
        refine ⟨?_,n,rfl⟩
        rw [uh HE]
        have : s.bd.any (tePb i) = true:=List.any_eq_true.2 ⟨s.bd[k],List.getElem_mem hlb,by
         have h3 : s.b k = s.bd[k]:=by unfold SS.b; simp [hlb]
         rw [← h3,← uh HBK,uh HT,f1,f2]; rfl⟩
        rw [this]; rfl
       | false =>
        rw [f2] at e2
        go_wp2_with fail
        go_roundw
        case rel =>
         refine ⟨k + 1,by omega,by go_num,hide (fun j hj=>?_),n,rfl⟩
         by_cases e : j = k
         ·subst e; rw [← uh HBK,uh HT,f1,f2]; rfl
         ·exact uh hall j (by omega)
        case measure=>simp [intOf]; omega
     ·have hd : decide ((k : Int) < 24) = false:=by simp; omega
      go_wp2_with fail
      go_ret
      refine ⟨?_,n,rfl⟩
      rw [uh HE]
      have : s.bd.any (tePb i) = false:=by
       rw [List.any_eq_false]
       intro b hb
       obtain ⟨j,hj,rfl⟩:=List.mem_iff_getElem.1 hb
       have h3 : s.b j = s.bd[j]:=by unfold SS.b; simp [hj]
       have h4:=uh hall j (by have:=(uh HS).lb; omega)
       rw [← h3,h4]; simp
      rw [this]; rfl
theorem find_range {p : Nat → Bool} {n k : Nat} (hk : k < n) (hn : ∀ j,j < k → p j = false) (h : p k = true) : (List.range n).find? p = some k:=by
 rw [List.find?_eq_some_iff_getElem]
 refine ⟨h,k,by simpa using hk,by simp,fun j hj=>?_⟩
 simp [hn j hj]
theorem find_range_none {p : Nat → Bool} {n : Nat} (hn : ∀ j,j < n → p j = false) : (List.range n).find? p = none:=by
 rw [List.find?_eq_none]
 intro j hj
 rw [hn j (List.mem_range.1 hj)]; simp
set_option maxRecDepth 100000 in
set_option maxHeartbeats 8000000 in
theorem torn_any {y : Lay} {F T V : CF} {w : World} {s : SS} {l : List Pr} {fav fov lv : Value} (h : Sw w y T V s) (hF : IsF w y.f F fav fov) (hl : w.ownsRow 0 103 3 lv l.length (prCells l)) (hlo : s.ot.length = V.ow.length) (hVl : V.ow.length ≤ 100000) (hlV : l.length ≤ V.ow.length) :
  Calls Tryz.prog 36 #[.pointer (some ⟨y.q,0,none⟩),lv] w fun e w'=>e = .returned (.int .i64 (opI (trn F.ow.length l V.ow s))) ∧ ∃ n,w' = w.drewN n:=by
 obtain ⟨lao,lcap,hlv⟩:=slice_of_own hl
 have HS:=hide h
 have HF:=hide hF
 have HL:=hide hl
 have HLV:=hide hlv
 rw [hlv]
 clear h hF hl hlv
 go_enter Tryz.func36,Tryz.ntmps36
 go_wp2_with fail
 go_loopw [5] (fun i wr=>∃ k : Nat,k ≤ l.length ∧ i = .int .i64 k ∧ Hid (∀ j,j < k → (whB F.ow.length l j && teB V.ow s j) = false) ∧ ∃ n,wr = w.drewN n) (fun i _=>l.length - (intOf i).toNat)
 case atStart=>exact ⟨0,Nat.zero_le _,rfl,hide (fun j hj=>by omega),0,rfl⟩
 case round =>
  obtain ⟨k,hk,rfl,hall,n,rfl⟩:=hrel
  by_cases hlt : k < l.length
  ·have hd : decide ((k : Int) < (l.length : Int)) = true:=by simp; omega
   have hSn:=(uh HS).drewN n
   have HW:=hide (whole_any (i:=k) hSn.sq ((uh HF).drewN n) (ownsRow_of_eq (uh HL) (fun _ _=>by simp)) hlt)
   rw [uh HLV] at HW
   have HTe:=hide (tears_any hSn hlo hVl (i:=k) (by omega))
   clear hSn
   cases hwh : whB F.ow.length l k with
   | false =>
    rw [hwh] at HW
    go_wp2_with fail
    refine (uh HW).mono ?_
    rintro e w1 ⟨rfl,rfl⟩
    go_wp2_with fail
    go_roundw
    case rel =>
     refine ⟨k + 1,by omega,by go_num,hide (fun j hj=>?_),n,rfl⟩
     by_cases e : j = k
     ·subst e; rw [hwh]; rfl
     ·exact uh hall j (by omega)
    case measure=>simp [intOf]; omega
   | true =>
    rw [hwh] at HW
    go_wp2_with fail
    refine (uh HW).mono ?_
    rintro e w1 ⟨rfl,rfl⟩
    go_wp2_with fail
    refine (uh HTe).mono ?_
    rintro e w2 ⟨rfl,n2,rfl⟩
    cases hte : teB V.ow s k with
    | true =>
     have HE : Hid (trn F.ow.length l V.ow s = some k):=hide (find_range hlt (uh hall) (by rw [hwh,hte]; rfl))
     go_wp2_with fail
     go_ret
     exact ⟨by rw [uh HE]; rfl,n + n2,rfl⟩
    | false =>
     go_wp2_with fail
     go_roundw
     case rel =>
      refine ⟨k + 1,by omega,by go_num,hide (fun j hj=>?_),n + n2,rfl⟩
      by_cases e : j = k
      ·subst e; rw [hwh,hte]; rfl
      ·exact uh hall j (by omega)
     case measure=>simp [intOf]; omega
  ·have hd : decide ((k : Int) < (l.length : Int)) = false:=by simp; omega
   have HE : Hid (trn F.ow.length l V.ow s = none):=hide (find_range_none (fun j hj=>uh hall j (by omega)))
   go_wp2_with fail
   go_ret
   exact ⟨by rw [uh HE]; rfl,n,rfl⟩
def nWh (n : Nat) (l : List Pr) : Nat:=((List.range n).filter (fun i=>(l.getD i pr0).k == 4)).length
theorem filter_less {p q : Nat → Bool} {l : List Nat} {i : Nat} (hl : l.Nodup) (hi : i ∈ l) (hp : p i = true) (hq : q i = false) (h : ∀ j ∈ l,j ≠ i → q j = p j) : (l.filter q).length + 1 = (l.filter p).length:=by
 induction l with
 | nil=>cases hi
 | cons a l ih =>
  have hn:=List.nodup_cons.1 hl
  by_cases e : a = i
  ·subst e
   have : l.filter q = l.filter p:=List.filter_congr (fun j hj=>h j (by simp [hj]) (fun e=>hn.1 (e ▸ hj)))
   simp [hp,hq,this]
  ·have hm : i ∈ l:=by
    rcases List.mem_cons.1 hi with h | h
    ·exact absurd h.symm e
    ·exact h
   have h2:=h a (by simp) e
   have h3:=ih hn.2 hm (fun j hj=>h j (by simp [hj]))
   cases hpa : p a with
   | true =>
    rw [List.filter_cons_of_pos hpa,List.filter_cons_of_pos (by rw [h2,hpa]),List.length_cons,List.length_cons]
    omega
   | false =>
    rw [List.filter_cons_of_neg (p:=q) (by rw [h2,hpa]; simp),List.filter_cons_of_neg (p:=p) (by rw [hpa]; simp)]
    exact h3
theorem nWh_cut {n : Nat} {l : List Pr} (hn : n ≤ l.length) {i : Nat} (hi : i < n) (hk : (l.getD i pr0).k = 4) (size : Nat) : nWh n (cutA l i size) + 1 = nWh n l:=by
 unfold nWh
 refine filter_less List.nodup_range (List.mem_range.2 hi) ?_ ?_ (fun j hj hji=>?_)
 ·rw [hk]; rfl
 ·rw [cut_at (by omega) (by omega),if_pos rfl]; rfl
 ·have:=List.mem_range.1 hj
  rw [cut_at (by omega) (by omega),if_neg (fun e=>hji e.symm)]
structure Al (w : World) (q f t : Nat) (an : List (Option Nat)) (F T : CF) (fav fov tav tov : Value) (st : Int) (l : List Pr) (lv : Value) : Prop where
 se : Se w q f t an F T fav fov tav tov st
 rw : w.ownsRow 0 103 3 lv l.length (prCells l)
 lq : ∀ k,lv.ownBlock = some k → k ≠ q
 ln : F.ow.length ≤ l.length
 bd : l.length + 2 * nWh F.ow.length l ≤ 1000
theorem Al.after {w w' : World} {q f t : Nat} {an : List (Option Nat)} {F T : CF} {fav fov tav tov : Value} {st st' : Int} {l : List Pr} {lv : Value} (h : Al w q f t an F T fav fov tav tov st l lv) (hb : ∀ k,k < w.heap.size → k ≠ q → w'.heap[k]? = w.heap[k]?) (hs : Sq w' q f t an st') : Al w' q f t an F T fav fov tav tov st' l lv :=
 ⟨⟨hs,h.se.ff.of_eq (fun k hk=>hb k (h.se.ff.lt k hk) (h.se.nf k hk)),h.se.ft.of_eq (fun k hk=>hb k (h.se.ft.lt k hk) (h.se.nt k hk)),h.se.nf,h.se.nt⟩,
  ownsRow_of_eq h.rw (fun k hk=>hb k (h.rw.lt k hk).2 (h.lq k hk)),h.lq,h.ln,h.bd⟩
theorem alw_step {F T : CF} {an : List (Option Nat)} {m : Nat} {st : Int} {l : List Pr} {r1 r2 : Bool × SS} (h1 : r1 = fit (vw F l) T an st) (h2 : r2 = fit (vw F (cutL F.ow.length l)) T an r1.2.st) :
  alw F T an (m + 1) st l = if r1.1 = true then (true,r1.2.st) else if r2.1 = true then (match trn F.ow.length l (cutL F.ow.length l) r2.2 with
   | none=>(false,r2.2.st)
   | some i=>match alw F T an m r2.2.st (cutA l i 1) with
     | (false,t)=>(false,t)
     | (true,t)=>match alw F T an m t (cutA l i 2) with
      | (false,t)=>(false,t)
      | (true,t)=>alw F T an m t (cutA l i 3)) else (false,r2.2.st):=by
 rw [alw,← h1]
 obtain ⟨b1,s1⟩:=r1
 cases b1 with
 | true=>rfl
 | false =>
  dsimp only at h2 ⊢
  rw [← h2]
  obtain ⟨b2,s2⟩:=r2
  cases b2 <;> rfl
theorem plL_ot {W : SS → Nat → Nat → Nat → Bool × SS} (hW : ∀ s k a c,(W s k a c).2.ot.length = s.ot.length) {k left count : Nat} : ∀ (l : List Pr) (s : SS),(plL W k left count l s).2.ot.length = s.ot.length:=by
 intro l
 induction l with
 | nil=>intro s; rfl
 | cons p r ih =>
  intro s
  have h1:=hW { s with bd:=s.bd.set left (some p.l) } k p.l count
  simp only [plL]
  cases hr : W { s with bd:=s.bd.set left (some p.l) } k p.l count with
  | mk b s' =>
   rw [hr] at h1
   cases b with
   | true=>exact h1
   | false=>exact (ih s').trans h1
theorem plF_ot {V T : CF} {W : SS → Nat → Nat → Nat → Bool × SS} (hW : ∀ s k a c,(W s k a c).2.ot.length = s.ot.length) (s : SS) (count : Nat) : (plF W V T s count).2.ot.length = s.ot.length:=by
 unfold plF
 split
 ·rfl
 ·split
  ·rfl
  ·split
   ·rfl
   ·split
    ·exact hW _ _ _ _
    ·exact plL_ot hW _ _
theorem enF_ot {T : CF} {P : SS → Nat → Bool × SS} (hP : ∀ s c,(P s c).2.ot.length = s.ot.length) (s : SS) (k at_ count : Nat) : (enF P T s k at_ count).2.ot.length = s.ot.length:=by
 unfold enF
 split
 ·rfl
 ·have h1:=hP { s with bd:=s.bd.set (T.ow.getD k pr0).r (some at_),pl:=s.pl.set k true } (count + 1)
  cases hr : P { s with bd:=s.bd.set (T.ow.getD k pr0).r (some at_),pl:=s.pl.set k true } (count + 1) with
  | mk b s' =>
   rw [hr] at h1
   cases b <;> exact h1
theorem wk_ot {V T : CF} : ∀ (m : Nat) (s : SS) (k a c : Nat),(wk V T m s k a c).2.ot.length = s.ot.length:=by
 intro m
 induction m with
 | zero=>intro s k a c; rfl
 | succ m ih =>
  intro s k a c
  by_cases h0 : wrap64 (s.st - 1) < 0
  ·simp only [wk]; rw [if_pos h0]
  ·cases h1 : bgn V.ow a with
   | none=>simp only [wk]; rw [if_neg h0,h1]
   | some i =>
    by_cases h2 : s.ot.getD i none = none
    ·by_cases h3 : (T.ow.getD k pr0).k ≠ 4 ∧ (V.ow.getD i pr0).k = 4
     ·simp only [wk]; rw [if_neg h0,h1]; dsimp only; rw [if_neg (by rw [h2]; simp),if_pos h3]
     ·rw [wk_main h0 h1 h2 h3 rfl]
      have e1:=enF_ot (T:=T) (plF_ot (V:=V) (T:=T) ih) { s with st:=wrap64 (s.st - 1),ot:=s.ot.set i (some k),un:=s.un - 1 } k (V.ow.getD i pr0).r c
      have e2 : ∀ s2,(wkQ V T m s2 k (V.ow.getD i pr0).r c).2.ot.length = s2.ot.length:=by
       intro s2
       unfold wkQ
       split
       ·exact ih _ _ _ _
       ·rfl
      have e3 : (s.ot.set i (some k)).length = s.ot.length:=by simp
      split
      ·exact e1.trans e3
      ·split
       ·exact (e2 _).trans (e1.trans e3)
       ·show (List.set _ _ _).length = _
        rw [List.length_set]
        exact (e2 _).trans (e1.trans e3)
    ·simp only [wk]; rw [if_neg h0,h1]; dsimp only; rw [if_pos h2]
theorem fit_ot (V T : CF) (an : List (Option Nat)) (st : Int) : (fit V T an st).2.ot.length = V.ow.length:=by
 unfold fit
 rw [plF_ot (wk_ot _)]
 simp [beg]
def alz (F T : CF) (an : List (Option Nat)) (m : Nat) (l : List Pr) (i : Nat) : Nat → Int → Bool × Int
 | 0,st=>(true,st)
 | c + 1,st=>match alw F T an m st (cutA l i (3 - c)) with
  | (false,t)=>(false,t)
  | (true,t)=>alz F T an m l i c t
theorem alz_three (F T : CF) (an : List (Option Nat)) (m : Nat) (l : List Pr) (i : Nat) (st : Int) : alz F T an m l i 3 st = (match alw F T an m st (cutA l i 1) with
     | (false,t)=>(false,t)
     | (true,t)=>match alw F T an m t (cutA l i 2) with
      | (false,t)=>(false,t)
      | (true,t)=>alw F T an m t (cutA l i 3)):=by
 simp only [alz]
 cases h1 : alw F T an m st (cutA l i (3 - 2)) with
 | mk b t =>
  cases b with
  | false=>rfl
  | true =>
   dsimp only
   cases h2 : alw F T an m t (cutA l i (3 - 1)) with
   | mk b2 t2 =>
    cases b2 with
    | false=>rfl
    | true =>
     dsimp only
     cases h3 : alw F T an m t2 (cutA l i (3 - 0)) with
     | mk b3 t3 =>
      cases b3 <;> rfl
def AlC (F T : CF) (an : List (Option Nat)) (m : Nat) : Prop :=
 ∀ (w : World) (q f t : Nat) (fav fov tav tov : Value) (st : Int) (l : List Pr) (lv : Value),Al w q f t an F T fav fov tav tov st l lv → nWh F.ow.length l < m →
  Calls Tryz.prog 22 #[.pointer (some ⟨q,0,none⟩),lv] w fun e w'=>e = .returned (.bool (alw F T an m st l).1) ∧ Sq w' q f t an (alw F T an m st l).2 ∧ Stp [q] w [q] w'
theorem Stp.q {q : Nat} {w w' : World} {F : List Nat} (h : Stp [q] w F w') : Stp [q] w [q] w':=⟨h.os,h.tape,h.output,h.size,h.block,fun _ hk=>Or.inl hk⟩
theorem Stp.blk {q : Nat} {w w' : World} {F : List Nat} (h : Stp [q] w F w') : ∀ k,k < w.heap.size → k ≠ q → w'.heap[k]? = w.heap[k]?:=fun k hk hne=>h.block k hk (by simpa using hne)
set_option maxRecDepth 100000 in
set_option maxHeartbeats 8000000 in
theorem always_step {F T : CF} {an : List (Option Nat)} (hR : Rm T) (hA : RmA T) (hTl : T.ow.length ≤ 1000000) {m : Nat} (ih : AlC F T an m) : AlC F T an (m + 1):=by
 intro w q f t fav fov tav tov st l lv h hm
 have hll : l.length ≤ 1000:=by have:=h.bd; omega
 obtain ⟨r1,hr1⟩ : ∃ r1,r1 = fit (vw F l) T an st:=⟨_,rfl⟩
 obtain ⟨r2,hr2⟩ : ∃ r2,r2 = fit (vw F (cutL F.ow.length l)) T an r1.2.st:=⟨_,rfl⟩
 have HE:=hide (alw_step (m:=m) hr1 hr2)
 have HF1:=hide (fits_any h.se h.rw h.lq (by omega) hTl hR hA)
 rw [← hr1] at HF1
 have HAl:=hide h
 have HIH:=hide ih
 have HM:=hide hm
 have HR2:=hide hr2
 obtain ⟨lao,lcap,hlv⟩:=slice_of_own h.rw
 have HLV:=hide hlv
 rw [hlv] at HF1 ⊢
 have hlv':=hlv
 clear h ih hm hr1 hr2 hlv hlv'
 go_enter Tryz.func22,Tryz.ntmps22
 go_wp2_with fail
 refine (uh HF1).mono ?_
 rintro e w1 ⟨rfl,v1,ov1,pv1,hS1,hT1,hfp1⟩
 obtain ⟨b1,s1⟩:=r1
 cases b1 with
 | true =>
  have HS1:=hide hS1.sq
  have HT1:=hide hT1.q
  clear hS1 hT1 hfp1
  go_wp2_with fail
  go_ret
  rw [uh HE]
  exact ⟨rfl,uh HS1,uh HT1⟩
 | false =>
  have hAl1:=(uh HAl).after hT1.blk hS1.sq
  have HT1:=hide hT1.q
  have HAl1:=hide hAl1
  have HCA:=hide (cutAll_any hAl1.se hAl1.rw (by omega))
  rw [uh HLV] at HCA
  clear hS1 hT1 hfp1 hAl1
  dsimp only at HE HR2 HCA HAl1
  go_wp2_with fail
  refine (uh HCA).mono ?_
  rintro e w2 ⟨v2,rfl,hrow2,hown2,hb2⟩
  rw [← uh HLV] at hown2
  have hAl2:=(uh HAl1).after (fun k hk _=>hb2.block k hk) ((uh HAl1).se.sq.below hb2)
  have hlq2 : ∀ k,v2.ownBlock = some k → k ≠ q:=by
   intro k hk
   rcases hown2 k hk with h1 | h1
   ·exact (uh HAl1).lq k h1
   ·obtain ⟨_,_,_,_,_,hob,_,_⟩:=(uh HAl1).se.sq
    have h2 : q < w1.heap.size:=(World.ownsRow.lt hob _ rfl).2
    omega
  have hcl:=cutR_len F.ow.length l l.length
  have hcl2 : (cutL F.ow.length l).length ≤ 3000:=by have : cutL F.ow.length l = cutR F.ow.length l l.length:=rfl; rw [this]; omega
  have HF2:=hide (fits_any hAl2.se hrow2 hlq2 (by omega) hTl hR hA)
  rw [← uh HR2] at HF2
  have HAl2:=hide hAl2
  have HT2:=hide ((uh HT1).trans (Stp.ofBelow (F:=[q]) hb2))
  have HRow2:=hide hrow2
  obtain ⟨cao,ccap,hv2⟩:=slice_of_own hrow2
  subst hv2
  clear hrow2 hown2 hb2 hAl2 hlq2
  go_wp2_with fail
  refine (uh HF2).mono ?_
  rintro e w3 ⟨rfl,v3,ov3,pv3,hS3,hT3,hfp3⟩
  obtain ⟨b2,s2⟩:=r2
  cases b2 with
  | false =>
   have HS3:=hide hS3.sq
   have HT3:=hide ((uh HT2).trans hT3.q)
   clear hS3 hT3 hfp3
   go_wp2_with fail
   go_ret
   rw [uh HE]
   exact ⟨rfl,uh HS3,uh HT3⟩
  | true =>
   dsimp only at hS3 HE
   have hAl3:=(uh HAl2).after hT3.blk hS3.sq
   have hlo3 : s2.ot.length = (cutL F.ow.length l).length:=by
    have h1:=fit_ot (vw F (cutL F.ow.length l)) T an s1.st
    rw [← uh HR2] at h1
    exact h1
   have HTo:=hide (torn_any (F:=F) (l:=l) hS3 hAl3.se.ff hAl3.rw hlo3 (by show (cutL F.ow.length l).length ≤ 100000; omega) (by show l.length ≤ (cutL F.ow.length l).length; have : cutL F.ow.length l = cutR F.ow.length l l.length:=rfl; rw [this]; exact hcl.1))
   rw [uh HLV] at HTo
   rw [show (vw F (cutL F.ow.length l)).ow = cutL F.ow.length l from rfl] at HTo
   have HAl3:=hide hAl3
   have HT3:=hide ((uh HT2).trans hT3.q)
   clear hS3 hT3 hfp3 hAl3 hlo3
   go_wp2_with fail
   refine (uh HTo).mono ?_
   rintro e w4 ⟨rfl,n4,rfl⟩
   cases htr : trn F.ow.length l (cutL F.ow.length l) s2 with
   | none =>
    rw [htr] at HE
    rw [show opI none = (-1 : Int) from rfl]
    have HS4:=hide ((uh HAl3).after (w':=w3.drewN n4) (fun _ _ _=>by simp) ((uh HAl3).se.sq.below ⟨rfl,rfl,rfl,Nat.le_refl _,fun _ _=>rfl⟩))
    clear htr
    go_wp2_with fail
    go_ret
    rw [uh HE]
    exact ⟨rfl,(uh HS4).se.sq,(uh HT3).drewN n4⟩
   | some i =>
    rw [htr] at HE
    obtain ⟨hi,hik⟩:=trn_some htr
    have hil : i < l.length:=Nat.lt_of_lt_of_le hi (uh HAl).ln
    rw [show opI (some i) = (i : Int) from rfl]
    have hi0 : decide ((i : Int) < 0) = false:=by simp
    have HAl4:=hide ((uh HAl3).after (w':=w3.drewN n4) (fun _ _ _=>by simp) ((uh HAl3).se.sq.below ⟨rfl,rfl,rfl,Nat.le_refl _,fun _ _=>rfl⟩))
    have HT4:=hide ((uh HT3).drewN n4)
    have HIK:=hide hik
    clear htr HTo hik
    have HZ : Hid (alw F T an (m + 1) st l = alz F T an m l i 3 s2.st):=hide (by rw [uh HE,alz_three]; rfl)
    go_wp2_with fail
    go_loopw [7] (fun z wr=>∃ (k : Nat) (stz : Int),1 ≤ k ∧ k ≤ 4 ∧ z = .int .i64 k ∧ Hid (Al wr q f t an F T fav fov tav tov stz l lv) ∧ Hid (alz F T an m l i (4 - k) stz = alz F T an m l i 3 s2.st) ∧ Hid (Stp [q] w [q] wr)) (fun z _=>4 - (intOf z).toNat)
    case atStart=>exact ⟨1,s2.st,Nat.le_refl _,by omega,rfl,HAl4,hide rfl,HT4⟩
    case round =>
     obtain ⟨k,stz,hk1,hk4,rfl,hal,hz,hst⟩:=hrel
     by_cases hlt : k < 4
     ·have hd : decide ((k : Int) ≤ 3) = true:=by simp; omega
      have HCut:=hide (cut_any (i:=i) (size:=k) (uh hal).rw hil (by omega) (by omega))
      rw [uh HLV] at HCut
      go_wp2_with fail
      refine (uh HCut).mono ?_
      rintro e w5 ⟨v5,rfl,hrow5,hb5⟩
      have hal5:=(uh hal).after (fun k hk _=>hb5.block k hk) ((uh hal).se.sq.below hb5)
      have hq5 : q < wr.heap.size:=by
       obtain ⟨_,_,_,_,_,hob,_,_⟩:=(uh hal).se.sq
       exact (World.ownsRow.lt hob _ rfl).2
      have hnw:=nWh_cut (uh HAl).ln hi (uh HIK) k
      have halC : Al w5 q f t an F T fav fov tav tov stz (cutA l i k) v5:=⟨hal5.se,rowBase hrow5 (Nat.zero_le _),fun b hb=>by have:=(hrow5.lt b hb).1; omega,Nat.le_trans (uh HAl).ln cut_len,by
       have h1:=cutA_up l i k
       have h2:=(uh HAl).bd
       omega⟩
      have HAw:=hide (uh HIH w5 q f t fav fov tav tov stz (cutA l i k) v5 halC (by have:=uh HM; omega))
      have hstep : alz F T an m l i (4 - k) stz = (match alw F T an m stz (cutA l i k) with
       | (false,t)=>(false,t)
       | (true,t)=>alz F T an m l i (4 - (k + 1)) t):=by
       rw [show 4 - k = (4 - (k + 1)) + 1 by omega]
       simp only [alz]
       rw [show 3 - (4 - (k + 1)) = k by omega]
      have HStep:=hide hstep
      have HAl5:=hide hal5
      have HT5:=hide ((uh hst).trans (Stp.ofBelow (F:=[q]) hb5))
      obtain ⟨v5a,v5c,hv5⟩:=slice_of_own hrow5
      subst hv5
      clear hrow5 hb5 hal5 hnw halC hstep
      go_wp2_with fail
      refine (uh HAw).mono ?_
      rintro e w6 ⟨rfl,hS6,hT6⟩
      have HAl6:=hide ((uh HAl5).after hT6.blk hS6)
      have HT6:=hide ((uh HT5).trans hT6)
      have HS6:=hide hS6
      clear hS6 hT6
      obtain ⟨r6,hr6⟩ : ∃ r6,r6 = alw F T an m stz (cutA l i k):=⟨_,rfl⟩
      rw [← hr6] at HStep HAl6 HS6 ⊢
      clear hr6
      obtain ⟨b6,t6⟩:=r6
      cases b6 with
      | true =>
       go_wp2_with fail
       go_roundw
       case rel=>exact ⟨k + 1,t6,by omega,by omega,by go_num,HAl6,hide ((uh HStep).symm.trans (uh hz)),HT6⟩
       case measure=>simp [intOf]; omega
      | false =>
       have HFin : Hid (alw F T an (m + 1) st l = (false,t6)):=hide (by rw [uh HZ,← uh hz,uh HStep])
       go_wp2_with fail
       go_ret
       rw [uh HFin]
       exact ⟨rfl,uh HS6,uh HT6⟩
     ·have hd : decide ((k : Int) ≤ 3) = false:=by simp; omega
      have hk : k = 4:=by omega
      subst hk
      have HFin : Hid (alw F T an (m + 1) st l = (true,stz)):=hide (by rw [uh HZ,← uh hz]; rfl)
      go_wp2_with fail
      go_ret
      rw [uh HFin]
      exact ⟨rfl,(uh hal).se.sq,uh hst⟩
theorem always_all {F T : CF} {an : List (Option Nat)} (hR : Rm T) (hA : RmA T) (hTl : T.ow.length ≤ 1000000) : ∀ m,AlC F T an m:=by
 intro m
 induction m with
 | zero=>intro w q f t fav fov tav tov st l lv _ h; omega
 | succ m ih=>exact always_step hR hA hTl ih
def drp (F T : CF) : List Nat → List (Option Nat) → Option (List (Option Nat))
 | [],an=>some an
 | i :: r,an=>if an.getD (T.cl.getD i 0) none ≠ none ∧ an.getD (T.cl.getD i 0) none ≠ some (F.cl.getD i 0) then none else drp F T r (an.set (T.cl.getD i 0) (some (F.cl.getD i 0)))
def fol (al bl : List Atm) : Bool × Nat :=
 if falB (cfOf al) then (false,7)
 else match drp (cfOf al) (cfOf bl) [0,1,2,3,4] (List.replicate 24 none) with
  | none=>(false,0)
  | some an=>((alw (cfOf al) (cfOf bl) an ((cfOf al).ow.length + 1) 262144 (cfOf al).ow).1,0)
def tm (a : Atm) : Pr:=⟨a.k,tNo a.lk a.li,tNo a.rk a.ri⟩
def TmOK (al : List Atm) : Prop:=∀ a ∈ al,(tm a).l < 13 ∧ (tm a).r < 13
theorem getD_map {f : Nat → Nat} {c : List Nat} {i : Nat} (h : i < c.length) : (c.map f).getD i 0 = f (c.getD i 0):=by simp [h]
theorem mrg_inv : ∀ (al : List Atm) (c : List Nat),TmOK al → c.length = 13 → (∀ i,i < 13 → c.getD i 0 < 13) → (al.foldl mrg1 c).length = 13 ∧ ∀ i,i < 13 → (al.foldl mrg1 c).getD i 0 < 13:=by
 intro al
 induction al with
 | nil=>intro c _ h1 h2; exact ⟨h1,h2⟩
 | cons a al ih =>
  intro c ht h1 h2
  rw [List.foldl_cons]
  have hta:=ht a (by simp)
  have ht' : TmOK al:=fun b hb=>ht b (by simp [hb])
  unfold mrg1
  split
  ·refine ih _ ht' (by simpa using h1) (fun i hi=>?_)
   rw [getD_map (by omega)]
   split
   ·exact h2 _ hta.1
   ·exact h2 i hi
  ·exact ih _ ht' h1 h2
theorem range13 (i : Nat) (h : i < 13) : (List.range 13).getD i 0 = i:=by simp [h]
theorem mrg_len {al : List Atm} (ht : TmOK al) : (mrg al).length = 13:=(mrg_inv al _ ht (by simp) (fun i hi=>by rw [range13 i hi]; exact hi)).1
theorem mrg_lt {al : List Atm} (ht : TmOK al) {i : Nat} (hi : i < 13) : (mrg al).getD i 0 < 13:=(mrg_inv al _ ht (by simp) (fun i hi=>by rw [range13 i hi]; exact hi)).2 i hi
theorem cl_at {al : List Atm} {i : Nat} (hi : i < 5) : (cfOf al).cl.getD i 0 = (mrg al).getD i 0:=by
 simp only [cfOf,List.getD_eq_getElem?_getD]
 rw [List.getElem?_take_of_lt hi]
set_option maxRecDepth 100000 in
set_option maxHeartbeats 2000000 in
theorem number_any (k i : Nat) (hk : k ≤ 2) (hi : i ≤ 1000) (w : World) : Calls Tryz.prog 33 #[.agg #[.int .i64 k,.int .i64 i]] w fun e w'=>e = .returned (.int .i64 (tNo k i : Nat)) ∧ Below w.heap.size w w':=by
 have hk3 : k = 0 ∨ k = 1 ∨ k = 2:=by omega
 have hb:=(Below.refl w.heap.size w).alloc (Nat.le_refl _) (.cells #[Value.int .i64 k,.int .i64 i] 98)
 have HB:=hide hb
 clear hb
 rcases hk3 with rfl | rfl | rfl
 ·go_enter Tryz.func33,Tryz.ntmps33
  go_wp2_with fail
  go_ret
  exact ⟨rfl,uh HB⟩
 ·go_enter Tryz.func33,Tryz.ntmps33
  go_wp2_with fail
  go_ret
  exact ⟨ret_int (by unfold tNo; rw [if_pos rfl]; omega),uh HB⟩
 ·go_enter Tryz.func33,Tryz.ntmps33
  go_wp2_with fail
  go_ret
  exact ⟨ret_int (by unfold tNo; rw [if_neg (by decide),if_pos rfl]; omega),uh HB⟩
theorem at_get {l : List Atm} {k : Nat} (h : k < l.length) : (atCells l)[k * 5]? = some (.int .i64 l[k].k) ∧ (atCells l)[k * 5 + 1]? = some (.int .i64 l[k].lk) ∧ (atCells l)[k * 5 + 2]? = some (.int .i64 l[k].li) ∧ (atCells l)[k * 5 + 3]? = some (.int .i64 l[k].rk) ∧ (atCells l)[k * 5 + 4]? = some (.int .i64 l[k].ri):=by
 induction l generalizing k with
 | nil=>simp at h
 | cons x l ih =>
  have hx : atCells (x :: l) = [Value.int .i64 x.k,.int .i64 x.lk,.int .i64 x.li,.int .i64 x.rk,.int .i64 x.ri] ++ atCells l:=rfl
  cases k with
  | zero=>rw [hx]; simp
  | succ k =>
   have:=ih (k:=k) (by simpa using h)
   rw [hx,show (k + 1) * 5 = k * 5 + 5 by omega]
   simp only [List.getElem_cons_succ]
   refine ⟨?_,?_,?_,?_,?_⟩
   ·rw [List.getElem?_append_right (by simp)]; simpa using this.1
   ·rw [List.getElem?_append_right (by simp)]; simpa [show k * 5 + 5 + 1 - 5 = k * 5 + 1 by omega] using this.2.1
   ·rw [List.getElem?_append_right (by simp)]; simpa [show k * 5 + 5 + 2 - 5 = k * 5 + 2 by omega] using this.2.2.1
   ·rw [List.getElem?_append_right (by simp)]; simpa [show k * 5 + 5 + 3 - 5 = k * 5 + 3 by omega] using this.2.2.2.1
   ·rw [List.getElem?_append_right (by simp)]; simpa [show k * 5 + 5 + 4 - 5 = k * 5 + 4 by omega] using this.2.2.2.2
theorem at_of_own {w : World} {B : Nat} {v : Value} {l : List Atm} (h : w.ownsRow B 100 5 v l.length (atCells l)) :
  ∃ ao cap,v = .slice ao l.length cap ∧ cap ≤ 9223372036854775807 ∧ l.length ≤ cap ∧ (l ≠ [] → ∃ g,ao = some ⟨g,0,none⟩ ∧ g < w.heap.size ∧ ∀ j,(h : j < l.length) → w.cell? ⟨g,j * 5,none⟩ = some (.int .i64 l[j].k) ∧ w.cell? ⟨g,j * 5 + 1,none⟩ = some (.int .i64 l[j].lk) ∧ w.cell? ⟨g,j * 5 + 2,none⟩ = some (.int .i64 l[j].li) ∧ w.cell? ⟨g,j * 5 + 3,none⟩ = some (.int .i64 l[j].rk) ∧ w.cell? ⟨g,j * 5 + 4,none⟩ = some (.int .i64 l[j].ri)):=by
 have hw:=h
 rcases h.2 with ⟨rfl,h0⟩ | ⟨g,cap,cur,rfl,_,_,hn,hm,_,_⟩
 ·have : l = []:=List.eq_nil_of_length_eq_zero h0
  subst this
  exact ⟨_,_,rfl,by omega,by simp,fun h=>absurd rfl h⟩
 ·refine ⟨_,_,rfl,by unfold maxLen at hm; omega,hn,fun _=>⟨g,rfl,(hw.lt g rfl).2,fun j hj=>?_⟩⟩
  have hg:=at_get hj
  exact ⟨(hw.cellAt _ (by omega)).trans hg.1,(hw.cellAt _ (by omega)).trans hg.2.1,(hw.cellAt _ (by omega)).trans hg.2.2.1,(hw.cellAt _ (by omega)).trans hg.2.2.2.1,(hw.cellAt _ (by omega)).trans hg.2.2.2.2⟩
def naC (l : List Nat) : List Value:=l.map (fun n : Nat=>Value.int .i64 (n : Int))
theorem naC_len (l : List Nat) : (naC l).length = l.length:=by simp [naC]
theorem naC_get {l : List Nat} {j : Nat} (h : j < l.length) : (naC l)[j]? = some (.int .i64 ((l.getD j 0 : Nat) : Int)):=by simp [naC,h]
theorem naC_set (l : List Nat) (j n : Nat) : (naC l).set j (.int .i64 (n : Int)) = naC (l.set j n):=by simp [naC,List.map_set]
def rgK (k : Nat) : List Nat:=List.range k ++ List.replicate (13 - k) 0
theorem rgK_set {k : Nat} (h : k < 13) : (rgK k).set k k = rgK (k + 1):=by
 unfold rgK
 rw [List.set_append_right _ _ (by simp),List.length_range,Nat.sub_self,show 13 - k = (13 - (k + 1)) + 1 by omega,List.replicate_succ,List.set_cons_zero,List.range_succ,List.append_assoc]
 rfl
def mpK (f : Nat → Nat) (c : List Nat) (j : Nat) : List Nat:=(c.map f).take j ++ c.drop j
theorem mpK_len (f : Nat → Nat) (c : List Nat) (j : Nat) : (mpK f c j).length = c.length:=by
 unfold mpK; rw [List.length_append,List.length_take,List.length_map,List.length_drop]; omega
theorem mpK_at (f : Nat → Nat) {c : List Nat} {j : Nat} (h : j < c.length) : (mpK f c j).getD j 0 = c.getD j 0:=by
 unfold mpK
 have e : ((c.map f).take j).length = j:=by rw [List.length_take,List.length_map]; omega
 simp only [List.getD_eq_getElem?_getD]
 rw [List.getElem?_append_right (by omega),e,Nat.sub_self,List.getElem?_drop,Nat.add_zero]
theorem mpK_set (f : Nat → Nat) {c : List Nat} {j : Nat} (h : j < c.length) : (mpK f c j).set j (f (c.getD j 0)) = mpK f c (j + 1):=by
 unfold mpK
 have e : ((c.map f).take j).length = j:=by rw [List.length_take,List.length_map]; omega
 have hm : j < (c.map f).length:=by simpa using h
 rw [List.set_append_right _ _ (by omega),e,Nat.sub_self,List.drop_eq_getElem_cons h,List.set_cons_zero,List.take_succ_eq_append_getElem hm,List.append_assoc]
 simp [h]
theorem mpK_keep (f : Nat → Nat) {c : List Nat} {j : Nat} (h : j < c.length) (hf : f (c.getD j 0) = c.getD j 0) : mpK f c (j + 1) = mpK f c j:=by
 rw [← mpK_set f h,hf,← mpK_at f h,set_getD]
theorem Tryz.info13 : (Tryz.prog.info? 95).map (·.size) = some 13:=by kernel_rfl
set_option maxRecDepth 100000 in
set_option maxHeartbeats 8000000 in
theorem merge_any {w : World} {B : Nat} {av : Value} {al : List Atm} (h : w.ownsRow B 100 5 av al.length (atCells al)) (ht : TmOK al) (hal : al.length ≤ 1000) (hb : ∀ a ∈ al,a.lk ≤ 2 ∧ a.rk ≤ 2 ∧ a.li ≤ 100 ∧ a.ri ≤ 100) :
  Calls Tryz.prog 32 #[av] w fun e w'=>e = .returned (.agg (naC (mrg al)).toArray) ∧ Below w.heap.size w w':=by
 obtain ⟨ao,cap,hav,hcm,hcn,hcell⟩:=at_of_own h
 have HC:=hide hcell
 rw [hav]
 clear h hcell hav
 go_enter Tryz.func32,Tryz.ntmps32
 go_wp2_with fail
 obtain ⟨w0,hw0⟩ : ∃ w0,w0 = ((w.alloc (Obj.cells #[Value.int IntKind.i64 0,Value.int IntKind.i64 0,Value.int IntKind.i64 0,Value.int IntKind.i64 0,Value.int IntKind.i64 0,Value.int IntKind.i64 0,Value.int IntKind.i64 0,Value.int IntKind.i64 0,Value.int IntKind.i64 0,Value.int IntKind.i64 0,Value.int IntKind.i64 0,Value.int IntKind.i64 0,Value.int IntKind.i64 0] 95)).alloc (Obj.cells #[Value.int IntKind.i64 0,Value.int IntKind.i64 0,Value.int IntKind.i64 0,Value.int IntKind.i64 0,Value.int IntKind.i64 0,Value.int IntKind.i64 0,Value.int IntKind.i64 0,Value.int IntKind.i64 0,Value.int IntKind.i64 0,Value.int IntKind.i64 0,Value.int IntKind.i64 0,Value.int IntKind.i64 0,Value.int IntKind.i64 0] 95)):=⟨_,rfl⟩
 rw [← hw0]
 have hR0 : Ob w0 95 13 w.heap.size (naC (List.replicate 13 0)):=by
  rw [hw0]
  exact Ob.alloc (World.ownsRow_lit (base:=0) (e:=95) (size:=13) w #[Value.int IntKind.i64 0,Value.int IntKind.i64 0,Value.int IntKind.i64 0,Value.int IntKind.i64 0,Value.int IntKind.i64 0,Value.int IntKind.i64 0,Value.int IntKind.i64 0,Value.int IntKind.i64 0,Value.int IntKind.i64 0,Value.int IntKind.i64 0,Value.int IntKind.i64 0,Value.int IntKind.i64 0,Value.int IntKind.i64 0] 1 (Nat.zero_le _) (by simp [maxLen]) rfl) _
 have hC0 : Ob w0 95 13 (w.heap.size + 1) (naC (rgK 0)):=by
  have h1:=World.ownsRow_lit (base:=0) (e:=95) (size:=13) (w.alloc (Obj.cells #[Value.int IntKind.i64 0,Value.int IntKind.i64 0,Value.int IntKind.i64 0,Value.int IntKind.i64 0,Value.int IntKind.i64 0,Value.int IntKind.i64 0,Value.int IntKind.i64 0,Value.int IntKind.i64 0,Value.int IntKind.i64 0,Value.int IntKind.i64 0,Value.int IntKind.i64 0,Value.int IntKind.i64 0,Value.int IntKind.i64 0] 95)) #[Value.int IntKind.i64 0,Value.int IntKind.i64 0,Value.int IntKind.i64 0,Value.int IntKind.i64 0,Value.int IntKind.i64 0,Value.int IntKind.i64 0,Value.int IntKind.i64 0,Value.int IntKind.i64 0,Value.int IntKind.i64 0,Value.int IntKind.i64 0,Value.int IntKind.i64 0,Value.int IntKind.i64 0,Value.int IntKind.i64 0] 1 (Nat.zero_le _) (by simp [maxLen]) rfl
  have e : (w.alloc (Obj.cells #[Value.int IntKind.i64 0,Value.int IntKind.i64 0,Value.int IntKind.i64 0,Value.int IntKind.i64 0,Value.int IntKind.i64 0,Value.int IntKind.i64 0,Value.int IntKind.i64 0,Value.int IntKind.i64 0,Value.int IntKind.i64 0,Value.int IntKind.i64 0,Value.int IntKind.i64 0,Value.int IntKind.i64 0,Value.int IntKind.i64 0] 95)).heap.size = w.heap.size + 1:=by simp
  rw [e] at h1
  rw [hw0]
  exact h1
 have hB0 : Below w.heap.size w w0:=by rw [hw0]; exact ((Below.refl _ _).alloc (Nat.le_refl _) _).alloc (by simp) _
 obtain ⟨R,hR⟩ : ∃ R,R = w.heap.size:=⟨_,rfl⟩
 obtain ⟨C,hC⟩ : ∃ C,C = w.heap.size + 1:=⟨_,rfl⟩
 rw [← hR] at hR0
 rw [← hC] at hC0 ⊢
 rw [← hR]
 have hRC : R ≠ C:=by omega
 have hRB : w.heap.size ≤ R:=by omega
 have hCB : w.heap.size ≤ C:=by omega
 clear hw0 hR hC
 go_loopw [4] (fun i wr=>∃ k : Nat,k ≤ 13 ∧ i = .int .i64 k ∧ Hid (Ob wr 95 13 C (naC (rgK k))) ∧ Hid (Ob wr 95 13 R (naC (List.replicate 13 0))) ∧ Hid (Below w.heap.size w wr)) (fun i _=>13 - (intOf i).toNat)
 case atStart=>exact ⟨0,Nat.zero_le _,rfl,hide hC0,hide hR0,hide hB0⟩
 case round =>
  obtain ⟨k,hk,rfl,hC1,hR1,hB1⟩:=hrel
  by_cases hlt : k < 13
  ·have hd : decide ((k : Int) < 13) = true:=by simp; omega
   obtain ⟨⟨u,hu⟩,hz⟩:=(uh hC1).some (j:=k) hlt
   have hC2:=(uh hC1).set k (.int .i64 (k : Int))
   rw [naC_set,rgK_set hlt] at hC2
   have HC2:=hide hC2
   have HR2:=hide ((uh hR1).of_eq (w':=wr.setCell ⟨C,k,none⟩ (.int .i64 (k : Int))) (Below.heap_setCell _ _ _ _ hRC))
   have HB2:=hide ((uh hB1).setCell (p:=⟨C,k,none⟩) hCB (.int .i64 (k : Int)))
   clear hC2
   go_wp2_with fail
   go_roundw
   case rel=>exact ⟨k + 1,by omega,by go_num,HC2,HR2,HB2⟩
   case measure=>simp [intOf]; omega
  ·have hd : decide ((k : Int) < 13) = false:=by simp; omega
   have hk13 : k = 13:=by omega
   subst hk13
   clear hC0 hR0 hB0
   go_wp2_with fail
   go_loopg [19] al.length (fun gn i wr=>∃ k : Nat,k + gn = al.length ∧ i = .int .i64 k ∧ Hid (Ob wr 95 13 C (naC ((al.take k).foldl mrg1 (List.range 13)))) ∧ Hid (Ob wr 95 13 R (naC (List.replicate 13 0))) ∧ Hid (Below w.heap.size w wr))
   case atStart=>exact ⟨0,by omega,rfl,hC1,hR1,hB1⟩
   case round =>
    obtain ⟨k,hk,rfl,hC1,hR1,hB1⟩:=hrel
    by_cases hlt : k < al.length
    ·have hd2 : decide ((k : Int) < (al.length : Int)) = true:=by simp; omega
     obtain ⟨g,hao,hgl,hcell⟩:=uh HC (by intro h; rw [h] at hlt; simp at hlt)
     subst hao
     obtain ⟨x0,x1,x2,x3,x4⟩:=hcell k hlt
     obtain ⟨a,ha⟩ : ∃ a,a = al[k]:=⟨_,rfl⟩
     have hta:=ht _ (List.getElem_mem hlt)
     have hba:=hb _ (List.getElem_mem hlt)
     rw [← ha] at x0 x1 x2 x3 x4 hta hba
     have c0:=((uh hB1).cell (World.block_lt_of_cell? w _ x0)).trans x0
     have c1:=((uh hB1).cell (World.block_lt_of_cell? w _ x1)).trans x1
     have c2:=((uh hB1).cell (World.block_lt_of_cell? w _ x2)).trans x2
     have c3:=((uh hB1).cell (World.block_lt_of_cell? w _ x3)).trans x3
     have c4:=((uh hB1).cell (World.block_lt_of_cell? w _ x4)).trans x4
     clear hcell x0 x1 x2 x3 x4
     obtain ⟨c,hc⟩ : ∃ c,c = (al.take k).foldl mrg1 (List.range 13):=⟨_,rfl⟩
     rw [← hc] at hC1
     have hcl : c.length = 13:=by
      rw [hc]
      exact (mrg_inv (al.take k) _ (fun b hb=>ht b (List.mem_of_mem_take hb)) (by simp) (fun i hi=>by rw [range13 i hi]; exact hi)).1
     have hstep : (al.take (k + 1)).foldl mrg1 (List.range 13) = mrg1 c a:=by
      rw [List.take_succ_eq_append_getElem hlt,List.foldl_append,← hc,ha]; rfl
     have HST:=hide hstep
     have HCc:=hide hc
     have HA:=hide ha
     -- behind the copy of the atom
     have hB2:=(uh hB1).alloc (uh hB1).size (.cells #[Value.int .i64 a.k,.int .i64 a.lk,.int .i64 a.li,.int .i64 a.rk,.int .i64 a.ri] 100)
     have hC2:=(uh hC1).alloc (.cells #[Value.int .i64 a.k,.int .i64 a.lk,.int .i64 a.li,.int .i64 a.rk,.int .i64 a.ri] 100)
     have hR2:=(uh hR1).alloc (.cells #[Value.int .i64 a.k,.int .i64 a.lk,.int .i64 a.li,.int .i64 a.rk,.int .i64 a.ri] 100)
     have hnew:=fun j=>cell_of_row (wr.alloc (.cells #[Value.int .i64 a.k,.int .i64 a.lk,.int .i64 a.li,.int .i64 a.rk,.int .i64 a.ri] 100)) wr.heap.size j #[Value.int .i64 a.k,.int .i64 a.lk,.int .i64 a.li,.int .i64 a.rk,.int .i64 a.ri] 100 (0,0) (heap_alloc_new wr _)
     have n0:=hnew 0
     have n1:=hnew 1
     have n2:=hnew 2
     have n3:=hnew 3
     have n4:=hnew 4
     simp only [List.getElem?_toArray,List.getElem?_cons_zero,List.getElem?_cons_succ] at n0 n1 n2 n3 n4
     have HB2:=hide hB2
     have HC2:=hide hC2
     have HR2:=hide hR2
     clear hB2 hC2 hR2 hnew hstep hc ha hC1 hR1 hB1
     by_cases hk1 : a.k = 1
     ·have hne : ((a.k : Int) != 1) = false:=by simp; omega
      have HN1:=hide (number_any a.lk a.li hba.1 (by omega) (wr.alloc (.cells #[Value.int .i64 a.k,.int .i64 a.lk,.int .i64 a.li,.int .i64 a.rk,.int .i64 a.ri] 100)))
      have HK1:=hide hk1
      clear hk1
      go_wp2_with fail
      refine (uh HN1).mono ?_
      rintro e w1 ⟨rfl,hb1⟩
      have hlt1 : tNo a.lk a.li < 13:=hta.1
      have hlt2 : tNo a.rk a.ri < 13:=hta.2
      obtain ⟨t1,ht1⟩ : ∃ t1,t1 = tNo a.lk a.li:=⟨_,rfl⟩
      obtain ⟨t2,ht2⟩ : ∃ t2,t2 = tNo a.rk a.ri:=⟨_,rfl⟩
      rw [← ht1] at hlt1 ⊢
      rw [← ht2] at hlt2
      have hC3:=(uh HC2).of_eq (hb1.block C (World.ownsRow.lt (uh HC2) _ rfl).2)
      have hR3:=(uh HR2).of_eq (hb1.block R (World.ownsRow.lt (uh HR2) _ rfl).2)
      have hB3 : Below w.heap.size w w1:=(uh HB2).trans (hb1.mono (uh HB2).size)
      have d1:=(World.ownsRow.cellAt hC3 t1 (by omega)).trans (naC_get (l:=c) (by omega))
      have m3:=(hb1.cell (World.block_lt_of_cell? _ _ n3)).trans n3
      have m4:=(hb1.cell (World.block_lt_of_cell? _ _ n4)).trans n4
      obtain ⟨kept,hkept⟩ : ∃ kept,kept = c.getD t1 0:=⟨_,rfl⟩
      rw [← hkept] at d1
      have HN2:=hide (number_any a.rk a.ri hba.2.1 (by omega) w1)
      have HC3:=hide hC3
      have HR3:=hide hR3
      have HB3:=hide hB3
      have HT1:=hide ht1
      have HT2:=hide ht2
      have HKe:=hide hkept
      clear hC3 hR3 hB3 hb1 ht1 hkept n0 n1 n2 n3 n4
      go_wp2_with fail
      refine (uh HN2).mono ?_
      rintro e w2 ⟨rfl,hb2⟩
      rw [← ht2]
      have hC4:=(uh HC3).of_eq (hb2.block C (World.ownsRow.lt (uh HC3) _ rfl).2)
      have hR4:=(uh HR3).of_eq (hb2.block R (World.ownsRow.lt (uh HR3) _ rfl).2)
      have hB4 : Below w.heap.size w w2:=(uh HB3).trans (hb2.mono (uh HB3).size)
      have d2:=(World.ownsRow.cellAt hC4 t2 (by omega)).trans (naC_get (l:=c) (by omega))
      obtain ⟨gone,hgone⟩ : ∃ gone,gone = c.getD t2 0:=⟨_,rfl⟩
      rw [← hgone] at d2
      have HC4:=hide hC4
      have HR4:=hide hR4
      have HB4:=hide hB4
      have HGo:=hide hgone
      have HMr : Hid (mrg1 c a = c.map (fun x=>if x = gone then kept else x)):=hide (by
       unfold mrg1
       rw [if_pos (uh HK1),← uh HT1,← ht2,← hgone,← uh HKe])
      clear hC4 hR4 hB4 hb2 hgone ht2 d1
      go_wp2_with fail
      go_loopw [9] (fun i wr=>∃ j : Nat,j ≤ 13 ∧ i = .int .i64 j ∧ Hid (Ob wr 95 13 C (naC (mpK (fun x=>if x = gone then kept else x) c j))) ∧ Hid (Ob wr 95 13 R (naC (List.replicate 13 0))) ∧ Hid (Below w.heap.size w wr)) (fun i _=>13 - (intOf i).toNat)
      case atStart=>exact ⟨0,Nat.zero_le _,rfl,HC4,HR4,HB4⟩
      case round =>
       obtain ⟨j,hj,rfl,hC5,hR5,hB5⟩:=hrel
       by_cases hjl : j < 13
       ·have hd3 : decide ((j : Int) < 13) = true:=by simp; omega
        have hjc : j < c.length:=by omega
        have hcj:=(World.ownsRow.cellAt (uh hC5) j (by omega)).trans (naC_get (by rw [mpK_len]; omega))
        rw [mpK_at _ hjc] at hcj
        have hzj:=World.ownsRow.frozenAt (uh hC5) j
        obtain ⟨x,hx⟩ : ∃ x,x = c.getD j 0:=⟨_,rfl⟩
        rw [← hx] at hcj
        have HNx:=hide (mpK_set (fun x=>if x = gone then kept else x) hjc)
        have HKp:=hide (mpK_keep (fun x=>if x = gone then kept else x) hjc)
        rw [← hx] at HNx HKp
        by_cases hxg : x = gone
        ·have he : ((x : Int) == (gone : Int)) = true:=by rw [nat_beq]; simpa using hxg
         have hC6:=(uh hC5).set j (.int .i64 (kept : Int))
         have hnx:=uh HNx
         rw [if_pos hxg] at hnx
         rw [naC_set,hnx] at hC6
         clear hnx
         have HC6:=hide hC6
         have HR6:=hide ((uh hR5).of_eq (w':=wr.setCell ⟨C,j,none⟩ (.int .i64 (kept : Int))) (Below.heap_setCell _ _ _ _ hRC))
         have HB6:=hide ((uh hB5).setCell (p:=⟨C,j,none⟩) hCB (.int .i64 (kept : Int)))
         clear hC6 hxg hx
         go_wp2_with fail
         go_roundw
         case rel=>exact ⟨j + 1,by omega,by go_num,HC6,HR6,HB6⟩
         case measure=>simp [intOf]; omega
        ·have he : ((x : Int) == (gone : Int)) = false:=by rw [nat_beq]; simpa using hxg
         have hself:=uh HKp (if_neg hxg)
         have HC6:=hC5
         rw [← hself] at HC6
         clear hself hxg hx
         go_wp2_with fail
         go_roundw
         case rel=>exact ⟨j + 1,by omega,by go_num,HC6,hR5,hB5⟩
         case measure=>simp [intOf]; omega
       ·have hd3 : decide ((j : Int) < 13) = false:=by simp; omega
        have hj13 : j = 13:=by omega
        subst hj13
        have hfin : mpK (fun x=>if x = gone then kept else x) c 13 = mrg1 c a:=by
         unfold mpK
         rw [uh HMr,List.drop_of_length_le (by omega),List.append_nil,List.take_of_length_le (by simp; omega)]
        rw [hfin] at hC5
        clear hfin
        go_wp2_with fail
        go_roundg (gk - 1)
        case rel=>exact ⟨k + 1,by omega,by go_num,hide (by rw [uh HST]; exact uh hC5),hR5,hB5⟩
        case measure=>omega
     ·have hne : ((a.k : Int) != 1) = true:=by rw [bne_iff_ne]; omega
      have HMr : Hid (mrg1 c a = c):=hide (by unfold mrg1; rw [if_neg hk1])
      clear hk1
      go_wp2_with fail
      go_roundg (gk - 1)
      case rel=>exact ⟨k + 1,by omega,by go_num,hide (by rw [uh HST,uh HMr]; exact uh HC2),HR2,HB2⟩
      case measure=>omega
    ·have hd2 : decide ((k : Int) < (al.length : Int)) = false:=by simp; omega
     have hkl : k = al.length:=by omega
     subst hkl
     rw [List.take_length] at hC1
     have hml : (mrg al).length = 13:=mrg_len ht
     have hC1' : Ob wr 95 13 C (naC (mrg al)):=uh hC1
     have hRg : wr.rangeAt C 0 (naC (mrg al)):=by
      intro j v hj
      have hjl:=(List.getElem?_eq_some_iff.1 hj).1
      rw [naC_len,hml] at hjl
      rw [Nat.zero_add,World.ownsRow.cellAt hC1' j (by omega)]; exact hj
     have hTh : wr.there R 0 (naC (mrg al)).toArray.size:=by
      intro j hj
      rw [List.size_toArray,naC_len,hml] at hj
      obtain ⟨⟨u,hu⟩,hz⟩:=(uh hR1).some (j:=j) hj
      rw [Nat.zero_add]
      exact ⟨by rw [hu]; rfl,hz⟩
     have hI1 : (Tryz.prog.info? 95).map (·.size) = some (naC (mrg al)).length:=by rw [naC_len,hml]; exact Tryz.info13
     have hI2 : (Tryz.prog.info? 95).map (·.size) = some (naC (mrg al)).toArray.size:=by rw [List.size_toArray,naC_len,hml]; exact Tryz.info13
     have hO : (naC (mrg al)).toArray.all (·.oneCell') = true:=all_oneCell_toArray (by
      intro v hv
      obtain ⟨o,_,rfl⟩:=List.mem_map.1 hv
      rfl)
     have hOb5:=Ob.setCells (naC (mrg al)) 0 (uh hR1)
     have hsl:=setL_mid (naC (mrg al)) [] (naC (List.replicate 13 0)) [] (by rw [naC_len,naC_len,hml]; rfl)
     simp only [List.nil_append,List.append_nil,List.length_nil] at hsl
     rw [hsl] at hOb5
     have hB5 : ∀ (vs : List Value) (o : Nat) (x : World),Below w.heap.size w x → Below w.heap.size w (x.setCells R o vs):=by
      intro vs
      induction vs with
      | nil=>intro o x h; exact h
      | cons v r ih=>intro o x h; exact ih (o + 1) _ (h.setCell hRB v)
     have HB5:=hide (hB5 (naC (mrg al)) 0 wr (uh hB1))
     obtain ⟨M,hM⟩ : ∃ M,M = naC (mrg al):=⟨_,rfl⟩
     rw [← hM] at hRg hTh hI1 hI2 hO hOb5 HB5
     have HM:=hide hM
     have HRg:=hide hRg
     have HTh:=hide hTh
     have HI1:=hide hI1
     have HI2:=hide hI2
     have HO:=hide hO
     have HOb5:=hide hOb5
     clear hRg hTh hI1 hI2 hO hOb5 hsl hB5 hM hC1' hC1 hR1 hB1
     go_wp2_with (first | refine wpList_load_mid rfl 95 (.tmp 3) rfl C 0 rfl M _ (uh HRg) Tryz.underlying95 rfl (uh HI1) ?_ | refine wpList_store_mid rfl 95 (.tmp 2) (.tmp 49) rfl R 0 M.toArray rfl rfl (uh HTh) (uh HI2) (uh HO) ?_)
     have hrg2 : (wr.setCells R 0 M).rangeAt R 0 M:=by
      intro j v hj
      have hjl:=(List.getElem?_eq_some_iff.1 hj).1
      rw [uh HM,naC_len,hml] at hjl
      rw [Nat.zero_add,World.ownsRow.cellAt (uh HOb5) j (by omega)]; exact hj
     have hld:=run_loadVar_mid (P:=Tryz.prog) (wr.setCells R 0 M) R 0 95 M _ hrg2 Tryz.underlying95 rfl (uh HI1)
     refine bodyPost_ret (v:=.agg M.toArray) ?_ rfl ⟨by rw [uh HM],uh HB5⟩
     simp [results,Tryz.results32,Act.put,asAddr,hld]
end Go.Proofs.YtciihepbeacppabGreat
