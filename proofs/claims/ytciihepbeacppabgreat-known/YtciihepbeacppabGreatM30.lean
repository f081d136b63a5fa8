import Derived.Test.YtciihepbeacppabGreatM08
import Derived.Test.YtciihepbeacppabGreatM29
import Derived.Test.YtciihepbeacppabGreatM09
import Derived.Test.YtciihepbeacppabGreatM21
import Derived.Test.YtciihepbeacppabGreatJA
namespace Go.Proofs.YtciihepbeacppabGreat
open Go.RowKit
set_option linter.unusedVariables false
def tnm (vars hid : List UInt8) (k i : Nat) : ByteArray:=if k = 1 then one1 (vars.getD i 0) else if k = 2 then one1 (hid.getD i 0) else nilW
def kwd (k : Nat) : ByteArray:=if k = 1 then eqSW else if k = 2 then neSW else if k = 3 then toW else lsW
def nmA (vars hid : List UInt8) (a : Atm) : RAt:=⟨kwd a.k,tnm vars hid a.lk a.li,tnm vars hid a.rk a.ri⟩
def Bnd (vars hid : List UInt8) (k i : Nat) : Prop:=k ≤ 2 ∧ (k = 1 → i < vars.length) ∧ (k = 2 → i < hid.length)
def Gro (s s' : PS) : Prop:=s.vars <+: s'.vars ∧ s.hid <+: s'.hid
theorem Gro.refl (s : PS) : Gro s s:=⟨List.prefix_refl _,List.prefix_refl _⟩
theorem Gro.trans {a b c : PS} (h : Gro a b) (h2 : Gro b c) : Gro a c:=⟨h.1.trans h2.1,h.2.trans h2.2⟩
theorem pre_get {l l' : List UInt8} (h : l <+: l') {i : Nat} (hi : i < l.length) : l'.getD i 0 = l.getD i 0:=by
 obtain ⟨t,rfl⟩:=h
 simp only [List.getD_eq_getElem?_getD]
 rw [List.getElem?_append_left hi]
theorem tnm_gro {s s' : PS} (h : Gro s s') {k i : Nat} (hb : Bnd s.vars s.hid k i) : tnm s'.vars s'.hid k i = tnm s.vars s.hid k i:=by
 unfold tnm
 by_cases h1 : k = 1
 ·rw [if_pos h1,if_pos h1,pre_get h.1 (hb.2.1 h1)]
 ·rw [if_neg h1,if_neg h1]
  by_cases h2 : k = 2
  ·rw [if_pos h2,if_pos h2,pre_get h.2 (hb.2.2 h2)]
  ·rw [if_neg h2,if_neg h2]
theorem Bnd.gro {s s' : PS} (h : Gro s s') {k i : Nat} (hb : Bnd s.vars s.hid k i) : Bnd s'.vars s'.hid k i :=
 ⟨hb.1,fun h1=>Nat.lt_of_lt_of_le (hb.2.1 h1) h.1.length_le,fun h1=>Nat.lt_of_lt_of_le (hb.2.2 h1) h.2.length_le⟩
theorem put_pre (l : List UInt8) (c : UInt8) : l <+: put l c:=by
 unfold put; split
 ·exact List.prefix_append _ _
 ·exact List.prefix_refl _
theorem plc_get {l : List UInt8} {c : UInt8} (h : plc l c < l.length) : l.getD (plc l c) 0 = c:=by
 induction l with
 | nil=>simp at h
 | cons a l ih =>
  have e : plc (a :: l) c = if a = c then 0 else plc l c + 1:=rfl
  rw [e] at h ⊢
  by_cases hc : a = c
  ·rw [if_pos hc]; simpa using hc
  ·rw [if_neg hc] at h ⊢
   simpa using ih (by simpa using h)
theorem put_get (l : List UInt8) (c : UInt8) : plc l c < (put l c).length ∧ (put l c).getD (plc l c) 0 = c:=by
 have h1:=plc_le l c
 unfold put
 by_cases h : plc l c = l.length
 ·rw [if_pos h,h]
  simp
 ·rw [if_neg h]
  exact ⟨by omega,plc_get (by omega)⟩
theorem gro_ex (ws : List ByteArray) (k : ByteArray) (s : PS) : Gro s (exS ws k s):=by unfold exS; split <;> exact Gro.refl s
theorem gro_va (ws : List ByteArray) (s : PS) : Gro s (vaS ws s):=by
 unfold vaS; split
 ·exact ⟨put_pre _ _,List.prefix_refl _⟩
 ·exact Gro.refl s
theorem gro_val (ws : List ByteArray) (s : PS) : Gro s (valS ws s):=by
 unfold valS; split
 ·exact Gro.refl s
 ·exact gro_va ws s
theorem gro_te (ws : List ByteArray) (s : PS) : Gro s (teS ws s):=by
 unfold teS; split
 ·exact ⟨List.prefix_refl _,put_pre _ _⟩
 ·exact gro_val ws s
theorem gro_rel (ws : List ByteArray) (s : PS) : Gro s (relS ws s):=by
 unfold relS; split
 ·exact Gro.refl s
 ·split
  ·exact Gro.refl s
  ·exact gro_ex ws _ s
theorem gro_li (ws : List ByteArray) (s : PS) : Gro s (liS ws s) :=
 (gro_ex ws _ s).trans ((gro_te ws _).trans ((gro_ex ws _ _).trans ((gro_te ws _).trans (gro_ex ws _ _))))
theorem gro_at (ws : List ByteArray) (s : PS) : Gro s (atS ws s):=by
 unfold atS; split
 ·exact Gro.refl s
 ·split
  ·exact gro_li ws s.adv
  ·exact (gro_te ws s).trans ((gro_rel ws _).trans (gro_te ws _))
theorem gro_foG (ws : List ByteArray) (n : Nat) : ∀ s,Gro s (foG ws n s).2:=by
 induction n with
 | zero=>intro s; exact Gro.refl s
 | succ n ih =>
  intro s
  simp only [foG]
  split
  ·exact (gro_at ws s.adv).trans (ih _)
  ·exact Gro.refl s
theorem te_nm {ws : List ByteArray} {s : PS} {x : ByteArray} {r : List ByteArray} (h : Rd ws s (x :: r)) (hx : nameB x = true) :
  tnm (teS ws s).vars (teS ws s).hid (teK ws s) (teI ws s) = x ∧ Bnd (teS ws s).vars (teS ws s).hid (teK ws s) (teI ws s) ∧ Rd ws (teS ws s) r:=by
 have hrd : Rd ws (teS ws s) r:=by
  have:=par_te.ok s _ h
  rw [pTe_some.2 ⟨x,hx,rfl⟩] at this
  exact this
 have hpk:=pk_rd h
 have hac : acB ws kNil s = eqW x kNil:=acB_rd kNil_n h
 by_cases hu : upB x = true
 ·have hK : teK ws s = 2:=by unfold teK; rw [hpk,if_pos hu]
  have hI : teI ws s = plc s.hid (hd0 x):=by unfold teI; rw [hpk,if_pos hu]
  have hS : (teS ws s).hid = put s.hid (hd0 x):=by unfold teS; rw [hpk,if_pos hu]
  have hp:=put_get s.hid (hd0 x)
  refine ⟨?_,?_,hrd⟩
  ·rw [hK,hI,hS]
   unfold tnm
   rw [if_neg (by decide),if_pos rfl,hp.2]
   exact (up_one hu).symm
  ·rw [hK,hI,hS]
   exact ⟨by omega,fun h=>by omega,fun _=>hp.1⟩
 ·have hK : teK ws s = valK ws s:=by unfold teK; rw [hpk,if_neg hu]
  have hI : teI ws s = valI ws s:=by unfold teI; rw [hpk,if_neg hu]
  have hS : teS ws s = valS ws s:=by unfold teS; rw [hpk,if_neg hu]
  by_cases hn : eqW x kNil = true
  ·have hK2 : valK ws s = 0:=by unfold valK; rw [hac,if_pos hn]
   have hI2 : valI ws s = 0:=by unfold valI; rw [hac,if_pos hn]
   refine ⟨?_,?_,hrd⟩
   ·rw [hK,hI,hK2,hI2]
    unfold tnm
    rw [if_neg (by decide),if_neg (by decide)]
    exact (eqW_iff.1 hn).symm
   ·rw [hK,hI,hK2,hI2]
    exact ⟨by omega,fun h=>by omega,fun h=>by omega⟩
  ·have hl : lowB x = true:=by
    simp only [nameB,Bool.or_eq_true] at hx
    rcases hx with (hx | hx) | hx
    ·exact absurd hx hn
    ·exact hx
    ·exact absurd hx hu
   have hK2 : valK ws s = 1:=by unfold valK; rw [hac,if_neg hn]
   have hI2 : valI ws s = plc s.vars (hd0 x):=by unfold valI; rw [hac,if_neg hn]; unfold vaI; rw [hpk,if_pos hl]
   have hS2 : (teS ws s).vars = put s.vars (hd0 x):=by rw [hS]; unfold valS; rw [hac,if_neg hn]; unfold vaS; rw [hpk,if_pos hl]
   have hp:=put_get s.vars (hd0 x)
   refine ⟨?_,?_,hrd⟩
   ·rw [hK,hI,hK2,hI2,hS2]
    unfold tnm
    rw [if_pos rfl,hp.2]
    exact (low_one hl).symm
   ·rw [hK,hI,hK2,hI2,hS2]
    exact ⟨by omega,fun _=>hp.1,fun h=>by omega⟩
theorem rel_nm {ws : List ByteArray} {s : PS} {x : ByteArray} {r : List ByteArray} (h : Rd ws s (x :: r)) (hx : (eqW x eqSW || eqW x neSW || eqW x toW) = true) :
  kwd (relK ws s) = x ∧ (1 ≤ relK ws s ∧ relK ws s ≤ 3) ∧ Rd ws (relS ws s) r:=by
 have hrd : Rd ws (relS ws s) r:=by
  have:=par_rel.ok s _ h
  rw [pRel_some.2 ⟨x,hx,rfl⟩] at this
  exact this
 have h1 : acB ws kEq s = eqW x kEq:=acB_rd kEq_n h
 have h2 : acB ws kNe s = eqW x kNe:=acB_rd kNe_n h
 by_cases e1 : eqW x kEq = true
 ·have : relK ws s = 1:=by unfold relK; rw [h1,if_pos e1]
  rw [this]
  exact ⟨(eqW_iff.1 e1).symm,by omega,hrd⟩
 ·by_cases e2 : eqW x kNe = true
  ·have : relK ws s = 2:=by unfold relK; rw [h1,if_neg e1,h2,if_pos e2]
   rw [this]
   exact ⟨(eqW_iff.1 e2).symm,by omega,hrd⟩
  ·have : relK ws s = 3:=by unfold relK; rw [h1,if_neg e1,h2,if_neg e2]
   rw [this]
   simp only [Bool.or_eq_true] at hx
   rcases hx with (hx | hx) | hx
   ·exact absurd hx e1
   ·exact absurd hx e2
   ·exact ⟨(eqW_iff.1 hx).symm,by omega,hrd⟩
theorem ex_rd {ws : List ByteArray} {s : PS} {k : ByteArray} {r : List ByteArray} (hk : k.toList ≠ []) (h : Rd ws s (k :: r)) : Rd ws (exS ws k s) r:=by
 have:=(par_ex (ws:=ws) hk).ok s _ h
 rw [pEx_self] at this
 exact this
def AtOK (vars hid : List UInt8) (a : Atm) : Prop:=a.k ≤ 4 ∧ Bnd vars hid a.lk a.li ∧ Bnd vars hid a.rk a.ri
def nmL (vars hid : List UInt8) (l : List Atm) : List RAt:=(l.filter (fun a=>a.k != 0)).map (nmA vars hid)
theorem at_nm {ws : List ByteArray} {s : PS} {p q : List ByteArray} (h : Rd ws s (p ++ q)) (hp : raB p = true) :
  pce p = nmL (atS ws s).vars (atS ws s).hid [atA ws s] ∧ AtOK (atS ws s).vars (atS ws s).hid (atA ws s) ∧ Rd ws (atS ws s) q:=by
 have hrd : Rd ws (atS ws s) q:=by
  have:=par_atom.ok s _ h
  rw [pAtom_some.2 ⟨p,hp,rfl⟩] at this
  exact this
 match p,hp with
 | [a],hp =>
  have ea : a = empW:=eqW_iff.1 (show eqW a empW = true from hp)
  subst ea
  have hac : acB ws kEmp s = true:=by
   rw [acB_rd kEmp_n h]; exact eqW_rfl _
  have hA : atA ws s = ⟨0,0,0,0,0⟩:=by unfold atA; rw [if_pos hac]
  rw [hA]
  exact ⟨rfl,⟨by show 0 ≤ 4; omega,⟨by show 0 ≤ 2; omega,fun h=>(by cases h),fun h=>(by cases h)⟩,⟨by show 0 ≤ 2; omega,fun h=>(by cases h),fun h=>(by cases h)⟩⟩,hrd⟩
 | [a,b,c],hp =>
  simp only [raB,Bool.and_eq_true] at hp
  obtain ⟨⟨ha,hc⟩,hb⟩:=hp
  have h' : Rd ws s (a :: b :: c :: q):=h
  have hne : acB ws kEmp s = false:=by
   rw [acB_rd kEmp_n h']; exact eqW_ne (name_out ha (data_ne (by simp [kEmp,nilW])) rfl rfl)
  have hnl : acB ws kLs s = false:=by
   rw [acB_rd kLs_n h']; exact eqW_ne (name_out ha (data_ne (by simp [kLs,nilW])) rfl rfl)
  obtain ⟨t1,t2,t3⟩:=te_nm h' ha
  obtain ⟨r1,r2,r3⟩:=rel_nm t3 hb
  obtain ⟨u1,u2,u3⟩:=te_nm r3 hc
  have hA : atA ws s = ⟨relK ws (teS ws s),teK ws s,teI ws s,teK ws (relS ws (teS ws s)),teI ws (relS ws (teS ws s))⟩:=by
   unfold atA; rw [if_neg (by rw [hne]; simp),if_neg (by rw [hnl]; simp)]
  have hS : atS ws s = teS ws (relS ws (teS ws s)):=by
   unfold atS; rw [if_neg (by rw [hne]; simp),if_neg (by rw [hnl]; simp)]
  have hg : Gro (teS ws s) (teS ws (relS ws (teS ws s))):=(gro_rel ws _).trans (gro_te ws _)
  refine ⟨?_,?_,hrd⟩
  ·rw [hA,hS]
   have hk : ((relK ws (teS ws s)) != 0) = true:=by rw [bne_iff_ne]; omega
   simp only [nmL,List.filter_cons,hk,if_true,List.filter_nil,List.map_cons,List.map_nil]
   show [(⟨b,a,c⟩ : RAt)] = [⟨_,_,_⟩]
   rw [r1,tnm_gro hg t2,t1,u1]
  ·rw [hA,hS]
   exact ⟨by show relK ws (teS ws s) ≤ 4; omega,t2.gro hg,u2⟩
 | [a,b,c,d,e,f],hp =>
  simp only [raB,Bool.and_eq_true,eqW_iff] at hp
  obtain ⟨⟨⟨⟨rfl,rfl⟩,rfl⟩,rfl⟩,hc,he⟩:=hp
  have h' : Rd ws s (lsW :: opW :: c :: cmW :: e :: clW :: q):=h
  have hne : acB ws kEmp s = false:=by
   rw [acB_rd kEmp_n h']; exact eqW_ne (data_ne (by simp [kEmp,lsW]))
  have hnl : acB ws kLs s = true:=by
   rw [acB_rd kLs_n h']; exact eqW_rfl _
  have h1:=adv_rd h'
  have h2 : Rd ws (liS1 ws s.adv) (c :: cmW :: e :: clW :: q):=ex_rd kOpen_n h1
  obtain ⟨t1,t2,t3⟩:=te_nm h2 hc
  have h3 : Rd ws (liS2 ws s.adv) (e :: clW :: q):=ex_rd kComma_n t3
  obtain ⟨u1,u2,u3⟩:=te_nm h3 he
  have hA : atA ws s = liA ws s.adv:=by unfold atA; rw [if_neg (by rw [hne]; simp),if_pos hnl]
  have hS : atS ws s = liS ws s.adv:=by unfold atS; rw [if_neg (by rw [hne]; simp),if_pos hnl]
  have hg2 : Gro (teS ws (liS2 ws s.adv)) (liS ws s.adv):=gro_ex ws _ _
  have hg : Gro (teS ws (liS1 ws s.adv)) (liS ws s.adv):=(gro_ex ws kComma _).trans ((gro_te ws _).trans hg2)
  refine ⟨?_,?_,hrd⟩
  ·rw [hA,hS]
   show [(⟨lsW,c,e⟩ : RAt)] = [⟨kwd 4,tnm _ _ (teK ws (liS1 ws s.adv)) (teI ws (liS1 ws s.adv)),tnm _ _ (teK ws (liS2 ws s.adv)) (teI ws (liS2 ws s.adv))⟩]
   rw [tnm_gro hg t2,t1,tnm_gro hg2 u2,u1]
   rfl
  ·rw [hA,hS]
   exact ⟨Nat.le_refl 4,t2.gro hg,u2.gro hg2⟩
theorem nmL_app (vars hid : List UInt8) (a b : List Atm) : nmL vars hid (a ++ b) = nmL vars hid a ++ nmL vars hid b:=by simp [nmL]
theorem nmL_gro {s s' : PS} (h : Gro s s') {l : List Atm} (hl : ∀ a ∈ l,AtOK s.vars s.hid a) : nmL s'.vars s'.hid l = nmL s.vars s.hid l:=by
 unfold nmL
 apply List.map_congr_left
 intro a ha
 have:=hl a (List.mem_filter.1 ha).1
 unfold nmA
 rw [tnm_gro h this.2.1,tnm_gro h this.2.2]
theorem AtOK.gro {s s' : PS} (h : Gro s s') {a : Atm} (ha : AtOK s.vars s.hid a) : AtOK s'.vars s'.hid a:=⟨ha.1,ha.2.1.gro h,ha.2.2.gro h⟩
theorem fo_nm {ws : List ByteArray} {f : List ByteArray} (hf : FmG f) : ∀ {n : Nat} {s : PS} {q : List ByteArray},Rd ws s (f ++ q) → f.length ≤ n → hdB starW q = false →
  ∃ al,rfo [] f = some al ∧ al = nmL (foG ws n (atS ws s)).2.vars (foG ws n (atS ws s)).2.hid (atA ws s :: (foG ws n (atS ws s)).1) ∧ ∀ a ∈ atA ws s :: (foG ws n (atS ws s)).1,AtOK (foG ws n (atS ws s)).2.vars (foG ws n (atS ws s)).2.hid a:=by
 induction hf using FmG.ind with
 | @one p hp =>
  intro n s q h hn hq
  obtain ⟨h1,h2,h3⟩:=at_nm h hp
  have e : foG ws n (atS ws s) = ([],atS ws s):=by
   cases n with
   | zero=>rfl
   | succ n=>simp only [foG]; rw [acB_rd kStar_n h3,show hdB kStar q = false from hq,if_neg (by simp)]
  rw [e]
  refine ⟨pce p,?_,h1,fun a ha=>?_⟩
  ·have:=rfo_run (atom_star hp) [] []
   rw [List.append_nil] at this
   rw [this]
   simp only [rfo,List.nil_append,if_pos hp]
  ·simp only [List.mem_singleton] at ha
   subst ha; exact h2
 | @more p r hp _ ih =>
  intro n s q h hn hq
  rw [List.append_assoc] at h
  obtain ⟨h1,h2,h3⟩:=at_nm h hp
  have h3' : Rd ws (atS ws s) (starW :: (r ++ q)):=h3
  simp only [List.length_append,List.length_cons] at hn
  cases n with
  | zero=>omega
  | succ n =>
   have e : foG ws (n + 1) (atS ws s) = (atA ws (atS ws s).adv :: (foG ws n (atS ws (atS ws s).adv)).1,(foG ws n (atS ws (atS ws s).adv)).2):=by
    simp only [foG]; rw [acB_rd kStar_n h3',show hdB kStar (starW :: (r ++ q)) = true from eqW_rfl _,if_pos rfl]
   obtain ⟨al,g1,g2,g3⟩:=ih (n:=n) (adv_rd h3') (by omega) hq
   rw [e]
   have hg : Gro (atS ws s) (foG ws n (atS ws (atS ws s).adv)).2:=(gro_at ws (atS ws s).adv).trans (gro_foG ws n _)
   refine ⟨pce p ++ al,?_,?_,fun a ha=>?_⟩
   ·rw [rfo_run (atom_star hp)]
    simp only [rfo,List.nil_append,eqW_rfl,if_true,if_pos hp,g1]
    rfl
   ·rw [show atA ws s :: (atA ws (atS ws s).adv :: (foG ws n (atS ws (atS ws s).adv)).1) = [atA ws s] ++ (atA ws (atS ws s).adv :: (foG ws n (atS ws (atS ws s).adv)).1) from rfl,nmL_app,← g2,h1]
    rw [nmL_gro hg (fun a ha=>by simp only [List.mem_singleton] at ha; subst ha; exact h2)]
   ·rcases List.mem_cons.1 ha with rfl | ha
    ·exact h2.gro hg
    ·exact g3 a ha
theorem tNo_lt {vars hid : List UInt8} (hv : vars.length ≤ 4) (hh : hid.length ≤ 8) {k i : Nat} (hb : Bnd vars hid k i) : tNo k i < 13:=by
 unfold tNo
 by_cases h1 : k = 1
 ·have:=hb.2.1 h1; rw [if_pos h1]; omega
 ·rw [if_neg h1]
  by_cases h2 : k = 2
  ·have:=hb.2.2 h2; rw [if_pos h2]; omega
  ·rw [if_neg h2]; omega
theorem tmOK_of {vars hid : List UInt8} (hv : vars.length ≤ 4) (hh : hid.length ≤ 8) {al : List Atm} (ha : ∀ a ∈ al,AtOK vars hid a) : TmOK al :=
 fun a h=>⟨tNo_lt hv hh (ha a h).2.1,tNo_lt hv hh (ha a h).2.2⟩
def sta (v : List UInt8) : PS:=⟨0,false,v,[],[]⟩
def txS (v l : List UInt8) : PS:=finS (rdW l) (foS (rdW l) (sta v))
def txE (v l : List UInt8) : Nat:=if 240 < l.length then 1 else if spl l = none then 2 else if (txS v l).failed = true then 3 else 0
def tw1 (a : List UInt8) : PS:=txS [] a
def tw2 (a c : List UInt8) : PS:=txS (tw1 a).vars c
def twE (a c : List UInt8) : Nat:=if txE [] a ≠ 0 then txE [] a else if txE (tw1 a).vars c ≠ 0 then txE (tw1 a).vars c else if 4 < (tw2 a c).vars.length ∨ 8 < (tw1 a).hid.length ∨ 8 < (tw2 a c).hid.length then 4 else 0
def twA (a : List UInt8) : List Atm:=foA (rdW a) (sta [])
def twB (a c : List UInt8) : List Atm:=foA (rdW c) (sta (tw1 a).vars)
def enT (a c : List UInt8) : Bool × Nat:=if twE a c ≠ 0 then (false,twE a c) else fol (twA a) (twB a c)
theorem rd_sta (v : List UInt8) (ws : List ByteArray) : Rd ws (sta v) ws:=⟨rfl,rfl,Nat.zero_le _⟩
theorem tx_iff (v l : List UInt8) : (txS v l).failed = false ↔ ∃ al,rfo [] (rdW l) = some al:=by
 have hp:=par_for (ws:=rdW l) |>.ok (sta v) _ (rd_sta v _)
 constructor
 ·intro h
  cases hq : pFor ((rdW l).length + 1) (rdW l) with
  | none =>
   rw [hq] at hp
   have hf : (foS (rdW l) (sta v)).failed = true:=hp
   unfold txS finS at h
   split at h
   ·rw [hf] at h; cases h
   ·cases h
  | some q =>
   rw [hq] at hp
   have hr : Rd (rdW l) (foS (rdW l) (sta v)) q:=hp
   unfold txS finS at h
   by_cases he : (foS (rdW l) (sta v)).pos = (rdW l).length
   ·have hq0 : q = []:=by rw [← hr.2.1,he]; exact List.drop_length
    subst hq0
    obtain ⟨f,hf,e⟩:=for_sound hq
    rw [List.append_nil] at e
    rw [e]; exact rfo_complete hf
   ·rw [if_neg he] at h; cases h
 ·rintro ⟨al,h⟩
  have hF:=rfo_sound h
  rw [List.nil_append] at hF
  have:=for_complete hF (n:=(rdW l).length + 1) (q:=[]) (by omega) rfl
  rw [List.append_nil] at this
  rw [this] at hp
  have hr : Rd (rdW l) (foS (rdW l) (sta v)) []:=hp
  have he : (foS (rdW l) (sta v)).pos = (rdW l).length:=by
   have h1:=congrArg List.length hr.2.1
   have h2:=hr.2.2
   simp only [List.length_drop,List.length_nil] at h1
   omega
  unfold txS finS
  rw [if_pos he]; exact hr.1
theorem invz_sta (v : List UInt8) (ws : List ByteArray) : InvZ (v.map one1) ws (sta v):=fun _=>⟨rfl,rfl,rfl⟩
theorem tx_ok {v l : List UInt8} (h : (txS v l).failed = false) : (txS v l).vars.map one1 = nmI (v.map one1) (rdW l) (rdW l).length ∧ (txS v l).hid.map one1 = nmH (rdW l) (rdW l).length ∧
  (∃ al,rfo [] (rdW l) = some al ∧ al = nmL (txS v l).vars (txS v l).hid (foA (rdW l) (sta v))) ∧ (∀ a ∈ foA (rdW l) (sta v),AtOK (txS v l).vars (txS v l).hid a) ∧ v <+: (txS v l).vars:=by
 obtain ⟨al,hal⟩:=(tx_iff v l).1 h
 have hF:=rfo_sound hal
 rw [List.nil_append] at hF
 have he : (foS (rdW l) (sta v)).pos = (rdW l).length ∧ txS v l = foS (rdW l) (sta v):=by
  unfold txS finS at h ⊢
  by_cases he : (foS (rdW l) (sta v)).pos = (rdW l).length
  ·rw [if_pos he]; exact ⟨he,rfl⟩
  ·rw [if_neg he] at h; cases h
 have hrd : Rd (rdW l) (sta v) (rdW l ++ []):=by rw [List.append_nil]; exact rd_sta v _
 obtain ⟨al',g1,g2,g3⟩:=fo_nm hF (n:=(rdW l).length + 1) hrd (by omega) rfl
 have hinv:=kz_fo (z:=v.map one1) (ws:=rdW l) (sta v) (invz_sta v _)
 rw [he.2] at h ⊢
 obtain ⟨_,i2,i3⟩:=hinv h
 rw [he.1] at i2 i3
 exact ⟨i2.symm,i3.symm,⟨al',g1,g2⟩,g3,((gro_at (rdW l) (sta v)).trans (gro_foG (rdW l) ((rdW l).length + 1) _)).1⟩
theorem foG_len (ws : List ByteArray) (n : Nat) : ∀ s,(foG ws n s).1.length ≤ n:=by
 induction n with
 | zero=>intro s; simp [foG]
 | succ n ih =>
  intro s
  unfold foG
  split
  ·have:=ih (atS ws s.adv)
   simp only [List.length_cons]
   omega
  ·simp
theorem foA_len (ws : List ByteArray) (s : PS) : (foA ws s).length ≤ ws.length + 2:=by
 have:=foG_len ws (ws.length + 1) (atS ws s)
 unfold foA
 simp only [List.length_cons]
 omega
theorem sta_of {s : PS} (hf : s.failed = false) (hn : s.nodes = []) : ({ s with pos:=0,hid:=[] } : PS) = sta s.vars:=by
 cases s; simp only at hf hn; subst hf; subst hn; rfl
theorem txE_long {v l : List UInt8} (h : 240 < l.length) : txE v l = 1:=by unfold txE; rw [if_pos h]
theorem txE_lex {v l : List UInt8} (h : ¬ 240 < l.length) (h2 : spl l = none) : txE v l = 2:=by unfold txE; rw [if_neg h,if_pos h2]
theorem txE_syn {v l : List UInt8} (h : ¬ 240 < l.length) (h2 : spl l ≠ none) (h3 : (txS v l).failed = true) : txE v l = 3:=by unfold txE; rw [if_neg h,if_neg h2,if_pos h3]
theorem txE_zero {v l : List UInt8} (h : ¬ 240 < l.length) (h2 : spl l ≠ none) (h3 : (txS v l).failed = false) : txE v l = 0:=by unfold txE; rw [if_neg h,if_neg h2,if_neg (by simp [h3])]
set_option maxRecDepth 100000 in
set_option maxHeartbeats 4000000 in
theorem ptext_any (x : ByteArray) (hx : x.size ≤ 20000) {B : Nat} {WV : Value} {w : World} {P : Nat} {ws : List ByteArray} {s : PS} {F : List Nat} (h : IsQ B WV w P ws s F) (hv : s.vars.length ≤ 240) (hf : s.failed = false) (hn : s.nodes = []) :
  Calls Tryz.prog 18 #[.pointer (some ⟨P,0,none⟩),.string x] w fun e w'=>∃ F',Stp F w F' w' ∧
   ((txE s.vars x.data.toList ≠ 0 ∧ e = .returned (.tuple #[.slice none 0 0,.int .i64 (txE s.vars x.data.toList)])) ∨
    (txE s.vars x.data.toList = 0 ∧ ∃ v av,e = .returned (.tuple #[av,.int .i64 0]) ∧ IsQ B v w' P (rdW x.data.toList) (txS s.vars x.data.toList) F' ∧
     w'.ownsRow w.heap.size 100 5 av (foA (rdW x.data.toList) (sta s.vars)).length (atCells (foA (rdW x.data.toList) (sta s.vars))) ∧ (∀ k,av.ownBlock = some k → k ∉ F') ∧ (rdW x.data.toList).length ≤ 240 ∧ (txS s.vars x.data.toList).failed = false)):=by
 have HSt:=hide (sta_of hf hn)
 have HO:=hide (open_any x hx h hv)
 have HM:=hide h.m.mem
 clear h hf hn
 go_enter Tryz.func18,Tryz.ntmps18
 go_wp2_with fail
 refine (uh HO).mono ?_
 rintro e w1 ⟨F1,hS1,(⟨hlong,rfl⟩ | ⟨hlong,hnone,rfl⟩ | ⟨hlong,ws1,v,hsome,rfl,hq⟩)⟩
 ·have HE : Hid (txE s.vars x.data.toList = 1):=hide (txE_long (by rw [size_toList]; exact hlong))
  have HS1:=hide hS1
  clear hlong hS1 HO
  go_wp2_with fail
  go_ret2
  exact ⟨F1,uh HS1,Or.inl ⟨by rw [uh HE]; decide,by rw [uh HE]; rfl⟩⟩
 ·have HE : Hid (txE s.vars x.data.toList = 2):=hide (txE_lex (by rw [size_toList]; exact hlong) hnone)
  have HS1:=hide hS1
  clear hlong hS1 HO hnone
  go_wp2_with fail
  go_ret2
  exact ⟨F1,uh HS1,Or.inl ⟨by rw [uh HE]; decide,by rw [uh HE]; rfl⟩⟩
 ·have HL : Hid (¬ 240 < x.data.toList.length):=hide (by rw [size_toList]; exact hlong)
  have HW : Hid (rdW x.data.toList = ws1):=hide (rdW_of hsome)
  have HNN : Hid (spl x.data.toList ≠ none):=hide (by rw [hsome]; simp)
  have HLen:=hide (rdW_len hsome).1
  rw [uh HSt] at hq
  have HQ:=hide hq
  have HS1:=hide hS1
  clear hlong hsome hq hS1 HO
  go_wp2_with fail
  refine (formula_any (uh HQ)).mono ?_
  rintro e w2 ⟨av,F2,rfl,hI2,hS2,hown2,hout2⟩
  have HI2:=hide hI2
  have HS2:=hide ((uh HS1).trans hS2)
  have HOw:=hide hown2
  have HOut:=hide hout2
  have hsz1:=(uh HS1).size
  clear hI2 hS2 hown2 hout2
  go_wp2_with fail
  refine (finish_any (uh HI2)).mono ?_
  rintro e w3 ⟨rfl,hI3,hS3⟩
  have HT : Hid (txS s.vars x.data.toList = finS ws1 (foS ws1 (sta s.vars))):=hide (by unfold txS; rw [uh HW])
  have HOw3:=hide (ownsRow_of_eq (uh HOw) (fun k hk=>hS3.block k ((uh HOw).lt k hk).2 (uh HOut k hk)))
  have HS3:=hide ((uh HS2).trans hS3)
  obtain ⟨st,hst⟩ : ∃ st,st = finS ws1 (foS ws1 (sta s.vars)):=⟨_,rfl⟩
  rw [← hst] at hI3 HT
  have HI3:=hide hI3
  obtain ⟨wv,vv,hv',nv,hpv⟩:=hI3.m.named
  obtain ⟨-,c2,-,-,-,-⟩:=hpv.readsV
  obtain ⟨ao,cap,hao⟩:=slice_of_own (uh HOw3)
  clear hI3 hS3 hst hpv HI2 HQ HOw HS2
  cases hfd : st.failed with
  | true =>
   rw [hfd] at c2
   have HE : Hid (txE s.vars x.data.toList = 3):=hide (txE_syn (uh HL) (uh HNN) (by rw [uh HT]; exact hfd))
   clear hfd
   go_wp2_with fail
   go_ret2
   exact ⟨F2,uh HS3,Or.inl ⟨by rw [uh HE]; decide,by rw [uh HE]; rfl⟩⟩
  | false =>
   rw [hfd] at c2
   have HFd:=hide hfd
   have HE : Hid (txE s.vars x.data.toList = 0):=hide (txE_zero (uh HL) (uh HNN) (by rw [uh HT]; exact hfd))
   clear hfd
   go_wp2_with fail
   go_ret2
   have hl1:=uh HLen
   have hl2:=uh HL
   refine ⟨F2,uh HS3,Or.inr ⟨uh HE,v,av,by rw [hao]; rfl,?_,?_,uh HOut,?_,?_⟩⟩
   ·rw [uh HT,uh HW]; exact uh HI3
   ·rw [uh HW]; exact rowBase (uh HOw3) hsz1
   ·rw [uh HW]; omega
   ·rw [uh HT]; exact uh HFd
theorem tx_vars {v l : List UInt8} (h : (txS v l).failed = false) : (txS v l).vars.length ≤ v.length + (rdW l).length:=by
 have h1:=(tx_ok h).1
 have h2:=nmI_len (v.map one1) (rdW l) (rdW l).length
 rw [← h1,List.length_map,List.length_map] at h2
 exact h2
theorem fin_nodes (ws : List ByteArray) (s : PS) : (finS ws s).nodes = s.nodes:=by unfold finS; split <;> rfl
theorem twE_first {a c : List UInt8} (h : txE [] a ≠ 0) : twE a c = txE [] a:=by unfold twE; rw [if_pos h]
theorem twE_second {a c : List UInt8} (h : txE [] a = 0) (h2 : txE (tw1 a).vars c ≠ 0) : twE a c = txE (tw1 a).vars c:=by unfold twE; rw [if_neg (by simp [h]),if_pos h2]
theorem twE_names {a c : List UInt8} (h : txE [] a = 0) (h2 : txE (tw1 a).vars c = 0) (h3 : 4 < (tw2 a c).vars.length ∨ 8 < (tw1 a).hid.length ∨ 8 < (tw2 a c).hid.length) : twE a c = 4:=by unfold twE; rw [if_neg (by simp [h]),if_neg (by simp [h2]),if_pos h3]
theorem twE_good {a c : List UInt8} (h : txE [] a = 0) (h2 : txE (tw1 a).vars c = 0) (h3 : ¬ (4 < (tw2 a c).vars.length ∨ 8 < (tw1 a).hid.length ∨ 8 < (tw2 a c).hid.length)) : twE a c = 0:=by unfold twE; rw [if_neg (by simp [h]),if_neg (by simp [h2]),if_neg h3]
set_option maxRecDepth 100000 in
set_option maxHeartbeats 4000000 in
theorem readTwo_any (a c : ByteArray) (w : World) (ha : a.size ≤ 20000) (hc : c.size ≤ 20000) :
  Calls Tryz.prog 11 #[.string a,.string c] w fun e w'=>Below w.heap.size w w' ∧
   ((twE a.data.toList c.data.toList ≠ 0 ∧ e = .returned (.tuple #[.slice none 0 0,.slice none 0 0,.int .i64 (twE a.data.toList c.data.toList)])) ∨
    (twE a.data.toList c.data.toList = 0 ∧ ∃ v1 v2,e = .returned (.tuple #[v1,v2,.int .i64 0]) ∧
     w'.ownsRow w.heap.size 100 5 v1 (twA a.data.toList).length (atCells (twA a.data.toList)) ∧
     w'.ownsRow w.heap.size 100 5 v2 (twB a.data.toList c.data.toList).length (atCells (twB a.data.toList c.data.toList)) ∧
     (twA a.data.toList).length ≤ 242 ∧ (twB a.data.toList c.data.toList).length ≤ 242 ∧ (tw1 a.data.toList).failed = false ∧ (tw2 a.data.toList c.data.toList).failed = false)):=by
 have HQ0:=hide (isP_new w w.heap.size (Nat.le_refl _))
 go_enter Tryz.func11,Tryz.ntmps11
 go_wp2_with fail
 refine (ptext_any a ha (uh HQ0) (by simp [ini]) rfl rfl).mono ?_
 rintro e w1 ⟨F1,hS1,(⟨hbad,rfl⟩ | ⟨hok,v1,av1,rfl,hq1,hown1,hout1,hl1,hf1⟩)⟩
 ·have HB1 : Hid (Below w.heap.size w w1):=hide (((Stp.refl [w.heap.size] w).alloc ini0).trans hS1 |>.below (Nat.le_refl _) (by simp))
  obtain ⟨ee,hee⟩ : ∃ ee,ee = txE ini.vars a.data.toList:=⟨_,rfl⟩
  have HE : Hid (twE a.data.toList c.data.toList = ee):=hide (by rw [hee]; exact twE_first hbad)
  rw [← hee] at hbad ⊢
  have hne : ¬ ((ee : Int) = 0):=by omega
  clear hS1 hee
  go_wp2_with fail
  go_ret3
  exact ⟨uh HB1,Or.inl ⟨by rw [uh HE]; exact hbad,by rw [uh HE]; rfl⟩⟩
 ·have HE1 : Hid (txE [] a.data.toList = 0):=hide hok
  have hvl : (tw1 a.data.toList).vars.length ≤ 240:=by
   have h1 : (txS [] a.data.toList).vars.length ≤ ([] : List UInt8).length + _:=tx_vars hf1
   rw [List.length_nil] at h1
   show (txS [] a.data.toList).vars.length ≤ 240
   omega
  have HF1 : Hid ((tw1 a.data.toList).failed = false):=hide hf1
  have HL1:=hide hl1
  have HQ1 : Hid (IsQ w.heap.size v1 w1 w.heap.size (rdW a.data.toList) (tw1 a.data.toList) F1):=hide hq1
  have HOw1 : Hid (w1.ownsRow w.heap.size 100 5 av1 (twA a.data.toList).length (atCells (twA a.data.toList))):=hide (rowBase hown1 (by simp))
  have HOut:=hide hout1
  have HS1:=hide (((Stp.refl [w.heap.size] w).alloc ini0).trans hS1)
  obtain ⟨wv,vv,hv',nv,hpv⟩:=hq1.m.named
  obtain ⟨-,-,-,c4,-,-⟩:=hpv.readsV
  obtain ⟨a4,k4,rfl⟩:=slice_of_own hpv.2.2.2.2.1
  obtain ⟨ao1,cap1,hao1⟩:=slice_of_own (uh HOw1)
  rw [show txS ini.vars a.data.toList = tw1 a.data.toList from rfl] at c4
  have HNd : Hid ((tw1 a.data.toList).nodes = []):=hide (by
   show (finS _ _).nodes = []
   rw [fin_nodes,par_for.nd]
   rfl)
  have HP2:=hide (ptext_any c hc (uh HQ1) hvl (uh HF1) (uh HNd))
  obtain ⟨T1,hT1⟩ : ∃ T1,T1 = tw1 a.data.toList:=⟨_,rfl⟩
  obtain ⟨al,hal⟩ : ∃ al,al = twA a.data.toList:=⟨_,rfl⟩
  have HT1:=hide hT1
  have HAl:=hide hal
  rw [← hT1] at c4 hvl HF1 HQ1 HP2
  rw [← hal] at HOw1 hao1
  clear hpv hok hf1 hl1 hq1 hown1 hout1 hS1 HQ0 hT1 hal
  rw [hao1]
  go_wp2_with fail
  refine (uh HP2).mono ?_
  rintro e w2 ⟨F2,hS2,(⟨hbad,rfl⟩ | ⟨hok,v2,av2,rfl,hq2,hown2,hout2,hl2,hf2⟩)⟩
  ·have HB2 : Hid (Below w.heap.size w w2):=hide (((uh HS1).trans hS2).below (Nat.le_refl _) (by simp))
   obtain ⟨ee,hee⟩ : ∃ ee,ee = txE T1.vars c.data.toList:=⟨_,rfl⟩
   have HE : Hid (twE a.data.toList c.data.toList = ee):=hide (by rw [hee,uh HT1]; exact twE_second (uh HE1) (by rw [← uh HT1]; exact hbad))
   rw [← hee] at hbad ⊢
   have hne : ¬ ((ee : Int) = 0):=by omega
   clear hS2 hee HP2
   go_wp2_with fail
   go_ret3
   exact ⟨uh HB2,Or.inl ⟨by rw [uh HE]; exact hbad,by rw [uh HE]; rfl⟩⟩
  ·have HB2 : Hid (Below w.heap.size w w2):=hide (((uh HS1).trans hS2).below (Nat.le_refl _) (by simp))
   have HOw1':=hide (ownsRow_of_eq (uh HOw1) (fun k hk=>hS2.block k ((uh HOw1).lt k hk).2 (uh HOut k hk)))
   have hsz1:=(uh HS1).size
   have HOw2:=hide (rowBase hown2 hsz1)
   obtain ⟨wv2,vv2,hv2,nv2,hpv⟩:=hq2.m.named
   obtain ⟨-,-,d3,d4,-,-⟩:=hpv.readsV
   obtain ⟨e3,j3,rfl⟩:=slice_of_own hpv.2.2.2.1
   obtain ⟨e4,j4,rfl⟩:=slice_of_own hpv.2.2.2.2.1
   obtain ⟨T2,hT2⟩ : ∃ T2,T2 = txS T1.vars c.data.toList:=⟨_,rfl⟩
   have HT2 : Hid (T2 = tw2 a.data.toList c.data.toList):=hide (by rw [hT2,uh HT1]; rfl)
   obtain ⟨bl,hbl⟩ : ∃ bl,bl = foA (rdW c.data.toList) (sta T1.vars):=⟨_,rfl⟩
   have HBl : Hid (bl = twB a.data.toList c.data.toList):=hide (by rw [hbl,uh HT1]; rfl)
   have HE2 : Hid (txE (tw1 a.data.toList).vars c.data.toList = 0):=hide (by rw [← uh HT1]; exact hok)
   rw [← hT2] at d3 d4 hf2
   rw [← hbl] at HOw2
   obtain ⟨ao2,cap2,hao2⟩:=slice_of_own (uh HOw2)
   have HF2:=hide hf2
   have HLa : Hid (al.length ≤ 242):=hide (by
    rw [uh HAl]
    have h1:=foA_len (rdW a.data.toList) (sta [])
    have h2:=uh HL1
    show (foA (rdW a.data.toList) (sta [])).length ≤ 242
    omega)
   have HLb : Hid (bl.length ≤ 242):=hide (by
    rw [hbl]
    have h1:=foA_len (rdW c.data.toList) (sta T1.vars)
    omega)
   clear hpv hok hf2 hl2 hq2 hown2 hout2 hS2 hT2 hbl HP2 HOut
   rw [hao2]
   by_cases hbig : 4 < T2.vars.length ∨ 8 < T1.hid.length ∨ 8 < T2.hid.length
   ·have HE : Hid (twE a.data.toList c.data.toList = 4):=hide (twE_names (uh HE1) (uh HE2) (by rw [← uh HT2,← uh HT1]; exact hbig))
    by_cases b1 : 4 < T2.vars.length
    ·clear hbig
     go_wp2_with fail
     go_ret3
     exact ⟨uh HB2,Or.inl ⟨by rw [uh HE]; decide,by rw [uh HE]; rfl⟩⟩
    ·have q1 : decide ((4 : Int) < (T2.vars.length : Int)) = false:=by simp; omega
     by_cases b2 : 8 < T1.hid.length
     ·clear hbig
      go_wp2_with fail
      go_ret3
      exact ⟨uh HB2,Or.inl ⟨by rw [uh HE]; decide,by rw [uh HE]; rfl⟩⟩
     ·have q2 : decide ((8 : Int) < (T1.hid.length : Int)) = false:=by simp; omega
      have b3 : 8 < T2.hid.length:=by omega
      clear hbig
      go_wp2_with fail
      go_ret3
      exact ⟨uh HB2,Or.inl ⟨by rw [uh HE]; decide,by rw [uh HE]; rfl⟩⟩
   ·have HE : Hid (twE a.data.toList c.data.toList = 0):=hide (twE_good (uh HE1) (uh HE2) (by rw [← uh HT2,← uh HT1]; exact hbig))
    have q1 : decide ((4 : Int) < (T2.vars.length : Int)) = false:=by simp; omega
    have q2 : decide ((8 : Int) < (T1.hid.length : Int)) = false:=by simp; omega
    have q3 : decide ((8 : Int) < (T2.hid.length : Int)) = false:=by simp; omega
    clear hbig
    go_wp2_with fail
    go_ret3
    rw [← uh HBl,← uh HAl,← uh HT1,← uh HT2]
    exact ⟨uh HB2,Or.inr ⟨uh HE,_,_,rfl,by rw [← hao1]; exact uh HOw1',by rw [← hao2]; exact uh HOw2,uh HLa,uh HLb,uh HF1,uh HF2⟩⟩
theorem te_zero {ws : List ByteArray} {s : PS} (h : teK ws s = 0) : teI ws s = 0:=by
 unfold teK at h
 unfold teI
 by_cases hu : upB (pk ws s) = true
 ·rw [if_pos hu] at h; cases h
 ·rw [if_neg hu] at h ⊢
  unfold valK at h
  unfold valI
  by_cases hn : acB ws kNil s = true
  ·rw [if_pos hn]
  ·rw [if_neg hn] at h; cases h
def Zer (a : Atm) : Prop:=(a.lk = 0 → a.li = 0) ∧ (a.rk = 0 → a.ri = 0)
theorem at_zer (ws : List ByteArray) (s : PS) : Zer (atA ws s):=by
 unfold atA
 split
 ·exact ⟨fun _=>rfl,fun _=>rfl⟩
 ·split
  ·exact ⟨fun h=>te_zero h,fun h=>te_zero h⟩
  ·exact ⟨fun h=>te_zero h,fun h=>te_zero h⟩
theorem foG_zer (ws : List ByteArray) (n : Nat) : ∀ s,∀ a ∈ (foG ws n s).1,Zer a:=by
 induction n with
 | zero=>intro s a h; simp [foG] at h
 | succ n ih =>
  intro s a h
  unfold foG at h
  split at h
  ·rcases List.mem_cons.1 h with rfl | h
   ·exact at_zer ws _
   ·exact ih _ a h
  ·cases h
theorem foA_zer (ws : List ByteArray) (s : PS) : ∀ a ∈ foA ws s,Zer a:=by
 intro a h
 rcases List.mem_cons.1 h with rfl | h
 ·exact at_zer ws _
 ·exact foG_zer ws _ _ a h
theorem bnd_of {vars hid : List UInt8} (hv : vars.length ≤ 4) (hh : hid.length ≤ 8) {al : List Atm} (ha : ∀ a ∈ al,AtOK vars hid a) (hz : ∀ a ∈ al,Zer a) : ∀ a ∈ al,a.lk ≤ 2 ∧ a.rk ≤ 2 ∧ a.li ≤ 100 ∧ a.ri ≤ 100:=by
 intro a h
 obtain ⟨-,⟨h1,h2,h3⟩,⟨g1,g2,g3⟩⟩:=ha a h
 obtain ⟨z1,z2⟩:=hz a h
 refine ⟨h1,g1,?_,?_⟩
 ·have : a.lk = 0 ∨ a.lk = 1 ∨ a.lk = 2:=by omega
  rcases this with e | e | e
  ·rw [z1 e]; exact Nat.zero_le _
  ·have:=h2 e; omega
  ·have:=h3 e; omega
 ·have : a.rk = 0 ∨ a.rk = 1 ∨ a.rk = 2:=by omega
  rcases this with e | e | e
  ·rw [z2 e]; exact Nat.zero_le _
  ·have:=g2 e; omega
  ·have:=g3 e; omega
theorem tw_ok {a c : List UInt8} (hE : twE a c = 0) (f1 : (tw1 a).failed = false) (f2 : (tw2 a c).failed = false) :
  TmOK (twA a) ∧ TmOK (twB a c) ∧ (∀ x ∈ twA a,x.lk ≤ 2 ∧ x.rk ≤ 2 ∧ x.li ≤ 100 ∧ x.ri ≤ 100) ∧ (∀ x ∈ twB a c,x.lk ≤ 2 ∧ x.rk ≤ 2 ∧ x.li ≤ 100 ∧ x.ri ≤ 100):=by
 obtain ⟨-,-,-,i5,-⟩:=tx_ok f1
 obtain ⟨-,-,-,j5,j6⟩:=tx_ok f2
 have hbnd : (tw2 a c).vars.length ≤ 4 ∧ (tw1 a).hid.length ≤ 8 ∧ (tw2 a c).hid.length ≤ 8:=by
  unfold twE at hE
  by_cases g1 : txE [] a ≠ 0
  ·rw [if_pos g1] at hE; exact absurd hE g1
  ·rw [if_neg g1] at hE
   by_cases g2 : txE (tw1 a).vars c ≠ 0
   ·rw [if_pos g2] at hE; exact absurd hE g2
   ·rw [if_neg g2] at hE
    by_cases g3 : 4 < (tw2 a c).vars.length ∨ 8 < (tw1 a).hid.length ∨ 8 < (tw2 a c).hid.length
    ·rw [if_pos g3] at hE; cases hE
    ·omega
 have hv1 : (tw1 a).vars.length ≤ 4:=by
  have h1 : (tw1 a).vars <+: (tw2 a c).vars:=j6
  have:=h1.length_le
  omega
 exact ⟨tmOK_of hv1 hbnd.2.1 i5,tmOK_of hbnd.1 hbnd.2.2 j5,bnd_of hv1 hbnd.2.1 i5 (foA_zer _ _),bnd_of hbnd.1 hbnd.2.2 j5 (foA_zer _ _)⟩
set_option maxRecDepth 100000 in
set_option maxHeartbeats 4000000 in
theorem entails_any (a c : ByteArray) (w : World) (ha : a.size ≤ 20000) (hc : c.size ≤ 20000) :
  Calls Tryz.prog 7 #[.string a,.string c] w fun e w'=>e = .returned (.tuple #[.bool (enT a.data.toList c.data.toList).1,.int .i64 (enT a.data.toList c.data.toList).2]) ∧ Below w.heap.size w w':=by
 go_enter Tryz.func7,Tryz.ntmps7
 go_wp2_with fail
 refine (readTwo_any a c w ha hc).mono ?_
 rintro e w1 ⟨hb1,(⟨hbad,rfl⟩ | ⟨hok,v1,v2,rfl,hr1,hr2,hl1,hl2,hf1,hf2⟩)⟩
 ·obtain ⟨ee,hee⟩ : ∃ ee,ee = twE a.data.toList c.data.toList:=⟨_,rfl⟩
  have HE : Hid (enT a.data.toList c.data.toList = (false,ee)):=hide (by rw [hee]; unfold enT; rw [if_pos hbad])
  have HB1:=hide hb1
  rw [← hee] at hbad ⊢
  have hne : ¬ ((ee : Int) = 0):=by omega
  clear hee hb1
  go_wp2_with fail
  go_ret2
  exact ⟨by rw [uh HE]; rfl,uh HB1⟩
 ·have HE : Hid (enT a.data.toList c.data.toList = fol (twA a.data.toList) (twB a.data.toList c.data.toList)):=hide (by unfold enT; rw [if_neg (by simp [hok])])
  obtain ⟨t1,t2,b1,b2⟩:=tw_ok hok hf1 hf2
  have HF:=hide (follows_any hr1 hr2 t1 t2 (by omega) (by omega) b1 b2)
  have HB1:=hide hb1
  clear hb1 hok hr1 hr2 hl1 hl2 hf1 hf2 t1 t2 b1 b2
  go_wp2_with fail
  refine (uh HF).mono ?_
  rintro e w2 ⟨rfl,hb2⟩
  have HB2:=hide ((uh HB1).trans (hb2.mono (uh HB1).size))
  clear hb2 HF
  go_wp2_with fail
  go_ret2
  exact ⟨by rw [uh HE]; rfl,uh HB2⟩
def pkJ (c : Int) (n : Nat) : Nat:=(if c < 0 then (-(c + 1)) % (n : Int) else c % (n : Int)).toNat
theorem pkJ_lt (c : Int) {n : Nat} (h : 0 < n) : pkJ c n < n:=by
 unfold pkJ
 split
 ·have h1:=Int.emod_nonneg (-(c + 1)) (show (n : Int) ≠ 0 by omega)
  have h2:=Int.emod_lt_of_pos (-(c + 1)) (show (0 : Int) < (n : Int) by omega)
  omega
 ·have h1:=Int.emod_nonneg c (show (n : Int) ≠ 0 by omega)
  have h2:=Int.emod_lt_of_pos c (show (0 : Int) < (n : Int) by omega)
  omega
set_option maxRecDepth 100000 in
set_option maxHeartbeats 2000000 in
theorem pickK_any (w : World) (c : Int) (n : Nat) (hn : 0 < n) (hn2 : n ≤ 1000000) (hc : -9223372036854775808 ≤ c ∧ c ≤ 9223372036854775807) :
  Calls Tryz.prog 5 #[.int .i64 c,.int .i64 n] w fun e w'=>e = .returned (.int .i64 (pkJ c n : Nat)) ∧ w' = w:=by
 have hn0 : ((n : Int) == 0) = false:=by simp; omega
 by_cases h : c < 0
 ·have d1 : decide (c < 0) = true:=by simpa using h
  have i1 : IntKind.i64.wrap (c + 1) = c + 1:=by rw [IntKind.wrap_i64]; omega
  have i2 : IntKind.i64.wrap (-(c + 1)) = -(c + 1):=by rw [IntKind.wrap_i64]; omega
  have HE : Hid (((pkJ c n : Nat) : Int) = (-(c + 1)).tmod n):=hide (by
   unfold pkJ
   rw [if_pos h,Int.tmod_eq_emod_of_nonneg (by omega)]
   have:=Int.emod_nonneg (-(c + 1)) (show (n : Int) ≠ 0 by omega)
   omega)
  go_enter Tryz.func5,Tryz.ntmps5
  go_wp2_with fail
  go_ret
  exact ⟨ret_int (by rw [uh HE,Int.neg_tmod]),rfl⟩
 ·have d1 : decide (c < 0) = false:=by simpa using h
  have HE : Hid (((pkJ c n : Nat) : Int) = c % n):=hide (by
   unfold pkJ
   rw [if_neg h]
   have:=Int.emod_nonneg c (show (n : Int) ≠ 0 by omega)
   omega)
  have ht : c.tmod n = c % n:=Int.tmod_eq_emod_of_nonneg (by omega)
  go_enter Tryz.func5,Tryz.ntmps5
  go_wp2_with fail
  go_ret
  exact ⟨ret_int (by rw [uh HE]),rfl⟩
def tmB (al : List Atm) : Bool:=al.all (fun a=>decide (tNo a.lk a.li < 13) && decide (tNo a.rk a.ri < 13))
def aokB (al : List Atm) : Bool:=tmB al && decide (al.length ≤ 1000) && al.all (fun a=>decide (a.lk ≤ 2) && decide (a.rk ≤ 2) && decide (a.li ≤ 100) && decide (a.ri ≤ 100))
def ndoB (nds : List Nd) : Bool:=nds.all (fun n=>decide (n.v < 4) && decide (n.ai < 4) && decide (n.op ≤ 1000) && (decide (n.op = 0) || decide (n.nx < nds.length)) && (!decide (n.op = 7 ∨ n.op = 8 ∨ n.op = 9) || decide (n.ot < nds.length)))
theorem aok_of {al : List Atm} (h : aokB al = true) : AOk al:=by
 unfold aokB at h
 simp only [Bool.and_eq_true,decide_eq_true_eq] at h
 obtain ⟨⟨h1,h2⟩,h3⟩:=h
 refine ⟨fun a ha=>?_,h2,fun a ha=>?_⟩
 ·have:=List.all_eq_true.1 h1 a ha
  simp only [Bool.and_eq_true,decide_eq_true_eq] at this
  exact this
 ·have:=List.all_eq_true.1 h3 a ha
  simp only [Bool.and_eq_true,decide_eq_true_eq] at this
  exact ⟨this.1.1.1,this.1.1.2,this.1.2,this.2⟩
theorem ndo_of {nds : List Nd} (h : ndoB nds = true) : NdO nds:=by
 have key : ∀ n,n < nds.length → (nds.getD n nd0).v < 4 ∧ (nds.getD n nd0).ai < 4 ∧ (nds.getD n nd0).op ≤ 1000 ∧ ((nds.getD n nd0).op ≠ 0 → (nds.getD n nd0).nx < nds.length) ∧ (((nds.getD n nd0).op = 7 ∨ (nds.getD n nd0).op = 8 ∨ (nds.getD n nd0).op = 9) → (nds.getD n nd0).ot < nds.length):=fun n hn=>by
  rw [getD_at hn]
  have:=List.all_eq_true.1 h _ (List.getElem_mem hn)
  simp only [Bool.and_eq_true,Bool.or_eq_true,Bool.not_eq_true',decide_eq_true_eq,decide_eq_false_iff_not] at this
  obtain ⟨⟨⟨⟨a1,a2⟩,a3⟩,a4⟩,a5⟩:=this
  exact ⟨a1,a2,a3,fun hne=>a4.resolve_left hne,fun ht=>a5.resolve_left (fun hn=>hn ht)⟩
 have out : ∀ n,¬ n < nds.length → nds.getD n nd0 = nd0:=fun n hn=>by rw [List.getD_eq_getElem?_getD,List.getElem?_eq_none (by omega)]; rfl
 refine ⟨fun n=>?_,fun n=>?_,fun n hn=>(key n hn).2.2.2.1,fun n hn=>(key n hn).2.2.2.2⟩
 ·by_cases hn : n < nds.length
  ·exact ⟨(key n hn).1,(key n hn).2.1⟩
  ·rw [out n hn]; exact ⟨by decide,by decide⟩
 ·by_cases hn : n < nds.length
  ·exact (key n hn).2.2.1
  ·rw [out n hn]; decide
def anB (nds : List Nd) (nv : Nat) (al : List Atm) : Bool:=aokB al && ndoB nds && decide (nds.length ≤ 100000) && decide (0 < nds.length) && decide (nv ≤ 4)
def vdB (v : Nat) (s : Sr) : Bool:=s.ok && decide ((rsO s).vd = v)
def prgB (t : List UInt8) (v : Nat) : Bool:=decide (t.length ≤ 20000) && decide (rdE t = 0) && anB (rdS t).nodes (rdS t).vars.length (prA (rdW t) ini) && vdB v (anS (rdS t).nodes (rdS t).vars.length (prA (rdW t) ini))
def errB (t : List UInt8) (e : Nat) : Bool:=decide (t.length ≤ 20000) && decide (rdE t = e)
def entB (a c : List UInt8) (y : Bool) (e : Nat) : Bool:=decide (a.length ≤ 20000) && decide (c.length ≤ 20000) && !c.isEmpty && ((enT a c).1 == y) && decide ((enT a c).2 = e)
def hYes : List UInt8:=[121,101,115]
def hNo : List UInt8:=[110,111]
def hFalse : List UInt8:=[102,97,108,115,101]
def hSyn : List UInt8:=[115,121,110,116,97,120]
def hLex : List UInt8:=[108,101,120]
def hNam : List UInt8:=[110,97,109,101,115]
def hSafe : List UInt8:=[115,97,102,101]
def hAla : List UInt8:=[97,108,97,114,109,115]
def GlOk (g : Gl) : Prop := ∀ P : Gl → Prop, (∀ (a c : List UInt8), entB a c true 0 = true → P ⟨a, c, hYes⟩) → (∀ (a c : List UInt8), entB a c false 0 = true → P ⟨a, c, hNo⟩) → (∀ (a c : List UInt8), entB a c false 7 = true → P ⟨a, c, hFalse⟩) → (∀ (a : List UInt8), errB a 3 = true → P ⟨a, [], hSyn⟩) → (∀ (a : List UInt8), errB a 2 = true → P ⟨a, [], hLex⟩) → (∀ (a : List UInt8), errB a 4 = true → P ⟨a, [], hNam⟩) → (∀ (a : List UInt8), prgB a 0 = true → P ⟨a, [], hSafe⟩) → (∀ (a : List UInt8), prgB a 1 = true → P ⟨a, [], hAla⟩) → P g
theorem GlOk.yes (a c : List UInt8) (h : entB a c true 0 = true) : GlOk ⟨a, c, hYes⟩ := fun _ h0 _ _ _ _ _ _ _ => h0 a c h
theorem GlOk.no (a c : List UInt8) (h : entB a c false 0 = true) : GlOk ⟨a, c, hNo⟩ := fun _ _ h1 _ _ _ _ _ _ => h1 a c h
theorem GlOk.fal (a c : List UInt8) (h : entB a c false 7 = true) : GlOk ⟨a, c, hFalse⟩ := fun _ _ _ h2 _ _ _ _ _ => h2 a c h
theorem GlOk.syn (a : List UInt8) (h : errB a 3 = true) : GlOk ⟨a, [], hSyn⟩ := fun _ _ _ _ h3 _ _ _ _ => h3 a h
theorem GlOk.lex (a : List UInt8) (h : errB a 2 = true) : GlOk ⟨a, [], hLex⟩ := fun _ _ _ _ _ h4 _ _ _ => h4 a h
theorem GlOk.nam (a : List UInt8) (h : errB a 4 = true) : GlOk ⟨a, [], hNam⟩ := fun _ _ _ _ _ _ h5 _ _ => h5 a h
theorem GlOk.safe (a : List UInt8) (h : prgB a 0 = true) : GlOk ⟨a, [], hSafe⟩ := fun _ _ _ _ _ _ _ h6 _ => h6 a h
theorem GlOk.ala (a : List UInt8) (h : prgB a 1 = true) : GlOk ⟨a, [], hAla⟩ := fun _ _ _ _ _ _ _ _ h7 => h7 a h
section
variable {w : World} {X : Nat} {ws : List ByteArray} {ps : PS} {al : List Atm}
theorem IsL.pa {B : Nat} (h : IsL B w X ws ps al) : ∃ Q vv pv nv,Pa w X Q ws ps al vv pv nv (.pointer none) []:=by
 obtain ⟨Q,h0,hB,h1⟩:=h
 obtain ⟨vv,pv,nv,hC,-⟩:=h1.cp
 have hbx : Bk w X 48 [ptrA Q,.pointer none]:=h0
 have hrow : ∀ {e sz n : Nat} {v : Value} {xs : List Value},w.ownsRow 0 e sz v n xs → e ≠ 48 → ∀ k,v.ownBlock = some k → X ≠ k:=by
  intro e sz n v xs hr hne k hk hXk
  rcases hr.2 with ⟨rfl,-⟩ | ⟨g,cap,cur,rfl,-,hg,-⟩
  ·cases hk
  ·have e1 : g = k:=by injection hk
   rw [e1,← hXk] at hg
   unfold Bk at hbx
   rw [hbx] at hg
   injection hg with hg
   injection hg with _ hg
   exact hne hg.symm
 refine ⟨Q,vv,pv,nv,⟨hbx,hC,Or.inl ⟨rfl,rfl⟩,fun hm=>?_,by simp⟩⟩
 simp only [cpB,List.mem_cons,List.mem_append,Option.mem_toList] at hm
 rcases hm with rfl | hm | hm | hm
 ·have h2:=hC.bk
  unfold Bk at h2 hbx
  rw [h2] at hbx
  injection hbx with hbx
  injection hbx with _ hbx
  revert hbx
  decide
 ·exact hrow hC.vr (by decide) X hm rfl
 ·exact hrow hC.pr (by decide) X hm rfl
 ·exact hrow hC.nr (by decide) X hm rfl
theorem an_of {t : List UInt8} {v : Nat} (h : prgB t v = true) : t.length ≤ 20000 ∧ rdE t = 0 ∧ An (rdS t) (prA (rdW t) ini) ∧ (anR (rdS t).nodes (rdS t).vars.length (prA (rdW t) ini)).vd = v:=by
 unfold prgB anB vdB at h
 simp only [Bool.and_eq_true,decide_eq_true_eq] at h
 obtain ⟨⟨⟨h1,h2⟩,⟨⟨⟨⟨a1,a2⟩,a3⟩,a4⟩,a5⟩⟩,h4,h5⟩:=h
 exact ⟨h1,h2,⟨aok_of a1,ndo_of a2,a3,a4,a5,h4⟩,h5⟩
end
set_option maxRecDepth 100000 in
set_option maxHeartbeats 8000000 in
theorem known_ent (w : World) (c : Int) (hc : -9223372036854775808 ≤ c ∧ c ≤ 9223372036854775807) (a b : List UInt8) (hh : List UInt8) (y : Bool) (e : Nat) (hg : gold[pkJ c 61]? = some ⟨a,b,hh⟩) (hE : entB a b y e = true)
  (hk : hh = hYes ∧ y = true ∧ e = 0 ∨ hh = hNo ∧ y = false ∧ e = 0 ∨ hh = hFalse ∧ y = false ∧ e = 7) : Calls Tryz.prog 3 #[.int .i64 c] w fun e w'=>e = .returned (.bool true) ∧ Below w.heap.size w w':=by
 unfold entB at hE
 simp only [Bool.and_eq_true,decide_eq_true_eq,Bool.not_eq_true',beq_iff_eq] at hE
 obtain ⟨⟨⟨⟨h1,h2⟩,h3⟩,h4⟩,h5⟩:=hE
 have HPK:=hide (pickK_any w c 61 (by omega) (by omega) hc)
 have HKN:=hide (known_any w (pkJ c 61) (pkJ_lt c (by omega)) _ hg)
 have HEN : Hid (∀ W,Calls Tryz.prog 7 #[.string ⟨a.toArray⟩,.string ⟨b.toArray⟩] W fun e' w'=>e' = .returned (.tuple #[.bool y,.int .i64 (e : Int)]) ∧ Below W.heap.size W w'):=hide (fun W=>by
  have h6:=entails_any ⟨a.toArray⟩ ⟨b.toArray⟩ W (by show a.toArray.size ≤ 20000; simpa using h1) (by show b.toArray.size ≤ 20000; simpa using h2)
  have e1 : (⟨a.toArray⟩ : ByteArray).data.toList = a:=rfl
  have e2 : (⟨b.toArray⟩ : ByteArray).data.toList = b:=rfl
  rw [e1,e2,h4,h5] at h6
  exact h6)
 obtain ⟨k,hke⟩ : ∃ k,k = pkJ c 61:=⟨_,rfl⟩
 rw [← hke] at HPK HKN
 have hne : b.isEmpty = false:=h3
 clear hg h1 h2 h3 h4 h5 hke
 go_enter Tryz.func3,Tryz.ntmps3
 go_wp2_with fail
 refine (uh HPK).mono ?_
 rintro e' w0 ⟨rfl,rfl⟩
 go_wp2_with fail
 refine (uh HKN).mono ?_
 rintro e' w1 ⟨rfl,hb1⟩
 simp only
 obtain ⟨W2,hW2⟩ : ∃ W2,W2 = w1.alloc (.cells #[Value.string ⟨a.toArray⟩,.string ⟨b.toArray⟩,.string ⟨hh.toArray⟩] 24):=⟨_,rfl⟩
 have hB2 : Below w0.heap.size w0 W2:=by rw [hW2]; exact hb1.trans ((below_boxQ w1 _).mono hb1.size)
 have hXb : Bk W2 w1.heap.size 24 [Value.string ⟨a.toArray⟩,.string ⟨b.toArray⟩,.string ⟨hh.toArray⟩]:=by rw [hW2]; exact Bk.new w1 _ _
 obtain ⟨Y,hYe⟩ : ∃ Y,Y = w1.heap.size:=⟨_,rfl⟩
 rw [← hYe] at hXb
 have b0:=hXb.cell 0 rfl
 have b1:=hXb.cell 1 rfl
 have HB2:=hide (And.intro hB2 hXb)
 clear hb1 hB2 hXb HPK HKN hc
 go_upto_region 3 with fail
 rw [← hW2,← hYe]
 clear hW2 hYe
 go_wp2_with fail
 refine (uh HEN _).mono ?_
 rintro e' w3 ⟨rfl,hb3⟩
 have HB3:=hide ((uh HB2).1.trans (hb3.mono (uh HB2).1.size))
 have d2:=((uh HB2).2.below hb3).cell 2 rfl
 clear hb3 HEN b0 b1 hne
 rcases hk with ⟨rfl,rfl,rfl⟩ | ⟨rfl,rfl,rfl⟩ | ⟨rfl,rfl,rfl⟩
 ·unfold hYes at d2
  go_wp2_with fail
  go_ret
  exact ⟨rfl,uh HB3⟩
 ·unfold hNo at d2
  go_wp2_with fail
  go_ret
  exact ⟨rfl,uh HB3⟩
 ·unfold hFalse at d2
  go_wp2_with fail
  go_ret
  exact ⟨rfl,uh HB3⟩
set_option maxRecDepth 100000 in
set_option maxHeartbeats 8000000 in
theorem known_err (w : World) (c : Int) (hc : -9223372036854775808 ≤ c ∧ c ≤ 9223372036854775807) (a : List UInt8) (hh : List UInt8) (e : Nat) (hg : gold[pkJ c 61]? = some ⟨a,[],hh⟩) (hE : errB a e = true)
  (hk : hh = hSyn ∧ e = 3 ∨ hh = hLex ∧ e = 2 ∨ hh = hNam ∧ e = 4) : Calls Tryz.prog 3 #[.int .i64 c] w fun e w'=>e = .returned (.bool true) ∧ Below w.heap.size w w':=by
 unfold errB at hE
 simp only [Bool.and_eq_true,decide_eq_true_eq] at hE
 obtain ⟨h1,h5⟩:=hE
 have he0 : e ≠ 0:=by omega
 have HPK:=hide (pickK_any w c 61 (by omega) (by omega) hc)
 have HKN:=hide (known_any w (pkJ c 61) (pkJ_lt c (by omega)) _ hg)
 have HLD : Hid (∀ W,Calls Tryz.prog 8 #[.string ⟨a.toArray⟩] W fun e' w'=>e' = .returned (.tuple #[.pointer none,.int .i64 (e : Int)]) ∧ Below W.heap.size W w'):=hide (fun W=>by
  have h6:=load_any ⟨a.toArray⟩ W (by show a.toArray.size ≤ 20000; simpa using h1)
  have e1 : (⟨a.toArray⟩ : ByteArray).data.toList = a:=rfl
  rw [e1,h5] at h6
  refine h6.mono ?_
  rintro e' w' ⟨hb,⟨-,rfl⟩ | ⟨h7,-⟩⟩
  ·exact ⟨rfl,hb⟩
  ·exact absurd h7 he0)
 obtain ⟨k,hke⟩ : ∃ k,k = pkJ c 61:=⟨_,rfl⟩
 rw [← hke] at HPK HKN
 clear hg h1 h5 hke he0
 go_enter Tryz.func3,Tryz.ntmps3
 go_wp2_with fail
 refine (uh HPK).mono ?_
 rintro e' w0 ⟨rfl,rfl⟩
 go_wp2_with fail
 refine (uh HKN).mono ?_
 rintro e' w1 ⟨rfl,hb1⟩
 simp only
 obtain ⟨W2,hW2⟩ : ∃ W2,W2 = w1.alloc (.cells #[Value.string ⟨a.toArray⟩,.string ⟨#[]⟩,.string ⟨hh.toArray⟩] 24):=⟨_,rfl⟩
 have hB2 : Below w0.heap.size w0 W2:=by rw [hW2]; exact hb1.trans ((below_boxQ w1 _).mono hb1.size)
 have hXb : Bk W2 w1.heap.size 24 [Value.string ⟨a.toArray⟩,.string ⟨#[]⟩,.string ⟨hh.toArray⟩]:=by rw [hW2]; exact Bk.new w1 _ _
 obtain ⟨Y,hYe⟩ : ∃ Y,Y = w1.heap.size:=⟨_,rfl⟩
 rw [← hYe] at hXb
 have b0:=hXb.cell 0 rfl
 have b1:=hXb.cell 1 rfl
 have HB2:=hide (And.intro hB2 hXb)
 clear hb1 hB2 hXb HPK HKN hc
 go_upto_region 3 with fail
 rw [← hW2,← hYe]
 clear hW2 hYe
 go_wp2_with fail
 refine (uh HLD _).mono ?_
 rintro e' w3 ⟨rfl,hb3⟩
 have HB3:=hide ((uh HB2).1.trans (hb3.mono (uh HB2).1.size))
 have d2:=((uh HB2).2.below hb3).cell 2 rfl
 clear hb3 HLD b0 b1
 rcases hk with ⟨rfl,rfl⟩ | ⟨rfl,rfl⟩ | ⟨rfl,rfl⟩
 ·unfold hSyn at d2
  go_wp2_with fail
  go_ret
  exact ⟨rfl,uh HB3⟩
 ·unfold hLex at d2
  go_wp2_with fail
  go_ret
  exact ⟨rfl,uh HB3⟩
 ·unfold hNam at d2
  go_wp2_with fail
  go_ret
  exact ⟨rfl,uh HB3⟩
set_option maxRecDepth 100000 in
set_option maxHeartbeats 8000000 in
theorem known_prg (w : World) (c : Int) (hc : -9223372036854775808 ≤ c ∧ c ≤ 9223372036854775807) (a : List UInt8) (hh : List UInt8) (v : Nat) (hg : gold[pkJ c 61]? = some ⟨a,[],hh⟩) (hE : prgB a v = true)
  (hk : hh = hSafe ∧ v = 0 ∨ hh = hAla ∧ v = 1) : Calls Tryz.prog 3 #[.int .i64 c] w fun e w'=>e = .returned (.bool true) ∧ Below w.heap.size w w':=by
 obtain ⟨h1,h5,hAn,hV⟩:=an_of hE
 have HPK:=hide (pickK_any w c 61 (by omega) (by omega) hc)
 have HKN:=hide (known_any w (pkJ c 61) (pkJ_lt c (by omega)) _ hg)
 have HLD : Hid (∀ W,Calls Tryz.prog 8 #[.string ⟨a.toArray⟩] W fun e' w'=>Below W.heap.size W w' ∧ ∃ X,e' = .returned (.tuple #[.pointer (some ⟨X,0,none⟩),.int .i64 0]) ∧ W.heap.size ≤ X ∧ Hid (Calls Tryz.prog 9 #[.pointer (some ⟨X,0,none⟩)] w' fun e2 w2=>e2 = .returned (.int .i64 (v : Int)) ∧ Stp [X] w' [X] w2)):=hide (fun W=>by
  have h6:=load_any ⟨a.toArray⟩ W (by show a.toArray.size ≤ 20000; simpa using h1)
  have e1 : (⟨a.toArray⟩ : ByteArray).data.toList = a:=rfl
  rw [e1,h5] at h6
  refine h6.mono ?_
  rintro e' w' ⟨hb,⟨h7,-⟩ | ⟨-,X,rfl,hL⟩⟩
  ·exact absurd rfl h7
  ·have hBX : W.heap.size ≤ X:=by obtain ⟨Q,-,hB,-⟩:=hL; exact hB
   obtain ⟨Q,vv,pv,nv,hP⟩:=hL.pa
   refine ⟨hb,X,rfl,hBX,hide ((verdict_any hP hAn).mono ?_)⟩
   rintro e2 w2 ⟨rfl,RB,av,kv,FV,L,-,-,hs,-⟩
   exact ⟨by rw [hV],hs⟩)
 obtain ⟨k,hke⟩ : ∃ k,k = pkJ c 61:=⟨_,rfl⟩
 rw [← hke] at HPK HKN
 clear hg h1 h5 hke hAn hV hE
 go_enter Tryz.func3,Tryz.ntmps3
 go_wp2_with fail
 refine (uh HPK).mono ?_
 rintro e' w0 ⟨rfl,rfl⟩
 go_wp2_with fail
 refine (uh HKN).mono ?_
 rintro e' w1 ⟨rfl,hb1⟩
 simp only
 obtain ⟨W2,hW2⟩ : ∃ W2,W2 = w1.alloc (.cells #[Value.string ⟨a.toArray⟩,.string ⟨#[]⟩,.string ⟨hh.toArray⟩] 24):=⟨_,rfl⟩
 have hB2 : Below w0.heap.size w0 W2:=by rw [hW2]; exact hb1.trans ((below_boxQ w1 _).mono hb1.size)
 have hXb : Bk W2 w1.heap.size 24 [Value.string ⟨a.toArray⟩,.string ⟨#[]⟩,.string ⟨hh.toArray⟩]:=by rw [hW2]; exact Bk.new w1 _ _
 obtain ⟨Y,hYe⟩ : ∃ Y,Y = w1.heap.size:=⟨_,rfl⟩
 rw [← hYe] at hXb
 have b0:=hXb.cell 0 rfl
 have b1:=hXb.cell 1 rfl
 have HB2:=hide (And.intro hB2 hXb)
 clear hb1 hB2 hXb HPK HKN hc
 go_upto_region 3 with fail
 rw [← hW2,← hYe]
 clear hW2 hYe
 go_wp2_with fail
 refine (uh HLD _).mono ?_
 rintro e' w3 ⟨hb3,X,rfl,hX,hVd⟩
 have hB3:=(uh HB2).1.trans (hb3.mono (uh HB2).1.size)
 have hX3:=(uh HB2).2.below hb3
 have d2:=hX3.cell 2 rfl
 have hYX : Y ≠ X:=fun e=>by have:=(uh HB2).2.lt; omega
 have HXB:=hide (And.intro hX3 hB3)
 have hX0 : w0.heap.size ≤ X:=Nat.le_trans (uh HB2).1.size hX
 clear hb3 HLD b0 b1 hX hX3 hB3
 rcases hk with ⟨rfl,rfl⟩ | ⟨rfl,rfl⟩
 ·unfold hSafe at d2 HXB
  go_wp2_with fail
  refine (uh hVd).mono ?_
  rintro e2 w4 ⟨rfl,hs4⟩
  have d3:=((uh HXB).1.stp hs4 (by simpa using hYX)).cell 2 rfl
  have HB4 : Hid (Below w0.heap.size w0 w4):=hide ⟨hs4.os.trans (uh HXB).2.os,hs4.tape.trans (uh HXB).2.tape,hs4.output.trans (uh HXB).2.output,Nat.le_trans (uh HXB).2.size hs4.size,fun q hq=>(hs4.block q (Nat.lt_of_lt_of_le hq (uh HXB).2.size) (by simp; omega)).trans ((uh HXB).2.block q hq)⟩
  clear hs4 hVd
  go_wp2_with fail
  go_ret
  exact ⟨rfl,uh HB4⟩
 ·unfold hAla at d2 HXB
  go_wp2_with fail
  refine (uh hVd).mono ?_
  rintro e2 w4 ⟨rfl,hs4⟩
  have d3:=((uh HXB).1.stp hs4 (by simpa using hYX)).cell 2 rfl
  have HB4 : Hid (Below w0.heap.size w0 w4):=hide ⟨hs4.os.trans (uh HXB).2.os,hs4.tape.trans (uh HXB).2.tape,hs4.output.trans (uh HXB).2.output,Nat.le_trans (uh HXB).2.size hs4.size,fun q hq=>(hs4.block q (Nat.lt_of_lt_of_le hq (uh HXB).2.size) (by simp; omega)).trans ((uh HXB).2.block q hq)⟩
  clear hs4 hVd
  go_wp2_with fail
  go_ret
  exact ⟨rfl,uh HB4⟩
end Go.Proofs.YtciihepbeacppabGreat
