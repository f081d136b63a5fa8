import Derived.Test.YtciihepbeacppaaMC
import Derived.Test.YtciihepbeacppaaMK
import Derived.Test.YtciihepbeacppaaMJ
import Derived.Test.YtciihepbeacppaaMD
namespace Go.Proofs.Ytciihepbeacppaa
open Go.RowKit

/-! ### names of a second text -/
def InvZ (z ws : List ByteArray) (s : PS) : Prop :=
  s.failed = false → dotB ws s.pos = false ∧ nmI z ws s.pos = s.vars.map one1 ∧ nmH ws s.pos = s.hid.map one1
def KeepZ (z ws : List ByteArray) (F : PS → PS) : Prop := ∀ s, InvZ z ws s → InvZ z ws (F s)
theorem iz_fail (z ws : List ByteArray) (s : PS) : InvZ z ws s.fail := fun h => (by cases h)
theorem nz_no {z ws : List ByteArray} {n : Nat} (hl : lowB (ws[n]?.getD em) = false) (hu : upB (ws[n]?.getD em) = false) : nmI z ws (n + 1) = nmI z ws n ∧ nmH ws (n + 1) = nmH ws n := by
  constructor
  · show addIf (lowB (ws[n]?.getD em) && !dotB ws n) _ _ = _; rw [hl]; rfl
  · show addIf (upB (ws[n]?.getD em)) _ _ = _; rw [hu]; rfl
theorem kz_adv {z ws : List ByteArray} {s : PS} {k : ByteArray} (h : InvZ z ws s) (ha : acB ws k s = true) (hl : lowB k = false) (hu : upB k = false) (hd : k ≠ dotW) : InvZ z ws s.adv := by
  intro hf
  have hf' : s.failed = false := hf
  have hk := (pk_of (ws := ws) hf').symm.trans (acB_pk ha)
  obtain ⟨_, h2, h3⟩ := h hf'
  have hn := nz_no (z := z) (ws := ws) (n := s.pos) (by rw [hk]; exact hl) (by rw [hk]; exact hu)
  refine ⟨?_, hn.1.trans h2, hn.2.trans h3⟩
  show eqW (ws[s.pos]?.getD em) dotW = false
  rw [hk]; exact eqW_ne hd
theorem kz_ex {z ws : List ByteArray} {k : ByteArray} (hl : lowB k = false) (hu : upB k = false) (hd : k ≠ dotW) : KeepZ z ws (exS ws k) := by
  intro s h
  unfold exS
  by_cases ha : acB ws k s = true
  · rw [if_pos ha]; exact kz_adv h ha hl hu hd
  · rw [if_neg ha]; exact iz_fail _ _ _
theorem kz_va {z ws : List ByteArray} : KeepZ z ws (vaS ws) := by
  intro s h
  unfold vaS
  by_cases hl : lowB (pk ws s) = true
  · rw [if_pos hl]
    intro hf
    have hf' : s.failed = false := hf
    obtain ⟨h1, h2, h3⟩ := h hf'
    have hk := pk_of (ws := ws) hf'
    rw [hk] at hl
    have ho := low_one hl
    refine ⟨?_, ?_, ?_⟩
    · show eqW (ws[s.pos]?.getD em) dotW = false
      exact eqW_ne (low_ne hl rfl)
    · show addIf (lowB (ws[s.pos]?.getD em) && !dotB ws s.pos) (nmI z ws s.pos) (ws[s.pos]?.getD em) = (put s.vars (hd0 (pk ws s))).map one1
      rw [h1, hl, h2, hk]
      conv => lhs; rw [ho]
      exact add_put _ _
    · show addIf (upB (ws[s.pos]?.getD em)) (nmH ws s.pos) _ = _
      rw [low_up _ hl]; exact h3
  · rw [if_neg hl]; exact iz_fail _ _ _
theorem kz_val {z ws : List ByteArray} : KeepZ z ws (valS ws) := by
  intro s h
  unfold valS
  by_cases ha : acB ws kNil s = true
  · rw [if_pos ha]; exact kz_adv h ha rfl rfl (data_ne (by simp [kNil, dotW]))
  · rw [if_neg ha]; exact kz_va s h
theorem kz_te {z ws : List ByteArray} : KeepZ z ws (teS ws) := by
  intro s h
  unfold teS
  by_cases hl : upB (pk ws s) = true
  · rw [if_pos hl]
    intro hf
    have hf' : s.failed = false := hf
    obtain ⟨h1, h2, h3⟩ := h hf'
    have hk := pk_of (ws := ws) hf'
    rw [hk] at hl
    have ho := up_one hl
    have hlo : lowB (ws[s.pos]?.getD em) = false := by
      cases hx : lowB (ws[s.pos]?.getD em) with
      | false => rfl
      | true => rw [low_up _ hx] at hl; cases hl
    refine ⟨?_, ?_, ?_⟩
    · show eqW (ws[s.pos]?.getD em) dotW = false
      exact eqW_ne (upB_ne hl rfl)
    · show addIf (lowB (ws[s.pos]?.getD em) && !dotB ws s.pos) (nmI z ws s.pos) (ws[s.pos]?.getD em) = _
      rw [hlo]; exact h2
    · show addIf (upB (ws[s.pos]?.getD em)) (nmH ws s.pos) (ws[s.pos]?.getD em) = (put s.hid (hd0 (pk ws s))).map one1
      rw [hl, h3, hk]
      conv => lhs; rw [ho]
      exact add_put _ _
  · rw [if_neg hl]; exact kz_val s h
theorem kz_ite {z ws : List ByteArray} {k : ByteArray} {A B : PS → PS} (hA : ∀ s, InvZ z ws s → acB ws k s = true → InvZ z ws (A s)) (hB : KeepZ z ws B) : KeepZ z ws (fun s => if acB ws k s then A s else B s) := by
  intro s h
  dsimp only
  by_cases ha : acB ws k s = true
  · rw [if_pos ha]; exact hA s h ha
  · rw [if_neg ha]; exact hB s h
theorem zOpen {z ws : List ByteArray} : KeepZ z ws (exS ws kOpen) := kz_ex rfl rfl (data_ne (by simp [kOpen, dotW]))
theorem zClose {z ws : List ByteArray} : KeepZ z ws (exS ws kClose) := kz_ex rfl rfl (data_ne (by simp [kClose, dotW]))
theorem zComma {z ws : List ByteArray} : KeepZ z ws (exS ws kComma) := kz_ex rfl rfl (data_ne (by simp [kComma, dotW]))
theorem zTo {z ws : List ByteArray} : KeepZ z ws (exS ws kTo) := kz_ex rfl rfl (data_ne (by simp [kTo, dotW]))
theorem zEq {z ws : List ByteArray} : KeepZ z ws (exS ws kEq) := kz_ex rfl rfl (data_ne (by simp [kEq, dotW]))
theorem kz_rel {z ws : List ByteArray} : KeepZ z ws (relS ws) :=
  kz_ite (fun _ h ha => kz_adv h ha rfl rfl (data_ne (by simp [kEq, dotW]))) (kz_ite (fun _ h ha => kz_adv h ha rfl rfl (data_ne (by simp [kNe, dotW]))) zTo)
theorem kz_li {z ws : List ByteArray} : KeepZ z ws (liS ws) := fun _ h => zClose _ (kz_te _ (zComma _ (kz_te _ (zOpen _ h))))
theorem kz_at {z ws : List ByteArray} : KeepZ z ws (atS ws) :=
  kz_ite (fun _ h ha => kz_adv h ha rfl rfl (data_ne (by simp [kEmp, dotW]))) (kz_ite (fun _ h ha => kz_li _ (kz_adv h ha rfl rfl (data_ne (by simp [kLs, dotW])))) (fun _ h => kz_te _ (kz_rel _ (kz_te _ h))))
theorem kz_foG {z ws : List ByteArray} (n : Nat) : KeepZ z ws (fun s => (foG ws n s).2) := by
  induction n with
  | zero => exact fun _ h => h
  | succ n ih =>
    intro s h
    simp only [foG]
    by_cases ha : acB ws kStar s = true
    · rw [if_pos ha]; exact ih _ (kz_at _ (kz_adv h ha rfl rfl (data_ne (by simp [kStar, dotW]))))
    · rw [if_neg ha]; exact h
theorem kz_fo {z ws : List ByteArray} : KeepZ z ws (foS ws) := fun s h => kz_foG (ws.length + 1) _ (kz_at s h)
end Go.Proofs.Ytciihepbeacppaa

namespace Go.Proofs.Ytciihepbeacppaa
open Go.RowKit

/-! ### the code's atoms by the reference's names -/
def tnm (vars hid : List UInt8) (k i : Nat) : ByteArray := if k = 1 then one1 (vars.getD i 0) else if k = 2 then one1 (hid.getD i 0) else nilW
def kwd (k : Nat) : ByteArray := if k = 1 then eqSW else if k = 2 then neSW else if k = 3 then toW else lsW
def nmA (vars hid : List UInt8) (a : Atm) : RAt := ⟨kwd a.k, tnm vars hid a.lk a.li, tnm vars hid a.rk a.ri⟩
/-- a term of these names -/
def Bnd (vars hid : List UInt8) (k i : Nat) : Prop := k ≤ 2 ∧ (k = 1 → i < vars.length) ∧ (k = 2 → i < hid.length)
def Gro (s s' : PS) : Prop := s.vars <+: s'.vars ∧ s.hid <+: s'.hid
theorem Gro.refl (s : PS) : Gro s s := ⟨List.prefix_refl _, List.prefix_refl _⟩
theorem Gro.trans {a b c : PS} (h : Gro a b) (h2 : Gro b c) : Gro a c := ⟨h.1.trans h2.1, h.2.trans h2.2⟩
theorem pre_get {l l' : List UInt8} (h : l <+: l') {i : Nat} (hi : i < l.length) : l'.getD i 0 = l.getD i 0 := by
  obtain ⟨t, rfl⟩ := h
  simp only [List.getD_eq_getElem?_getD]
  rw [List.getElem?_append_left hi]
theorem tnm_gro {s s' : PS} (h : Gro s s') {k i : Nat} (hb : Bnd s.vars s.hid k i) : tnm s'.vars s'.hid k i = tnm s.vars s.hid k i := by
  unfold tnm
  by_cases h1 : k = 1
  · rw [if_pos h1, if_pos h1, pre_get h.1 (hb.2.1 h1)]
  · rw [if_neg h1, if_neg h1]
    by_cases h2 : k = 2
    · rw [if_pos h2, if_pos h2, pre_get h.2 (hb.2.2 h2)]
    · rw [if_neg h2, if_neg h2]
theorem Bnd.gro {s s' : PS} (h : Gro s s') {k i : Nat} (hb : Bnd s.vars s.hid k i) : Bnd s'.vars s'.hid k i :=
  ⟨hb.1, fun h1 => Nat.lt_of_lt_of_le (hb.2.1 h1) h.1.length_le, fun h1 => Nat.lt_of_lt_of_le (hb.2.2 h1) h.2.length_le⟩
theorem put_pre (l : List UInt8) (c : UInt8) : l <+: put l c := by
  unfold put; split
  · exact List.prefix_append _ _
  · exact List.prefix_refl _
theorem plc_get {l : List UInt8} {c : UInt8} (h : plc l c < l.length) : l.getD (plc l c) 0 = c := by
  induction l with
  | nil => simp at h
  | cons a l ih =>
    have e : plc (a :: l) c = if a = c then 0 else plc l c + 1 := rfl
    rw [e] at h ⊢
    by_cases hc : a = c
    · rw [if_pos hc]; simpa using hc
    · rw [if_neg hc] at h ⊢
      simpa using ih (by simpa using h)
theorem put_get (l : List UInt8) (c : UInt8) : plc l c < (put l c).length ∧ (put l c).getD (plc l c) 0 = c := by
  have h1 := plc_le l c
  unfold put
  by_cases h : plc l c = l.length
  · rw [if_pos h, h]
    simp
  · rw [if_neg h]
    exact ⟨by omega, plc_get (by omega)⟩
theorem gro_ex (ws : List ByteArray) (k : ByteArray) (s : PS) : Gro s (exS ws k s) := by unfold exS; split <;> exact Gro.refl s
theorem gro_va (ws : List ByteArray) (s : PS) : Gro s (vaS ws s) := by
  unfold vaS; split
  · exact ⟨put_pre _ _, List.prefix_refl _⟩
  · exact Gro.refl s
theorem gro_val (ws : List ByteArray) (s : PS) : Gro s (valS ws s) := by
  unfold valS; split
  · exact Gro.refl s
  · exact gro_va ws s
theorem gro_te (ws : List ByteArray) (s : PS) : Gro s (teS ws s) := by
  unfold teS; split
  · exact ⟨List.prefix_refl _, put_pre _ _⟩
  · exact gro_val ws s
theorem gro_rel (ws : List ByteArray) (s : PS) : Gro s (relS ws s) := by
  unfold relS; split
  · exact Gro.refl s
  · split
    · exact Gro.refl s
    · exact gro_ex ws _ s
theorem gro_li (ws : List ByteArray) (s : PS) : Gro s (liS ws s) :=
  (gro_ex ws _ s).trans ((gro_te ws _).trans ((gro_ex ws _ _).trans ((gro_te ws _).trans (gro_ex ws _ _))))
theorem gro_at (ws : List ByteArray) (s : PS) : Gro s (atS ws s) := by
  unfold atS; split
  · exact Gro.refl s
  · split
    · exact gro_li ws s.adv
    · exact (gro_te ws s).trans ((gro_rel ws _).trans (gro_te ws _))
theorem gro_foG (ws : List ByteArray) (n : Nat) : ∀ s, Gro s (foG ws n s).2 := by
  induction n with
  | zero => intro s; exact Gro.refl s
  | succ n ih =>
    intro s
    simp only [foG]
    split
    · exact (gro_at ws s.adv).trans (ih _)
    · exact Gro.refl s
/-- a term has its word as its name -/
theorem te_nm {ws : List ByteArray} {s : PS} {x : ByteArray} {r : List ByteArray} (h : Rd ws s (x :: r)) (hx : nameB x = true) :
    tnm (teS ws s).vars (teS ws s).hid (teK ws s) (teI ws s) = x ∧ Bnd (teS ws s).vars (teS ws s).hid (teK ws s) (teI ws s) ∧ Rd ws (teS ws s) r := by
  have hrd : Rd ws (teS ws s) r := by
    have := par_te.ok s _ h
    rw [pTe_some.2 ⟨x, hx, rfl⟩] at this
    exact this
  have hpk := pk_rd h
  have hac : acB ws kNil s = eqW x kNil := acB_rd kNil_n h
  by_cases hu : upB x = true
  · have hK : teK ws s = 2 := by unfold teK; rw [hpk, if_pos hu]
    have hI : teI ws s = plc s.hid (hd0 x) := by unfold teI; rw [hpk, if_pos hu]
    have hS : (teS ws s).hid = put s.hid (hd0 x) := by unfold teS; rw [hpk, if_pos hu]
    have hp := put_get s.hid (hd0 x)
    refine ⟨?_, ?_, hrd⟩
    · rw [hK, hI, hS]
      unfold tnm
      rw [if_neg (by decide), if_pos rfl, hp.2]
      exact (up_one hu).symm
    · rw [hK, hI, hS]
      exact ⟨by omega, fun h => by omega, fun _ => hp.1⟩
  · have hK : teK ws s = valK ws s := by unfold teK; rw [hpk, if_neg hu]
    have hI : teI ws s = valI ws s := by unfold teI; rw [hpk, if_neg hu]
    have hS : teS ws s = valS ws s := by unfold teS; rw [hpk, if_neg hu]
    by_cases hn : eqW x kNil = true
    · have hK2 : valK ws s = 0 := by unfold valK; rw [hac, if_pos hn]
      have hI2 : valI ws s = 0 := by unfold valI; rw [hac, if_pos hn]
      refine ⟨?_, ?_, hrd⟩
      · rw [hK, hI, hK2, hI2]
        unfold tnm
        rw [if_neg (by decide), if_neg (by decide)]
        exact (eqW_iff.1 hn).symm
      · rw [hK, hI, hK2, hI2]
        exact ⟨by omega, fun h => by omega, fun h => by omega⟩
    · have hl : lowB x = true := by
        simp only [nameB, Bool.or_eq_true] at hx
        rcases hx with (hx | hx) | hx
        · exact absurd hx hn
        · exact hx
        · exact absurd hx hu
      have hK2 : valK ws s = 1 := by unfold valK; rw [hac, if_neg hn]
      have hI2 : valI ws s = plc s.vars (hd0 x) := by unfold valI; rw [hac, if_neg hn]; unfold vaI; rw [hpk, if_pos hl]
      have hS2 : (teS ws s).vars = put s.vars (hd0 x) := by rw [hS]; unfold valS; rw [hac, if_neg hn]; unfold vaS; rw [hpk, if_pos hl]
      have hp := put_get s.vars (hd0 x)
      refine ⟨?_, ?_, hrd⟩
      · rw [hK, hI, hK2, hI2, hS2]
        unfold tnm
        rw [if_pos rfl, hp.2]
        exact (low_one hl).symm
      · rw [hK, hI, hK2, hI2, hS2]
        exact ⟨by omega, fun _ => hp.1, fun h => by omega⟩
theorem rel_nm {ws : List ByteArray} {s : PS} {x : ByteArray} {r : List ByteArray} (h : Rd ws s (x :: r)) (hx : (eqW x eqSW || eqW x neSW || eqW x toW) = true) :
    kwd (relK ws s) = x ∧ (1 ≤ relK ws s ∧ relK ws s ≤ 3) ∧ Rd ws (relS ws s) r := by
  have hrd : Rd ws (relS ws s) r := by
    have := par_rel.ok s _ h
    rw [pRel_some.2 ⟨x, hx, rfl⟩] at this
    exact this
  have h1 : acB ws kEq s = eqW x kEq := acB_rd kEq_n h
  have h2 : acB ws kNe s = eqW x kNe := acB_rd kNe_n h
  by_cases e1 : eqW x kEq = true
  · have : relK ws s = 1 := by unfold relK; rw [h1, if_pos e1]
    rw [this]
    exact ⟨(eqW_iff.1 e1).symm, by omega, hrd⟩
  · by_cases e2 : eqW x kNe = true
    · have : relK ws s = 2 := by unfold relK; rw [h1, if_neg e1, h2, if_pos e2]
      rw [this]
      exact ⟨(eqW_iff.1 e2).symm, by omega, hrd⟩
    · have : relK ws s = 3 := by unfold relK; rw [h1, if_neg e1, h2, if_neg e2]
      rw [this]
      simp only [Bool.or_eq_true] at hx
      rcases hx with (hx | hx) | hx
      · exact absurd hx e1
      · exact absurd hx e2
      · exact ⟨(eqW_iff.1 hx).symm, by omega, hrd⟩
theorem ex_rd {ws : List ByteArray} {s : PS} {k : ByteArray} {r : List ByteArray} (hk : k.toList ≠ []) (h : Rd ws s (k :: r)) : Rd ws (exS ws k s) r := by
  have := (par_ex (ws := ws) hk).ok s _ h
  rw [pEx_self] at this
  exact this
/-- the atom's terms are these states' names -/
def AtOK (vars hid : List UInt8) (a : Atm) : Prop := a.k ≤ 4 ∧ Bnd vars hid a.lk a.li ∧ Bnd vars hid a.rk a.ri
def nmL (vars hid : List UInt8) (l : List Atm) : List RAt := (l.filter (fun a => a.k != 0)).map (nmA vars hid)
theorem at_nm {ws : List ByteArray} {s : PS} {p q : List ByteArray} (h : Rd ws s (p ++ q)) (hp : raB p = true) :
    pce p = nmL (atS ws s).vars (atS ws s).hid [atA ws s] ∧ AtOK (atS ws s).vars (atS ws s).hid (atA ws s) ∧ Rd ws (atS ws s) q := by
  have hrd : Rd ws (atS ws s) q := by
    have := par_atom.ok s _ h
    rw [pAtom_some.2 ⟨p, hp, rfl⟩] at this
    exact this
  match p, hp with
  | [a], hp =>
    have ea : a = empW := eqW_iff.1 (show eqW a empW = true from hp)
    subst ea
    have hac : acB ws kEmp s = true := by
      rw [acB_rd kEmp_n h]; exact eqW_rfl _
    have hA : atA ws s = ⟨0, 0, 0, 0, 0⟩ := by unfold atA; rw [if_pos hac]
    rw [hA]
    exact ⟨rfl, ⟨by show 0 ≤ 4; omega, ⟨by show 0 ≤ 2; omega, fun h => (by cases h), fun h => (by cases h)⟩, ⟨by show 0 ≤ 2; omega, fun h => (by cases h), fun h => (by cases h)⟩⟩, hrd⟩
  | [a, b, c], hp =>
    simp only [raB, Bool.and_eq_true] at hp
    obtain ⟨⟨ha, hc⟩, hb⟩ := hp
    have h' : Rd ws s (a :: b :: c :: q) := h
    have hne : acB ws kEmp s = false := by
      rw [acB_rd kEmp_n h']; exact eqW_ne (name_out ha (data_ne (by simp [kEmp, nilW])) rfl rfl)
    have hnl : acB ws kLs s = false := by
      rw [acB_rd kLs_n h']; exact eqW_ne (name_out ha (data_ne (by simp [kLs, nilW])) rfl rfl)
    obtain ⟨t1, t2, t3⟩ := te_nm h' ha
    obtain ⟨r1, r2, r3⟩ := rel_nm t3 hb
    obtain ⟨u1, u2, u3⟩ := te_nm r3 hc
    have hA : atA ws s = ⟨relK ws (teS ws s), teK ws s, teI ws s, teK ws (relS ws (teS ws s)), teI ws (relS ws (teS ws s))⟩ := by
      unfold atA; rw [if_neg (by rw [hne]; simp), if_neg (by rw [hnl]; simp)]
    have hS : atS ws s = teS ws (relS ws (teS ws s)) := by
      unfold atS; rw [if_neg (by rw [hne]; simp), if_neg (by rw [hnl]; simp)]
    have hg : Gro (teS ws s) (teS ws (relS ws (teS ws s))) := (gro_rel ws _).trans (gro_te ws _)
    refine ⟨?_, ?_, hrd⟩
    · rw [hA, hS]
      have hk : ((relK ws (teS ws s)) != 0) = true := by rw [bne_iff_ne]; omega
      simp only [nmL, List.filter_cons, hk, if_true, List.filter_nil, List.map_cons, List.map_nil]
      show [(⟨b, a, c⟩ : RAt)] = [⟨_, _, _⟩]
      rw [r1, tnm_gro hg t2, t1, u1]
    · rw [hA, hS]
      exact ⟨by show relK ws (teS ws s) ≤ 4; omega, t2.gro hg, u2⟩
  | [a, b, c, d, e, f], hp =>
    simp only [raB, Bool.and_eq_true, eqW_iff] at hp
    obtain ⟨⟨⟨⟨rfl, rfl⟩, rfl⟩, rfl⟩, hc, he⟩ := hp
    have h' : Rd ws s (lsW :: opW :: c :: cmW :: e :: clW :: q) := h
    have hne : acB ws kEmp s = false := by
      rw [acB_rd kEmp_n h']; exact eqW_ne (data_ne (by simp [kEmp, lsW]))
    have hnl : acB ws kLs s = true := by
      rw [acB_rd kLs_n h']; exact eqW_rfl _
    have h1 := adv_rd h'
    have h2 : Rd ws (liS1 ws s.adv) (c :: cmW :: e :: clW :: q) := ex_rd kOpen_n h1
    obtain ⟨t1, t2, t3⟩ := te_nm h2 hc
    have h3 : Rd ws (liS2 ws s.adv) (e :: clW :: q) := ex_rd kComma_n t3
    obtain ⟨u1, u2, u3⟩ := te_nm h3 he
    have hA : atA ws s = liA ws s.adv := by unfold atA; rw [if_neg (by rw [hne]; simp), if_pos hnl]
    have hS : atS ws s = liS ws s.adv := by unfold atS; rw [if_neg (by rw [hne]; simp), if_pos hnl]
    have hg2 : Gro (teS ws (liS2 ws s.adv)) (liS ws s.adv) := gro_ex ws _ _
    have hg : Gro (teS ws (liS1 ws s.adv)) (liS ws s.adv) := (gro_ex ws kComma _).trans ((gro_te ws _).trans hg2)
    refine ⟨?_, ?_, hrd⟩
    · rw [hA, hS]
      show [(⟨lsW, c, e⟩ : RAt)] = [⟨kwd 4, tnm _ _ (teK ws (liS1 ws s.adv)) (teI ws (liS1 ws s.adv)), tnm _ _ (teK ws (liS2 ws s.adv)) (teI ws (liS2 ws s.adv))⟩]
      rw [tnm_gro hg t2, t1, tnm_gro hg2 u2, u1]
      rfl
    · rw [hA, hS]
      exact ⟨Nat.le_refl 4, t2.gro hg, u2.gro hg2⟩
theorem nmL_app (vars hid : List UInt8) (a b : List Atm) : nmL vars hid (a ++ b) = nmL vars hid a ++ nmL vars hid b := by simp [nmL]
theorem nmL_gro {s s' : PS} (h : Gro s s') {l : List Atm} (hl : ∀ a ∈ l, AtOK s.vars s.hid a) : nmL s'.vars s'.hid l = nmL s.vars s.hid l := by
  unfold nmL
  apply List.map_congr_left
  intro a ha
  have := hl a (List.mem_filter.1 ha).1
  unfold nmA
  rw [tnm_gro h this.2.1, tnm_gro h this.2.2]
theorem AtOK.gro {s s' : PS} (h : Gro s s') {a : Atm} (ha : AtOK s.vars s.hid a) : AtOK s'.vars s'.hid a := ⟨ha.1, ha.2.1.gro h, ha.2.2.gro h⟩
/-- the code's atoms are the reference's -/
theorem fo_nm {ws : List ByteArray} {f : List ByteArray} (hf : Fm f) : ∀ {n : Nat} {s : PS} {q : List ByteArray}, Rd ws s (f ++ q) → f.length ≤ n → hdB starW q = false →
    ∃ al, rfo [] f = some al ∧ al = nmL (foG ws n (atS ws s)).2.vars (foG ws n (atS ws s)).2.hid (atA ws s :: (foG ws n (atS ws s)).1) ∧ ∀ a ∈ atA ws s :: (foG ws n (atS ws s)).1, AtOK (foG ws n (atS ws s)).2.vars (foG ws n (atS ws s)).2.hid a := by
  induction hf using Fm.ind with
  | @one p hp =>
    intro n s q h hn hq
    obtain ⟨h1, h2, h3⟩ := at_nm h hp
    have e : foG ws n (atS ws s) = ([], atS ws s) := by
      cases n with
      | zero => rfl
      | succ n => simp only [foG]; rw [acB_rd kStar_n h3, show hdB kStar q = false from hq, if_neg (by simp)]
    rw [e]
    refine ⟨pce p, ?_, h1, fun a ha => ?_⟩
    · have := rfo_run (atom_star hp) [] []
      rw [List.append_nil] at this
      rw [this]
      simp only [rfo, List.nil_append, if_pos hp]
    · simp only [List.mem_singleton] at ha
      subst ha; exact h2
  | @more p r hp _ ih =>
    intro n s q h hn hq
    rw [List.append_assoc] at h
    obtain ⟨h1, h2, h3⟩ := at_nm h hp
    have h3' : Rd ws (atS ws s) (starW :: (r ++ q)) := h3
    simp only [List.length_append, List.length_cons] at hn
    cases n with
    | zero => omega
    | succ n =>
      have e : foG ws (n + 1) (atS ws s) = (atA ws (atS ws s).adv :: (foG ws n (atS ws (atS ws s).adv)).1, (foG ws n (atS ws (atS ws s).adv)).2) := by
        simp only [foG]; rw [acB_rd kStar_n h3', show hdB kStar (starW :: (r ++ q)) = true from eqW_rfl _, if_pos rfl]
      obtain ⟨al, g1, g2, g3⟩ := ih (n := n) (adv_rd h3') (by omega) hq
      rw [e]
      have hg : Gro (atS ws s) (foG ws n (atS ws (atS ws s).adv)).2 := (gro_at ws (atS ws s).adv).trans (gro_foG ws n _)
      refine ⟨pce p ++ al, ?_, ?_, fun a ha => ?_⟩
      · rw [rfo_run (atom_star hp)]
        simp only [rfo, List.nil_append, eqW_rfl, if_true, if_pos hp, g1]
        rfl
      · rw [show atA ws s :: (atA ws (atS ws s).adv :: (foG ws n (atS ws (atS ws s).adv)).1) = [atA ws s] ++ (atA ws (atS ws s).adv :: (foG ws n (atS ws (atS ws s).adv)).1) from rfl, nmL_app, ← g2, h1]
        rw [nmL_gro hg (fun a ha => by simp only [List.mem_singleton] at ha; subst ha; exact h2)]
      · rcases List.mem_cons.1 ha with rfl | ha
        · exact h2.gro hg
        · exact g3 a ha
end Go.Proofs.Ytciihepbeacppaa

namespace Go.Proofs.Ytciihepbeacppaa
open Go.RowKit

/-! ### letters -/
structure Ltr (s : PS) : Prop where
  nv : s.vars.Nodup
  nh : s.hid.Nodup
  lv : ∀ c ∈ s.vars, lowB (one1 c) = true
  lh : ∀ c ∈ s.hid, upB (one1 c) = true
theorem plc_mem {l : List UInt8} {c : UInt8} (h : c ∈ l) : plc l c < l.length := by
  induction l with
  | nil => cases h
  | cons a l ih =>
    show (if a = c then 0 else plc l c + 1) < _
    by_cases e : a = c
    · rw [if_pos e]; simp
    · rw [if_neg e]
      rcases List.mem_cons.1 h with h | h
      · exact absurd h.symm e
      · have := ih h; simp; omega
theorem put_mem {l : List UInt8} {c x : UInt8} (h : x ∈ put l c) : x ∈ l ∨ x = c := by
  unfold put at h
  split at h
  · rcases List.mem_append.1 h with h | h
    · exact Or.inl h
    · exact Or.inr (by simpa using h)
  · exact Or.inl h
theorem put_nodup {l : List UInt8} {c : UInt8} (h : l.Nodup) : (put l c).Nodup := by
  unfold put
  split
  · rename_i he
    rw [List.nodup_append]
    refine ⟨h, by simp, fun a ha b hb => ?_⟩
    simp only [List.mem_singleton] at hb
    subst hb
    rintro rfl
    have := plc_mem ha
    omega
  · exact h
theorem plc_idx {l : List UInt8} (h : l.Nodup) {i : Nat} (hi : i < l.length) : plc l (l.getD i 0) = i := by
  induction l generalizing i with
  | nil => simp at hi
  | cons a l ih =>
    have hn := List.nodup_cons.1 h
    cases i with
    | zero => show (if a = a then 0 else _) = 0; rw [if_pos rfl]
    | succ i =>
      have hi' : i < l.length := by simpa using hi
      show (if a = l.getD i 0 then 0 else plc l (l.getD i 0) + 1) = i + 1
      rw [if_neg, ih hn.2 hi']
      rintro rfl
      apply hn.1
      have : l.getD i 0 = l[i] := by simp [hi']
      rw [this]; exact List.getElem_mem hi'
theorem ltr_ex {ws : List ByteArray} {k : ByteArray} {s : PS} (h : Ltr s) : Ltr (exS ws k s) := by unfold exS; split <;> exact ⟨h.nv, h.nh, h.lv, h.lh⟩
theorem ltr_va {ws : List ByteArray} {s : PS} (h : Ltr s) : Ltr (vaS ws s) := by
  unfold vaS; split
  · rename_i hl
    refine ⟨put_nodup h.nv, h.nh, fun c hc => ?_, h.lh⟩
    rcases put_mem hc with hc | rfl
    · exact h.lv c hc
    · rw [← low_one hl]; exact hl
  · exact ⟨h.nv, h.nh, h.lv, h.lh⟩
theorem ltr_val {ws : List ByteArray} {s : PS} (h : Ltr s) : Ltr (valS ws s) := by
  unfold valS; split
  · exact ⟨h.nv, h.nh, h.lv, h.lh⟩
  · exact ltr_va h
theorem ltr_te {ws : List ByteArray} {s : PS} (h : Ltr s) : Ltr (teS ws s) := by
  unfold teS; split
  · rename_i hl
    refine ⟨h.nv, put_nodup h.nh, h.lv, fun c hc => ?_⟩
    rcases put_mem hc with hc | rfl
    · exact h.lh c hc
    · rw [← up_one hl]; exact hl
  · exact ltr_val h
theorem ltr_rel {ws : List ByteArray} {s : PS} (h : Ltr s) : Ltr (relS ws s) := by
  unfold relS; split
  · exact ⟨h.nv, h.nh, h.lv, h.lh⟩
  · split
    · exact ⟨h.nv, h.nh, h.lv, h.lh⟩
    · exact ltr_ex h
theorem ltr_at {ws : List ByteArray} {s : PS} (h : Ltr s) : Ltr (atS ws s) := by
  unfold atS; split
  · exact ⟨h.nv, h.nh, h.lv, h.lh⟩
  · split
    · have h1 : Ltr s.adv := ⟨h.nv, h.nh, h.lv, h.lh⟩
      exact ltr_ex (ltr_te (ltr_ex (ltr_te (ltr_ex h1))))
    · exact ltr_te (ltr_rel (ltr_te h))
theorem ltr_foG {ws : List ByteArray} (n : Nat) : ∀ {s : PS}, Ltr s → Ltr (foG ws n s).2 := by
  induction n with
  | zero => intro s h; exact h
  | succ n ih =>
    intro s h
    simp only [foG]
    split
    · exact ih (ltr_at ⟨h.nv, h.nh, h.lv, h.lh⟩)
    · exact h
theorem ltr_fo {ws : List ByteArray} {s : PS} (h : Ltr s) : Ltr (foS ws s) := ltr_foG _ (ltr_at h)

/-! ### terms by their numbers -/
def nmT (vars hid : List UInt8) (t : Nat) : ByteArray := if t = 0 then nilW else if t < 5 then one1 (vars.getD (t - 1) 0) else one1 (hid.getD (t - 5) 0)
theorem nmT_of {vars hid : List UInt8} (hv : vars.length ≤ 4) {k i : Nat} (hb : Bnd vars hid k i) : nmT vars hid (tNo k i) = tnm vars hid k i := by
  unfold nmT tnm tNo
  by_cases h1 : k = 1
  · have := hb.2.1 h1
    rw [if_pos h1, if_pos h1, if_neg (by omega), if_pos (by omega)]
    rw [show 1 + i - 1 = i by omega]
  · rw [if_neg h1, if_neg h1]
    by_cases h2 : k = 2
    · rw [if_pos h2, if_pos h2, if_neg (by omega), if_neg (by omega)]
      rw [show 5 + i - 5 = i by omega]
    · rw [if_neg h2, if_neg h2, if_pos rfl]
theorem tNo_lt {vars hid : List UInt8} (hv : vars.length ≤ 4) (hh : hid.length ≤ 8) {k i : Nat} (hb : Bnd vars hid k i) : tNo k i < 13 := by
  unfold tNo
  by_cases h1 : k = 1
  · have := hb.2.1 h1; rw [if_pos h1]; omega
  · rw [if_neg h1]
    by_cases h2 : k = 2
    · have := hb.2.2 h2; rw [if_pos h2]; omega
    · rw [if_neg h2]; omega
theorem tmOK_of {vars hid : List UInt8} (hv : vars.length ≤ 4) (hh : hid.length ≤ 8) {al : List Atm} (ha : ∀ a ∈ al, AtOK vars hid a) : TmOK al :=
  fun a h => ⟨tNo_lt hv hh (ha a h).2.1, tNo_lt hv hh (ha a h).2.2⟩
theorem to_eq : eqW toW eqSW = false := eqW_ne (data_ne (by simp [toW, eqSW]))
theorem kwd_eq {k : Nat} (h : k ≤ 4) (h0 : k ≠ 0) : (eqW (kwd k) eqSW = true ↔ k = 1) ∧ (eqW (kwd k) toW = true ↔ k = 3) ∧ ((eqW (kwd k) toW || eqW (kwd k) lsW) = true ↔ (k = 3 ∨ k = 4)) := by
  have n1 : eqW neSW eqSW = false := eqW_ne (data_ne (by simp [neSW, eqSW]))
  have n2 : eqW lsW eqSW = false := eqW_ne (data_ne (by simp [lsW, eqSW]))
  have n3 : eqW eqSW toW = false := eqW_ne (data_ne (by simp [toW, eqSW]))
  have n4 : eqW neSW toW = false := eqW_ne (data_ne (by simp [toW, neSW]))
  have n5 : eqW lsW toW = false := eqW_ne (data_ne (by simp [toW, lsW]))
  have n6 : eqW eqSW lsW = false := eqW_ne (data_ne (by simp [lsW, eqSW]))
  have n7 : eqW neSW lsW = false := eqW_ne (data_ne (by simp [lsW, neSW]))
  have n8 : eqW toW lsW = false := eqW_ne (data_ne (by simp [lsW, toW]))
  have hk : k = 1 ∨ k = 2 ∨ k = 3 ∨ k = 4 := by omega
  rcases hk with rfl | rfl | rfl | rfl
  · simp [kwd, eqW_rfl, n3, n6]
  · simp [kwd, n1, n4, n7]
  · simp [kwd, to_eq, eqW_rfl]
  · simp [kwd, n2, n5, eqW_rfl]
theorem nmL_pl {vars hid : List UInt8} {al : List Atm} (ha : ∀ a ∈ al, AtOK vars hid a) : (nmL vars hid al).filter plB = (al.filter (fun a => a.k == 3 || a.k == 4)).map (nmA vars hid) := by
  unfold nmL
  rw [List.filter_map, List.filter_filter]
  congr 1
  apply List.filter_congr
  intro a h
  by_cases h0 : a.k = 0
  · simp [h0]
  · have h1 : (a.k != 0) = true := by rw [bne_iff_ne]; exact h0
    rw [h1, Bool.and_true]
    have := (kwd_eq (ha a h).1 h0).2.2
    show (eqW (kwd a.k) toW || eqW (kwd a.k) lsW) = _
    rw [Bool.eq_iff_iff, this]
    simp
/-- cells by names and by numbers -/
theorem sp_num {ad nx : List Int} {vars hid : List UInt8} (hv : vars.length ≤ 4) {σ : ByteArray → Int} {s : Nat → Int} : ∀ {L : List Atm} {fr : List Bool}, (∀ a ∈ L, AtOK vars hid a ∧ (a.k = 3 ∨ a.k = 4) ∧ σ (nmT vars hid (tm a).l) = s (tm a).l ∧ σ (nmT vars hid (tm a).r) = s (tm a).r) → (Sp ad nx σ (L.map (nmA vars hid)) fr ↔ SpC ad nx s (L.map tm) fr) := by
  intro L
  induction L with
  | nil => intro fr _; exact Iff.rfl
  | cons a L ih =>
    intro fr h
    obtain ⟨h1, h2, h3, h4⟩ := h a (by simp)
    have hk := (kwd_eq h1.1 (by omega)).2.1
    have e1 : (nmA vars hid a).a = nmT vars hid (tm a).l := (nmT_of hv h1.2.1).symm
    have e2 : (nmA vars hid a).b = nmT vars hid (tm a).r := (nmT_of hv h1.2.2).symm
    have ihh := fun fr => ih (fr := fr) (fun b hb => h b (by simp [hb]))
    constructor
    · rintro ⟨p, fr', g1, g2, g3, g4⟩
      rw [e1, e2, h3, h4] at g1
      exact ⟨p, fr', g1, g2, fun hne => g3 (hk.2 (by rcases h2 with h | h; exact h; exact absurd h hne)), (ihh fr').1 g4⟩
    · rintro ⟨p, fr', g1, g2, g3, g4⟩
      refine ⟨p, fr', by rw [e1, e2, h3, h4]; exact g1, g2, fun hto => g3 ?_, (ihh fr').2 g4⟩
      have := hk.1 hto
      show a.k ≠ 4
      omega
theorem evA_var {vars : List UInt8} (hn : vars.Nodup) {vs : List Int} {i : Nat} (hi : i < vars.length) (hlow : lowB (one1 (vars.getD i 0)) = true) : evA (vars.map one1) vs (one1 (vars.getD i 0)) = some (vs.getD i 0) := by
  unfold evA
  rw [if_neg (by rw [eqW_ne (low_ne hlow rfl)]; simp), fnd_plc, plc_idx hn hi, if_pos (by simpa using hi)]
/-- a formula that holds gives its terms values -/
theorem hold_at {ad nx : List Int} (hd : ad.Nodup) {s : PS} (hs : Ltr s) (hv : s.vars.length ≤ 4) {vs : List Int} (hl : vs.length = s.vars.length) {al : List Atm} (ha : ∀ a ∈ al, AtOK s.vars s.hid a) (hnm : NmOK (nmL s.vars s.hid al))
    (h : hold ad nx (s.vars.map one1) vs (nmL s.vars s.hid al) = true) : ∃ σ, AtH ad nx σ al ∧ ∀ i, i < s.vars.length → σ (1 + i) = vs.getD i 0 := by
  obtain ⟨σ, h1, h2, h3⟩ := (hold_iff hd (by simpa using hl.symm) hnm).1 h
  refine ⟨fun t => σ (nmT s.vars s.hid t), ⟨?_, fun a haa hk => ?_, fun a haa hk => ?_, ?_⟩, fun i hi => ?_⟩
  · show σ nilW = 0
    exact h1 _ _ (by unfold evA; rw [if_pos (eqW_rfl _)])
  · have hA := ha a haa
    have hm : nmA s.vars s.hid a ∈ (nmL s.vars s.hid al).filter (fun a => !plB a) := by
      refine List.mem_filter.2 ⟨List.mem_map.2 ⟨a, List.mem_filter.2 ⟨haa, by simp [hk]⟩, rfl⟩, ?_⟩
      have := (kwd_eq hA.1 (by omega)).2.2
      have h5 : plB (nmA s.vars s.hid a) = false := by
        cases hx : plB (nmA s.vars s.hid a) with
        | false => rfl
        | true => have := this.1 hx; omega
      rw [h5]; rfl
    have := (h2 _ hm).2 ((kwd_eq hA.1 (by omega)).1.2 hk)
    show σ (nmT _ _ (tNo a.lk a.li)) = σ (nmT _ _ (tNo a.rk a.ri))
    rw [nmT_of hv hA.2.1, nmT_of hv hA.2.2]
    exact this
  · have hA := ha a haa
    have hm : nmA s.vars s.hid a ∈ (nmL s.vars s.hid al).filter (fun a => !plB a) := by
      refine List.mem_filter.2 ⟨List.mem_map.2 ⟨a, List.mem_filter.2 ⟨haa, by simp [hk]⟩, rfl⟩, ?_⟩
      have := (kwd_eq hA.1 (by omega)).2.2
      have h5 : plB (nmA s.vars s.hid a) = false := by
        cases hx : plB (nmA s.vars s.hid a) with
        | false => rfl
        | true => have := this.1 hx; omega
      rw [h5]; rfl
    show σ (nmT _ _ (tNo a.lk a.li)) ≠ σ (nmT _ _ (tNo a.rk a.ri))
    rw [nmT_of hv hA.2.1, nmT_of hv hA.2.2]
    intro e
    have := (kwd_eq hA.1 (by omega)).1.1 ((h2 _ hm).1 e)
    omega
  · rw [nmL_pl ha] at h3
    exact (sp_num hv (fun a haa => ⟨ha a (List.mem_filter.1 haa).1, by simpa using (List.mem_filter.1 haa).2, rfl, rfl⟩)).1 h3
  · have hlow : lowB (one1 (s.vars.getD i 0)) = true := hs.lv _ (by
      have : s.vars.getD i 0 = s.vars[i] := by simp [hi]
      rw [this]; exact List.getElem_mem hi)
    show σ (nmT _ _ (1 + i)) = _
    unfold nmT
    rw [if_neg (by omega), if_pos (by omega), show 1 + i - 1 = i by omega]
    exact h1 _ _ (evA_var hs.nv hi hlow)
/-- values of names out of values of terms -/
def sgm (s : PS) (vs : List Int) (f : Nat → Int) (n : ByteArray) : Int :=
  if eqW n nilW = true then 0 else if lowB n = true ∧ plc s.vars (hd0 n) < s.vars.length then f (1 + plc s.vars (hd0 n)) else if upB n = true ∧ plc s.hid (hd0 n) < s.hid.length then f (5 + plc s.hid (hd0 n)) else (evA (s.vars.map one1) vs n).getD 0
theorem sgm_nm {s : PS} (hs : Ltr s) {vs : List Int} {f : Nat → Int} (h0 : f 0 = 0) {k i : Nat} (hb : Bnd s.vars s.hid k i) : sgm s vs f (tnm s.vars s.hid k i) = f (tNo k i) := by
  unfold tnm tNo
  by_cases h1 : k = 1
  · have hi := hb.2.1 h1
    have hlow : lowB (one1 (s.vars.getD i 0)) = true := hs.lv _ (by
      have : s.vars.getD i 0 = s.vars[i] := by simp [hi]
      rw [this]; exact List.getElem_mem hi)
    rw [if_pos h1, if_pos h1]
    unfold sgm
    have e : hd0 (one1 (s.vars.getD i 0)) = s.vars.getD i 0 := rfl
    rw [if_neg (by rw [eqW_ne (low_ne hlow rfl)]; simp), e, plc_idx hs.nv hi, if_pos ⟨hlow, hi⟩]
  · rw [if_neg h1, if_neg h1]
    by_cases h2 : k = 2
    · have hi := hb.2.2 h2
      have hup : upB (one1 (s.hid.getD i 0)) = true := hs.lh _ (by
        have : s.hid.getD i 0 = s.hid[i] := by simp [hi]
        rw [this]; exact List.getElem_mem hi)
      have hnl : lowB (one1 (s.hid.getD i 0)) = false := by
        cases hx : lowB (one1 (s.hid.getD i 0)) with
        | false => rfl
        | true => rw [low_up _ hx] at hup; cases hup
      rw [if_pos h2, if_pos h2]
      unfold sgm
      have e : hd0 (one1 (s.hid.getD i 0)) = s.hid.getD i 0 := rfl
      rw [if_neg (by rw [eqW_ne (upB_ne hup rfl)]; simp), if_neg (by rw [hnl]; simp), e, plc_idx hs.nh hi, if_pos ⟨hup, hi⟩]
    · rw [if_neg h2, if_neg h2]
      unfold sgm
      rw [if_pos (eqW_rfl _)]; exact h0.symm
theorem at_hold {ad nx : List Int} (hd : ad.Nodup) {s : PS} (hs : Ltr s) (hv : s.vars.length ≤ 4) {vs : List Int} (hl : vs.length = s.vars.length) {al : List Atm} (ha : ∀ a ∈ al, AtOK s.vars s.hid a) (hnm : NmOK (nmL s.vars s.hid al)) {f : Nat → Int} (h : AtH ad nx f al) (hf : ∀ i, i < s.vars.length → f (1 + i) = vs.getD i 0) :
    hold ad nx (s.vars.map one1) vs (nmL s.vars s.hid al) = true := by
  refine (hold_iff hd (by simpa using hl.symm) hnm).2 ⟨sgm s vs f, fun n v hn => ?_, fun r hr => ?_, ?_⟩
  · unfold sgm
    by_cases h0 : eqW n nilW = true
    · rw [if_pos h0]
      unfold evA at hn
      rw [if_pos h0] at hn
      cases hn; rfl
    · rw [if_neg h0]
      by_cases h1 : lowB n = true ∧ plc s.vars (hd0 n) < s.vars.length
      · rw [if_pos h1, hf _ h1.2]
        unfold evA at hn
        rw [if_neg h0, low_one h1.1, fnd_plc, if_pos (by simpa using h1.2)] at hn
        cases hn; rfl
      · rw [if_neg h1]
        by_cases h2 : upB n = true ∧ plc s.hid (hd0 n) < s.hid.length
        · exfalso
          unfold evA at hn
          rw [if_neg h0, up_one h2.1, fnd_plc] at hn
          by_cases h3 : plc s.vars (hd0 n) < s.vars.length
          · have h4 := plc_get h3
            have h5 : lowB (one1 (hd0 n)) = true := hs.lv _ (by
              have : s.vars.getD (plc s.vars (hd0 n)) 0 = s.vars[plc s.vars (hd0 n)] := by simp [h3]
              rw [← h4, this]; exact List.getElem_mem h3)
            rw [← up_one h2.1] at h5
            have := low_up _ h5
            rw [this] at h2; exact absurd h2.1 (by simp)
          · rw [if_neg (by simpa using h3)] at hn; cases hn
        · rw [if_neg h2, hn]; rfl
  · obtain ⟨hr1, hr2⟩ := List.mem_filter.1 hr
    obtain ⟨a, haa, rfl⟩ := List.mem_map.1 hr1
    obtain ⟨haa, hk0⟩ := List.mem_filter.1 haa
    have hA := ha a haa
    have h0 : a.k ≠ 0 := by simpa using hk0
    have hkw := kwd_eq hA.1 h0
    have h5 : ¬ (a.k = 3 ∨ a.k = 4) := by
      intro h6
      have := hkw.2.2.2 h6
      have h7 : plB (nmA s.vars s.hid a) = true := this
      rw [h7] at hr2; cases hr2
    show sgm s vs f (tnm _ _ a.lk a.li) = sgm s vs f (tnm _ _ a.rk a.ri) ↔ eqW (kwd a.k) eqSW = true
    rw [sgm_nm hs h.nl hA.2.1, sgm_nm hs h.nl hA.2.2, hkw.1]
    have hk : a.k = 1 ∨ a.k = 2 := by have := hA.1; omega
    rcases hk with hk | hk
    · exact ⟨fun _ => hk, fun _ => h.eq a haa hk⟩
    · exact ⟨fun e => absurd e (h.ne a haa hk), fun e => by omega⟩
  · rw [nmL_pl ha]
    refine (sp_num hv (s := f) (fun a haa => ?_)).2 h.sp
    have hA := ha a (List.mem_filter.1 haa).1
    exact ⟨hA, by simpa using (List.mem_filter.1 haa).2, by
      show sgm s vs f (nmT _ _ (tNo a.lk a.li)) = f (tNo a.lk a.li)
      rw [nmT_of hv hA.2.1]; exact sgm_nm hs h.nl hA.2.1, by
      show sgm s vs f (nmT _ _ (tNo a.rk a.ri)) = f (tNo a.rk a.ri)
      rw [nmT_of hv hA.2.2]; exact sgm_nm hs h.nl hA.2.2⟩
end Go.Proofs.Ytciihepbeacppaa

namespace Go.Proofs.Ytciihepbeacppaa
open Go.RowKit

/-! ### two texts -/
def sta (v : List UInt8) : PS := ⟨0, false, v, [], []⟩
def txS (v l : List UInt8) : PS := finS (rdW l) (foS (rdW l) (sta v))
def txE (v l : List UInt8) : Nat := if 240 < l.length then 1 else if spl l = none then 2 else if (txS v l).failed = true then 3 else 0
def tw1 (a : List UInt8) : PS := txS [] a
def tw2 (a c : List UInt8) : PS := txS (tw1 a).vars c
def twE (a c : List UInt8) : Nat := if txE [] a ≠ 0 then txE [] a else if txE (tw1 a).vars c ≠ 0 then txE (tw1 a).vars c else if 4 < (tw2 a c).vars.length ∨ 8 < (tw1 a).hid.length ∨ 8 < (tw2 a c).hid.length then 4 else 0
def twA (a : List UInt8) : List Atm := foA (rdW a) (sta [])
def twB (a c : List UInt8) : List Atm := foA (rdW c) (sta (tw1 a).vars)
/-- Entails -/
def enT (a c : List UInt8) : Bool × Nat := if twE a c ≠ 0 then (false, twE a c) else fol (twA a) (twB a c)
theorem rd_sta (v : List UInt8) (ws : List ByteArray) : Rd ws (sta v) ws := ⟨rfl, rfl, Nat.zero_le _⟩
theorem rdW_rrW (l : List UInt8) : rdW l = rrW l := rfl
/-- a text that is read to its end is a formula -/
theorem tx_iff (v l : List UInt8) : (txS v l).failed = false ↔ ∃ al, rfo [] (rdW l) = some al := by
  have hp := par_for (ws := rdW l) |>.ok (sta v) _ (rd_sta v _)
  constructor
  · intro h
    cases hq : pFor ((rdW l).length + 1) (rdW l) with
    | none =>
      rw [hq] at hp
      have hf : (foS (rdW l) (sta v)).failed = true := hp
      unfold txS finS at h
      split at h
      · rw [hf] at h; cases h
      · cases h
    | some q =>
      rw [hq] at hp
      have hr : Rd (rdW l) (foS (rdW l) (sta v)) q := hp
      unfold txS finS at h
      by_cases he : (foS (rdW l) (sta v)).pos = (rdW l).length
      · have hq0 : q = [] := by rw [← hr.2.1, he]; exact List.drop_length
        subst hq0
        obtain ⟨f, hf, e⟩ := for_sound hq
        rw [List.append_nil] at e
        rw [e]; exact rfo_complete hf
      · rw [if_neg he] at h; cases h
  · rintro ⟨al, h⟩
    have hF := rfo_sound h
    rw [List.nil_append] at hF
    have := for_complete hF (n := (rdW l).length + 1) (q := []) (by omega) rfl
    rw [List.append_nil] at this
    rw [this] at hp
    have hr : Rd (rdW l) (foS (rdW l) (sta v)) [] := hp
    have he : (foS (rdW l) (sta v)).pos = (rdW l).length := by
      have h1 := congrArg List.length hr.2.1
      have h2 := hr.2.2
      simp only [List.length_drop, List.length_nil] at h1
      omega
    unfold txS finS
    rw [if_pos he]; exact hr.1
theorem txE_foE (v l : List UInt8) : txE v l = foE l := by
  unfold txE foE
  by_cases h1 : 240 < l.length
  · rw [if_pos h1, if_pos h1]
  · rw [if_neg h1, if_neg h1]
    by_cases h2 : spl l = none
    · rw [if_pos h2, if_pos h2]
    · rw [if_neg h2, if_neg h2]
      cases hf : (txS v l).failed with
      | true =>
        rw [if_pos rfl, if_pos]
        cases hr : rfo [] (rrW l) with
        | none => rfl
        | some al => rw [(tx_iff v l).2 ⟨al, hr⟩] at hf; cases hf
      | false =>
        obtain ⟨al, hr⟩ := (tx_iff v l).1 hf
        rw [if_neg (by simp), if_neg]
        rw [show rfo [] (rrW l) = some al from hr]; simp
theorem invz_sta (v : List UInt8) (ws : List ByteArray) : InvZ (v.map one1) ws (sta v) := fun _ => ⟨rfl, rfl, rfl⟩
/-- its names, its atoms -/
theorem tx_ok {v l : List UInt8} (h : (txS v l).failed = false) : (txS v l).vars.map one1 = nmI (v.map one1) (rdW l) (rdW l).length ∧ (txS v l).hid.map one1 = nmH (rdW l) (rdW l).length ∧
    (∃ al, rfo [] (rdW l) = some al ∧ al = nmL (txS v l).vars (txS v l).hid (foA (rdW l) (sta v))) ∧ (∀ a ∈ foA (rdW l) (sta v), AtOK (txS v l).vars (txS v l).hid a) ∧ v <+: (txS v l).vars := by
  obtain ⟨al, hal⟩ := (tx_iff v l).1 h
  have hF := rfo_sound hal
  rw [List.nil_append] at hF
  have he : (foS (rdW l) (sta v)).pos = (rdW l).length ∧ txS v l = foS (rdW l) (sta v) := by
    unfold txS finS at h ⊢
    by_cases he : (foS (rdW l) (sta v)).pos = (rdW l).length
    · rw [if_pos he]; exact ⟨he, rfl⟩
    · rw [if_neg he] at h; cases h
  have hrd : Rd (rdW l) (sta v) (rdW l ++ []) := by rw [List.append_nil]; exact rd_sta v _
  obtain ⟨al', g1, g2, g3⟩ := fo_nm hF (n := (rdW l).length + 1) hrd (by omega) rfl
  have hinv := kz_fo (z := v.map one1) (ws := rdW l) (sta v) (invz_sta v _)
  rw [he.2] at h ⊢
  obtain ⟨_, i2, i3⟩ := hinv h
  rw [he.1] at i2 i3
  exact ⟨i2.symm, i3.symm, ⟨al', g1, g2⟩, g3, ((gro_at (rdW l) (sta v)).trans (gro_foG (rdW l) ((rdW l).length + 1) _)).1⟩
theorem nmI_nil (l : List ByteArray) (k : Nat) : nmI [] l k = nmV l k := by
  induction k with
  | zero => rfl
  | succ k ih => simp only [nmI, nmV, ih]
theorem twE_paE (a c : List UInt8) : twE a c = paE a c := by
  unfold twE paE
  rw [txE_foE, txE_foE]
  by_cases h1 : foE a ≠ 0
  · rw [if_pos h1, if_pos h1]
  · rw [if_neg h1, if_neg h1]
    by_cases h2 : foE c ≠ 0
    · rw [if_pos h2, if_pos h2]
    · rw [if_neg h2, if_neg h2]
      have hz : ∀ v l, txE v l = 0 → (txS v l).failed = false := by
        intro v l h
        unfold txE at h
        by_cases g1 : 240 < l.length
        · rw [if_pos g1] at h; cases h
        · rw [if_neg g1] at h
          by_cases g2 : spl l = none
          · rw [if_pos g2] at h; cases h
          · rw [if_neg g2] at h
            cases hf : (txS v l).failed with
            | false => rfl
            | true => rw [if_pos hf] at h; cases h
      have f1 := hz [] a (by rw [txE_foE]; exact Classical.byContradiction h1)
      have f2 := hz (tw1 a).vars c (by rw [txE_foE]; exact Classical.byContradiction h2)
      obtain ⟨i1, i2, _⟩ := tx_ok f1
      obtain ⟨j1, j2, _⟩ := tx_ok f2
      rw [show (List.map one1 ([] : List UInt8)) = [] from rfl, nmI_nil] at i1
      rw [show txS [] a = tw1 a from rfl] at i1 i2
      rw [i1] at j1
      rw [show txS (tw1 a).vars c = tw2 a c from rfl] at j1 j2
      have e1 : (tw2 a c).vars.length = (nm2 a c).length := by rw [← List.length_map (f := one1), j1]; rfl
      have e2 : (tw1 a).hid.length = (nmH (rrW a) (rrW a).length).length := by rw [← List.length_map (f := one1), i2]; rfl
      have e3 : (tw2 a c).hid.length = (nmH (rrW c) (rrW c).length).length := by rw [← List.length_map (f := one1), j2]; rfl
      rw [e1, e2, e3]
theorem ltr_sta {v : List UInt8} (h : v.Nodup) (h2 : ∀ c ∈ v, lowB (one1 c) = true) : Ltr (sta v) := ⟨h, List.nodup_nil, h2, fun c hc => (by cases hc)⟩
theorem ltr_tx {v : List UInt8} (h : Ltr (sta v)) (l : List UInt8) : Ltr (txS v l) := by
  have := ltr_fo (ws := rdW l) h
  unfold txS finS
  split
  · exact this
  · exact ⟨this.nv, this.nh, this.lv, this.lh⟩
theorem up_nd {l : List Int} (h : l.Pairwise (· < ·)) : l.Nodup := by
  induction l with
  | nil => exact List.nodup_nil
  | cons a l ih =>
    rw [List.pairwise_cons] at h
    exact List.nodup_cons.2 ⟨fun hm => by have := h.1 a hm; omega, ih h.2⟩
/-- the answer is as it must be -/
theorem enT_ok (a c : List UInt8) : EntP a c (enT a c).1 (enT a c).2 := by
  unfold enT
  rw [twE_paE]
  refine ⟨fun h => ?_, fun h => ?_⟩
  · rw [if_pos h]; exact ⟨rfl, rfl⟩
  · rw [if_neg (by simp [h])]
    refine ⟨?_, ?_⟩
    · rcases fol_err (twA a) (twB a c) with h | ⟨h1, h2⟩
      · exact Or.inl h
      · exact Or.inr ⟨h1, h2⟩
    · intro al bl vs ad nx hal hbl hvs hp hh
      have hE : twE a c = 0 := by rw [twE_paE]; exact h
      have f1 : (tw1 a).failed = false := (tx_iff [] a).2 ⟨al, hal⟩
      have f2 : (tw2 a c).failed = false := (tx_iff (tw1 a).vars c).2 ⟨bl, hbl⟩
      obtain ⟨i1, i2, ⟨al', i3, i4⟩, i5, _⟩ := tx_ok f1
      obtain ⟨j1, j2, ⟨bl', j3, j4⟩, j5, j6⟩ := tx_ok f2
      rw [show (List.map one1 ([] : List UInt8)) = [] from rfl, nmI_nil] at i1
      rw [show txS [] a = tw1 a from rfl] at i1 i2 i4 i5
      rw [show txS (tw1 a).vars c = tw2 a c from rfl] at j1 j2 j4 j5 j6
      rw [i1] at j1
      have j1' : nm2 a c = (tw2 a c).vars.map one1 := j1.symm
      have ea : al = al' := Option.some.inj (hal.symm.trans i3)
      have eb : bl = bl' := Option.some.inj (hbl.symm.trans j3)
      subst ea
      subst eb
      have hbnd : (tw2 a c).vars.length ≤ 4 ∧ (tw1 a).hid.length ≤ 8 ∧ (tw2 a c).hid.length ≤ 8 := by
        unfold twE at hE
        rw [txE_foE, txE_foE] at hE
        by_cases g1 : foE a ≠ 0
        · rw [if_pos g1] at hE; exact absurd hE g1
        · rw [if_neg g1] at hE
          by_cases g2 : foE c ≠ 0
          · rw [if_pos g2] at hE; exact absurd hE g2
          · rw [if_neg g2] at hE
            by_cases g3 : 4 < (tw2 a c).vars.length ∨ 8 < (tw1 a).hid.length ∨ 8 < (tw2 a c).hid.length
            · rw [if_pos g3] at hE; cases hE
            · omega
      have l1 : Ltr (tw1 a) := ltr_tx (ltr_sta List.nodup_nil (fun c hc => (by cases hc))) a
      have l2 : Ltr (tw2 a c) := ltr_tx (ltr_sta l1.nv l1.lv) c
      -- the first's atoms by the names of both
      obtain ⟨s1, hs1⟩ : ∃ s1 : PS, s1 = { tw1 a with vars := (tw2 a c).vars } := ⟨_, rfl⟩
      have hg : Gro (tw1 a) s1 := by rw [hs1]; exact ⟨j6, List.prefix_refl _⟩
      have l1' : Ltr s1 := by rw [hs1]; exact ⟨l2.nv, l1.nh, l2.lv, l1.lh⟩
      have hv1 : s1.vars = (tw2 a c).vars := by rw [hs1]
      have hh1 : s1.hid = (tw1 a).hid := by rw [hs1]
      have ok1 : ∀ x ∈ twA a, AtOK s1.vars s1.hid x := fun x hx => (i5 x hx).gro hg
      have e1 : al = nmL s1.vars s1.hid (twA a) := i4.trans (nmL_gro hg i5).symm
      have hnd : ad.Nodup := up_nd hp.up
      have hpos : ∀ v ∈ ad, 0 < v := fun v hv => (hp.sa v hv).1
      rw [j1'] at hh hvs ⊢
      rw [List.length_map] at hvs
      have hn1 : NmOK al := rfo_names hal
      have hn2 : NmOK bl := rfo_names hbl
      rw [e1] at hh hn1
      rw [← hv1] at hh
      obtain ⟨f, hA, hf⟩ := hold_at hnd l1' (by rw [hv1]; exact hbnd.1) (by rw [hv1]; exact hvs) ok1 hn1 hh
      have t1 : TmOK (twA a) := tmOK_of (by rw [hv1]; exact hbnd.1) (by rw [hh1]; exact hbnd.2.1) ok1
      have t2 : TmOK (twB a c) := tmOK_of hbnd.1 hbnd.2.2 j5
      obtain ⟨k1, k2⟩ := fol_sound hnd hpos t1 t2 hA
      refine ⟨k1, fun hy => ?_⟩
      obtain ⟨f2, hB, hf2⟩ := k2 hy
      rw [j4] at hn2 ⊢
      refine at_hold hnd l2 hbnd.1 hvs j5 hn2 hB (fun i hi => ?_)
      rw [hf2 (1 + i) (by have := hbnd.1; omega)]
      exact hf i (by rw [hv1]; exact hi)
end Go.Proofs.Ytciihepbeacppaa
