import Derived.Test.YtciihepbeacppaaMB
namespace Go.Proofs.Ytciihepbeacppaa
open Go.RowKit

/-! ### the code's reader as a reader of word lists -/
/-- nothing has failed, and r is what is still to be read -/
def Rd (ws : List ByteArray) (s : PS) (r : List ByteArray) : Prop := s.failed = false ∧ ws.drop s.pos = r ∧ s.pos ≤ ws.length
def Res (ws : List ByteArray) (s : PS) : Option (List ByteArray) → Prop
  | none => s.failed = true
  | some r => Rd ws s r
/-- F reads as f does -/
structure Par (ws : List ByteArray) (F : PS → PS) (f : List ByteArray → Option (List ByteArray)) : Prop where
  ok : ∀ s r, Rd ws s r → Res ws (F s) (f r)
  bad : ∀ s, s.failed = true → (F s).failed = true
  nd : ∀ s, (F s).nodes = s.nodes
def hdB (k : ByteArray) : List ByteArray → Bool
  | [] => false
  | x :: _ => eqW x k
def pEx (k : ByteArray) : List ByteArray → Option (List ByteArray)
  | [] => none
  | x :: r => if eqW x k then some r else none
theorem pk_rd {ws : List ByteArray} {s : PS} {x : ByteArray} {r : List ByteArray} (h : Rd ws s (x :: r)) : pk ws s = x := by
  unfold pk; rw [if_neg (by simp [h.1])]
  have : ws[s.pos]? = some x := by rw [← List.head?_drop, h.2.1]; rfl
  rw [this]; rfl
theorem pk_nil {ws : List ByteArray} {s : PS} (h : Rd ws s []) : pk ws s = ⟨#[]⟩ := by
  apply pk_end
  have := congrArg List.length h.2.1
  simp only [List.length_drop, List.length_nil] at this
  omega
theorem adv_rd {ws : List ByteArray} {s : PS} {x : ByteArray} {r : List ByteArray} (h : Rd ws s (x :: r)) : Rd ws s.adv r :=
  ⟨h.1, by show ws.drop (s.pos + 1) = r; rw [← List.drop_drop, h.2.1]; rfl, by
    have := congrArg List.length h.2.1
    simp only [List.length_drop, List.length_cons] at this
    show s.pos + 1 ≤ ws.length
    omega⟩
theorem em_l3 : (⟨#[]⟩ : ByteArray).toList = [] := ByteArray.toList_eq _
theorem acB_rd {ws : List ByteArray} {s : PS} {k : ByteArray} {r : List ByteArray} (hk : k.toList ≠ []) (h : Rd ws s r) : acB ws k s = hdB k r := by
  cases r with
  | nil => unfold acB; rw [pk_nil h, em_l3]; cases hk' : k.toList with
    | nil => exact absurd hk' hk
    | cons _ _ => rfl
  | cons x r => unfold acB; rw [pk_rd h]; rfl
theorem acB_bad {ws : List ByteArray} {s : PS} {k : ByteArray} (hk : k.toList ≠ []) (h : s.failed = true) : acB ws k s = false := by
  unfold acB; rw [pk_failed h, em_l3]; cases hk' : k.toList with
    | nil => exact absurd hk' hk
    | cons _ _ => rfl
theorem Par.comp {ws : List ByteArray} {F G : PS → PS} {f g : List ByteArray → Option (List ByteArray)} (hF : Par ws F f) (hG : Par ws G g) : Par ws (fun s => G (F s)) (fun r => (f r).bind g) := by
  refine ⟨fun s r h => ?_, fun s h => hG.bad _ (hF.bad _ h), fun s => (hG.nd _).trans (hF.nd s)⟩
  have := hF.ok s r h
  cases hf : f r with
  | none => rw [hf] at this; exact hG.bad _ this
  | some r' => rw [hf] at this; exact hG.ok _ _ this
theorem Par.ite {ws : List ByteArray} {A B : PS → PS} {a b : List ByteArray → Option (List ByteArray)} {k : ByteArray} (hk : k.toList ≠ []) (hA : ∀ s x r, Rd ws s (x :: r) → Res ws (A s) (a (x :: r))) (hN : ∀ s, (A s).nodes = s.nodes) (hB : Par ws B b) : Par ws (fun s => if acB ws k s then A s else B s) (fun r => if hdB k r then a r else b r) := by
  refine ⟨fun s r h => ?_, fun s h => ?_, fun s => by split; exact hN s; exact hB.nd s⟩
  · rw [acB_rd hk h]
    cases r with
    | nil => simp only [hdB, Bool.false_eq_true, if_false]; exact hB.ok _ _ h
    | cons x r =>
      split
      · exact hA _ _ _ h
      · exact hB.ok _ _ h
  · rw [acB_bad hk h]; exact hB.bad _ h
theorem par_ex {ws : List ByteArray} {k : ByteArray} (hk : k.toList ≠ []) : Par ws (exS ws k) (pEx k) := by
  refine ⟨fun s r h => ?_, fun s h => ?_, fun s => by unfold exS; split <;> rfl⟩
  · unfold exS; rw [acB_rd hk h]
    cases r with
    | nil => simp [hdB, pEx, Res, PS.fail]
    | cons x r =>
      show Res ws (if eqW x k = true then s.adv else s.fail) (if eqW x k = true then some r else none)
      by_cases hx : eqW x k = true
      · rw [if_pos hx, if_pos hx]; exact adv_rd h
      · rw [if_neg hx, if_neg hx]; rfl
  · unfold exS; rw [acB_bad hk h]; simp [PS.fail]
def pVa : List ByteArray → Option (List ByteArray)
  | [] => none
  | x :: r => if lowB x then some r else none
theorem lowB_em : lowB ⟨#[]⟩ = false := rfl
theorem upB_em : upB ⟨#[]⟩ = false := rfl
theorem par_va {ws : List ByteArray} : Par ws (vaS ws) pVa := by
  refine ⟨fun s r h => ?_, fun s h => ?_, fun s => by unfold vaS; split <;> rfl⟩
  · unfold vaS
    cases r with
    | nil => rw [pk_nil h, lowB_em]; simp [pVa, Res, PS.fail]
    | cons x r =>
      rw [pk_rd h]; simp only [pVa]
      split
      · exact ⟨h.1, (adv_rd h).2⟩
      · simp [Res, PS.fail]
  · unfold vaS; rw [pk_failed h, lowB_em]; simp [PS.fail]
theorem kNil_n : kNil.toList ≠ [] := by rw [ByteArray.toList_eq]; simp [kNil]
theorem kEq_n : kEq.toList ≠ [] := by rw [ByteArray.toList_eq]; simp [kEq]
theorem kNe_n : kNe.toList ≠ [] := by rw [ByteArray.toList_eq]; simp [kNe]
theorem kTo_n : kTo.toList ≠ [] := by rw [ByteArray.toList_eq]; simp [kTo]
theorem kOpen_n : kOpen.toList ≠ [] := by rw [ByteArray.toList_eq]; simp [kOpen]
theorem kComma_n : kComma.toList ≠ [] := by rw [ByteArray.toList_eq]; simp [kComma]
theorem kClose_n : kClose.toList ≠ [] := by rw [ByteArray.toList_eq]; simp [kClose]
theorem kEmp_n : kEmp.toList ≠ [] := by rw [ByteArray.toList_eq]; simp [kEmp]
theorem kLs_n : kLs.toList ≠ [] := by rw [ByteArray.toList_eq]; simp [kLs]
theorem kStar_n : kStar.toList ≠ [] := by rw [ByteArray.toList_eq]; simp [kStar]
def pVal (r : List ByteArray) : Option (List ByteArray) := if hdB kNil r then some r.tail else pVa r
theorem par_val {ws : List ByteArray} : Par ws (valS ws) pVal := Par.ite kNil_n (fun _ _ _ h => adv_rd h) (fun _ => rfl) par_va
def pTe : List ByteArray → Option (List ByteArray)
  | [] => none
  | x :: r => if upB x then some r else pVal (x :: r)
theorem par_te {ws : List ByteArray} : Par ws (teS ws) pTe := by
  refine ⟨fun s r h => ?_, fun s h => ?_, fun s => by unfold teS; split; rfl; exact par_val.nd s⟩
  · unfold teS
    cases r with
    | nil => rw [pk_nil h, upB_em]; exact par_val.ok _ _ h
    | cons x r =>
      rw [pk_rd h]; simp only [pTe]
      cases hx : upB x with
      | true => exact ⟨h.1, (adv_rd h).2⟩
      | false => exact par_val.ok _ _ h
  · unfold teS; rw [pk_failed h, upB_em]; exact par_val.bad _ h
def pRel (r : List ByteArray) : Option (List ByteArray) := if hdB kEq r then some r.tail else if hdB kNe r then some r.tail else pEx kTo r
theorem par_rel {ws : List ByteArray} : Par ws (relS ws) pRel := Par.ite kEq_n (fun _ _ _ h => adv_rd h) (fun _ => rfl) (Par.ite kNe_n (fun _ _ _ h => adv_rd h) (fun _ => rfl) (par_ex kTo_n))
/-- behind the word ls -/
def pLi (r : List ByteArray) : Option (List ByteArray) := ((((pEx kOpen r).bind pTe).bind (pEx kComma)).bind pTe).bind (pEx kClose)
theorem par_li {ws : List ByteArray} : Par ws (liS ws) pLi := ((((par_ex kOpen_n).comp par_te).comp (par_ex kComma_n)).comp par_te).comp (par_ex kClose_n)
def pAtom (r : List ByteArray) : Option (List ByteArray) := if hdB kEmp r then some r.tail else if hdB kLs r then pLi r.tail else ((pTe r).bind pRel).bind pTe
theorem par_atom {ws : List ByteArray} : Par ws (atS ws) pAtom :=
  Par.ite kEmp_n (fun _ _ _ h => adv_rd h) (fun _ => rfl) (Par.ite kLs_n (fun _ _ _ h => par_li.ok _ _ (adv_rd h)) (fun s => par_li.nd s.adv) ((par_te.comp par_rel).comp par_te))
theorem par_id {ws : List ByteArray} : Par ws (fun s => s) some := ⟨fun _ _ h => h, fun _ h => h, fun _ => rfl⟩
def pFoG : Nat → List ByteArray → Option (List ByteArray)
  | 0, r => some r
  | n + 1, r => if hdB kStar r then (pAtom r.tail).bind (pFoG n) else some r
theorem par_foG {ws : List ByteArray} (n : Nat) : Par ws (fun s => (foG ws n s).2) (pFoG n) := by
  induction n with
  | zero => exact par_id
  | succ n ih =>
    have e : (fun s => (foG ws (n + 1) s).2) = (fun s => if acB ws kStar s then (foG ws n (atS ws s.adv)).2 else s) := by
      funext s; simp only [foG]; split <;> rfl
    rw [e]
    exact Par.ite kStar_n (fun _ _ _ h => (par_atom.comp ih).ok _ _ (adv_rd h)) (fun s => (par_atom.comp ih).nd s.adv) par_id
def pFor (n : Nat) (r : List ByteArray) : Option (List ByteArray) := (pAtom r).bind (pFoG n)
theorem par_for {ws : List ByteArray} : Par ws (foS ws) (pFor (ws.length + 1)) := par_atom.comp (par_foG (ws.length + 1))

theorem kNew_n : kNew.toList ≠ [] := by rw [ByteArray.toList_eq]; simp [kNew]
theorem kDot_n : kDot.toList ≠ [] := by rw [ByteArray.toList_eq]; simp [kDot]
theorem kN_n : kN.toList ≠ [] := by rw [ByteArray.toList_eq]; simp [kN]
theorem kSkip_n : kSkip.toList ≠ [] := by rw [ByteArray.toList_eq]; simp [kSkip]
theorem kFree_n : kFree.toList ≠ [] := by rw [ByteArray.toList_eq]; simp [kFree]
theorem kLB_n : kLB.toList ≠ [] := by rw [ByteArray.toList_eq]; simp [kLB]
theorem kRB_n : kRB.toList ≠ [] := by rw [ByteArray.toList_eq]; simp [kRB]
theorem kSemi_n : kSemi.toList ≠ [] := by rw [ByteArray.toList_eq]; simp [kSemi]
theorem kIf_n : kIf.toList ≠ [] := by rw [ByteArray.toList_eq]; simp [kIf]
theorem kWhile_n : kWhile.toList ≠ [] := by rw [ByteArray.toList_eq]; simp [kWhile]
theorem kElse_n : kElse.toList ≠ [] := by rw [ByteArray.toList_eq]; simp [kElse]
theorem kPre_n : kPre.toList ≠ [] := by rw [ByteArray.toList_eq]; simp [kPre]

/-- a condition -/
def pCoT (r : List ByteArray) : Option (List ByteArray) := if hdB kNe r then some r.tail else pEx kEq r
def pCo (r : List ByteArray) : Option (List ByteArray) := if hdB kStar r then some r.tail else ((pVa r).bind pCoT).bind pVal
theorem par_coT {ws : List ByteArray} : Par ws (coT ws) pCoT := Par.ite kNe_n (fun _ _ _ h => adv_rd h) (fun _ => rfl) (par_ex kEq_n)
theorem par_co {ws : List ByteArray} : Par ws (coS ws) pCo := Par.ite kStar_n (fun _ _ _ h => adv_rd h) (fun _ => rfl) ((par_va.comp par_coT).comp par_val)
def pTs (r : List ByteArray) : Option (List ByteArray) := ((pEx kOpen r).bind pCo).bind (pEx kClose)
theorem par_ts {ws : List ByteArray} : Par ws (tsP ws) pTs := ((par_ex kOpen_n).comp par_co).comp (par_ex kClose_n)
/-- what stands behind the sign = of a simple command -/
def pAs (r : List ByteArray) : Option (List ByteArray) :=
  if hdB kNew r then some r.tail else if !hdB kNil r && (match pVal r with | some q => hdB kDot q | none => false) then (pVal r).bind (fun q => pEx kN q.tail) else pVal r
theorem par_as {ws : List ByteArray} : Par ws (asS ws) pAs := by
  refine Par.ite (b := fun r => if !hdB kNil r && (match pVal r with | some q => hdB kDot q | none => false) then (pVal r).bind (fun q => pEx kN q.tail) else pVal r) kNew_n (fun _ _ _ h => adv_rd h) (fun _ => rfl) ⟨fun s r h => ?_, fun s h => ?_, fun s => ?_⟩
  · have hv := par_val.ok s r h
    have hk : (valK ws s == 1) = !hdB kNil r := by
      unfold valK; rw [acB_rd kNil_n h]; cases hdB kNil r <;> rfl
    unfold asD; rw [hk]
    cases hp : pVal r with
    | none =>
      rw [hp] at hv
      rw [acB_bad kDot_n hv]
      simp only [Bool.and_false, Bool.false_eq_true, if_false]
      exact hv
    | some q =>
      rw [hp] at hv
      rw [acB_rd kDot_n hv]
      by_cases hc : (!hdB kNil r && hdB kDot q) = true
      · rw [if_pos hc, if_pos hc]
        cases q with
        | nil => simp [hdB] at hc
        | cons y q => exact (par_ex kN_n).ok _ _ (adv_rd hv)
      · rw [if_neg hc, if_neg hc]; exact hv
  · have hv := (par_val (ws := ws)).bad s h
    unfold asD; rw [acB_bad kDot_n hv]; simp only [Bool.and_false, Bool.false_eq_true, if_false]; exact hv
  · split
    · exact ((par_ex kN_n).nd _).trans (par_val.nd s)
    · exact par_val.nd s
def pSi2 (r : List ByteArray) : Option (List ByteArray) := if hdB kDot r then (((pEx kN r.tail).bind (pEx kEq)).bind pVal) else (pEx kEq r).bind pAs
theorem par_si2 {ws : List ByteArray} : Par ws (fun t => if acB ws kDot t then valS ws (siL ws t) else asS ws (exS ws kEq t)) pSi2 :=
  Par.ite kDot_n (fun _ _ _ h => (((par_ex kN_n).comp (par_ex kEq_n)).comp par_val).ok _ _ (adv_rd h)) (fun s => (((par_ex kN_n).comp (par_ex kEq_n)).comp par_val).nd s.adv) ((par_ex kEq_n).comp par_as)
/-- a simple command without its ; -/
def pSi (r : List ByteArray) : Option (List ByteArray) := if hdB kSkip r then some r.tail else if hdB kFree r then pVa r.tail else (pVa r).bind pSi2
theorem par_si {ws : List ByteArray} : Par ws (siS ws) pSi :=
  Par.ite kSkip_n (fun _ _ _ h => adv_rd h) (fun _ => rfl) (Par.ite kFree_n (fun _ _ _ h => par_va.ok _ _ (adv_rd h)) (fun s => par_va.nd s.adv) (par_va.comp par_si2))

def ResN (ws : List ByteArray) (n : Nat) (s : PS) : Option (List ByteArray × Nat) → Prop
  | none => s.failed = true
  | some (q, k) => Rd ws s q ∧ s.nodes.length = n + k
/-- F reads as f does, and adds as many nodes -/
structure ParN (ws : List ByteArray) (F : PS → PS) (f : List ByteArray → Option (List ByteArray × Nat)) : Prop where
  ok : ∀ s r, Rd ws s r → ResN ws s.nodes.length (F s) (f r)
  bad : ∀ s, s.failed = true → (F s).failed = true
/-- one behind the other -/
def sqN (f g : List ByteArray → Option (List ByteArray × Nat)) (r : List ByteArray) : Option (List ByteArray × Nat) :=
  match f r with
  | none => none
  | some (q, k) => match g q with
    | none => none
    | some (p, j) => some (p, k + j)
def n0 (f : List ByteArray → Option (List ByteArray)) (r : List ByteArray) : Option (List ByteArray × Nat) := (f r).map (fun q => (q, 0))
def n1 (f : List ByteArray → Option (List ByteArray)) (r : List ByteArray) : Option (List ByteArray × Nat) := (f r).map (fun q => (q, 1))
theorem Par.n {ws : List ByteArray} {F : PS → PS} {f : List ByteArray → Option (List ByteArray)} (h : Par ws F f) : ParN ws F (n0 f) := by
  refine ⟨fun s r hr => ?_, h.bad⟩
  have := h.ok s r hr
  unfold n0
  cases hf : f r with
  | none => rw [hf] at this; exact this
  | some q => rw [hf] at this; exact ⟨this, by rw [h.nd s]; rfl⟩
/-- and a node behind it -/
theorem Par.n1 {ws : List ByteArray} {F G : PS → PS} {f : List ByteArray → Option (List ByteArray)} (h : Par ws F f) (hf : ∀ s, (G s).failed = (F s).failed) (hp : ∀ s, (G s).pos = (F s).pos) (hn : ∀ s, (G s).nodes.length = (F s).nodes.length + 1) : ParN ws G (n1 f) := by
  refine ⟨fun s r hr => ?_, fun s hs => by rw [hf]; exact h.bad s hs⟩
  have := h.ok s r hr
  unfold Proofs.Ytciihepbeacppaa.n1
  cases hfr : f r with
  | none => rw [hfr] at this; exact (hf s).trans this
  | some q =>
    rw [hfr] at this
    exact ⟨⟨(hf s).trans this.1, by rw [hp s]; exact this.2⟩, by rw [hn s, h.nd s]⟩
theorem ParN.comp {ws : List ByteArray} {F G : PS → PS} {f g : List ByteArray → Option (List ByteArray × Nat)} (hF : ParN ws F f) (hG : ParN ws G g) : ParN ws (fun s => G (F s)) (sqN f g) := by
  refine ⟨fun s r h => ?_, fun s h => hG.bad _ (hF.bad _ h)⟩
  have h1 := hF.ok s r h
  unfold sqN
  cases hf : f r with
  | none => rw [hf] at h1; exact hG.bad _ h1
  | some qk =>
    obtain ⟨q, k⟩ := qk
    rw [hf] at h1
    have h2 := hG.ok _ _ h1.1
    rw [h1.2] at h2
    dsimp only
    cases hg : g q with
    | none => rw [hg] at h2; exact h2
    | some pj =>
      obtain ⟨p, j⟩ := pj
      rw [hg] at h2
      exact ⟨h2.1, by rw [h2.2]; omega⟩
theorem ParN.congr {ws : List ByteArray} {F G : PS → PS} {f : List ByteArray → Option (List ByteArray × Nat)} (h : ParN ws F f) (hf : ∀ s, (G s).failed = (F s).failed) (hp : ∀ s, (G s).pos = (F s).pos) (hn : ∀ s, (G s).nodes.length = (F s).nodes.length) : ParN ws G f := by
  refine ⟨fun s r hr => ?_, fun s hs => by rw [hf]; exact h.bad s hs⟩
  have := h.ok s r hr
  cases hfr : f r with
  | none => rw [hfr] at this; exact (hf s).trans this
  | some q =>
    rw [hfr] at this
    exact ⟨⟨(hf s).trans this.1.1, by rw [hp s]; exact this.1.2⟩, by rw [hn s]; exact this.2⟩

def pSc : List ByteArray → Option (List ByteArray × Nat) := n1 (fun r => (pSi r).bind (pEx kSemi))
theorem par_sc {ws : List ByteArray} : ParN ws (scS ws) pSc := (par_si.comp (par_ex kSemi_n)).n1 (fun _ => rfl) (fun _ => rfl) (fun _ => by simp [scS, addS])
def pTn : List ByteArray → Option (List ByteArray × Nat) := n1 pTs
theorem par_tn {ws : List ByteArray} : ParN ws (tsS ws) pTn := par_ts.n1 (fun _ => rfl) (fun _ => rfl) (fun _ => by simp [tsS, addS])
/-- the head and the first block of if and while -/
def pHd (k : ByteArray) (pb : List ByteArray → Option (List ByteArray × Nat)) : List ByteArray → Option (List ByteArray × Nat) := sqN (sqN (n0 (pEx k)) pTn) pb
def one (r : List ByteArray) : Option (List ByteArray × Nat) := some (r, 1)
def pLo (pb : List ByteArray → Option (List ByteArray × Nat)) : List ByteArray → Option (List ByteArray × Nat) := sqN (pHd kWhile pb) one
theorem par_one {ws : List ByteArray} : ParN ws (addS jmp) one := ⟨fun _ _ h => ⟨h, by simp [addS]⟩, fun _ h => h⟩
theorem par_lo {ws : List ByteArray} {blk : PS → PS} {pb : List ByteArray → Option (List ByteArray × Nat)} (hb : ParN ws blk pb) : ParN ws (loS blk ws) (pLo pb) :=
  (((((par_ex kWhile_n).n).comp par_tn).comp hb).comp par_one).congr (fun _ => rfl) (fun _ => rfl) (fun _ => by simp only [loS, setOt_length, setNx_length]; rfl)
def pEl (pb : List ByteArray → Option (List ByteArray × Nat)) (r : List ByteArray) : Option (List ByteArray × Nat) := if hdB kElse r then sqN one pb r.tail else some (r, 0)
def pBr (pb : List ByteArray → Option (List ByteArray × Nat)) : List ByteArray → Option (List ByteArray × Nat) := sqN (pHd kIf pb) (pEl pb)
theorem par_br {ws : List ByteArray} {blk : PS → PS} {pb : List ByteArray → Option (List ByteArray × Nat)} (hb : ParN ws blk pb) : ParN ws (brS blk ws) (pBr pb) := by
  have hA : ParN ws (brA blk ws) (pHd kIf pb) := ((((par_ex kIf_n).n).comp par_tn).comp hb)
  refine ⟨fun s r h => ?_, fun s h => ?_⟩
  · have h1 := hA.ok s r h
    unfold pBr sqN brS
    cases hf : pHd kIf pb r with
    | none => rw [hf] at h1; rw [acB_bad kElse_n h1]; exact h1
    | some qk =>
      obtain ⟨q, k⟩ := qk
      rw [hf] at h1
      rw [acB_rd kElse_n h1.1]
      dsimp only
      unfold pEl
      cases q with
      | nil => exact ⟨h1.1, by rw [show hdB kElse [] = false from rfl]; simp only [Bool.false_eq_true, if_false, setOt_length]; exact h1.2⟩
      | cons y q =>
        by_cases hy : hdB kElse (y :: q) = true
        · rw [if_pos hy, if_pos hy]
          have ht : Rd ws (brB s.nodes.length (brA blk ws s)) q := adv_rd h1.1
          have hl : (brB s.nodes.length (brA blk ws s)).nodes.length = s.nodes.length + k + 1 := by
            simp only [brB, setOt_length]; simp [addS, PS.adv, h1.2]
          have h2 := hb.ok _ _ ht
          rw [hl] at h2
          simp only [sqN, one, List.tail_cons]
          cases hg : pb q with
          | none => rw [hg] at h2; exact h2
          | some pj =>
            obtain ⟨p, j⟩ := pj
            rw [hg] at h2
            exact ⟨h2.1, by simp only [brC, setNx_length]; rw [h2.2]; omega⟩
        · rw [if_neg hy, if_neg hy]
          exact ⟨h1.1, by simp only [setOt_length]; exact h1.2⟩
  · have h1 := hA.bad s h
    unfold brS; rw [acB_bad kElse_n h1]; exact h1
def pCm (pb : List ByteArray → Option (List ByteArray × Nat)) (r : List ByteArray) : Option (List ByteArray × Nat) := if hdB kIf r then pBr pb r else if hdB kWhile r then pLo pb r else pSc r
theorem par_cm {ws : List ByteArray} {blk : PS → PS} {pb : List ByteArray → Option (List ByteArray × Nat)} (hb : ParN ws blk pb) : ParN ws (cmB blk ws) (pCm pb) := by
  refine ⟨fun s r h => ?_, fun s h => ?_⟩
  · unfold cmB pCm
    rw [acB_rd kIf_n h, acB_rd kWhile_n h]
    by_cases h1 : hdB kIf r = true
    · rw [if_pos h1, if_pos h1]; exact (par_br hb).ok _ _ h
    · rw [if_neg h1, if_neg h1]
      by_cases h2 : hdB kWhile r = true
      · rw [if_pos h2, if_pos h2]; exact (par_lo hb).ok _ _ h
      · rw [if_neg h2, if_neg h2]; exact par_sc.ok _ _ h
  · unfold cmB; rw [acB_bad kIf_n h, acB_bad kWhile_n h]; exact par_sc.bad _ h
/-- commands, up to a closing bracket -/
def pCs (pc : List ByteArray → Option (List ByteArray × Nat)) : Nat → List ByteArray → Option (List ByteArray × Nat)
  | 0, r => some (r, 0)
  | n + 1, r => if hdB kRB r then some (r, 0) else sqN pc (pCs pc n) r
theorem par_cs {ws : List ByteArray} {c : PS → PS} {pc : List ByteArray → Option (List ByteArray × Nat)} (hc : ParN ws c pc) (n : Nat) : ParN ws (cmS c ws n) (pCs pc n) := by
  induction n with
  | zero => exact ⟨fun _ _ h => ⟨h, rfl⟩, fun _ h => h⟩
  | succ n ih =>
    refine ⟨fun s r h => ?_, fun s h => ?_⟩
    · simp only [cmS, pCs]
      rw [acB_rd kRB_n h, h.1, Bool.false_or]
      by_cases h1 : hdB kRB r = true
      · rw [if_pos h1, if_pos h1]; exact ⟨h, rfl⟩
      · rw [if_neg h1, if_neg h1]; exact (hc.comp ih).ok _ _ h
    · simp only [cmS, h, Bool.true_or, if_true]
/-- a block with its brackets -/
def pBl (N : Nat) : Nat → List ByteArray → Option (List ByteArray × Nat)
  | 0, r => some (r, 0)
  | f + 1, r => sqN (sqN (n0 (pEx kLB)) (pCs (pCm (pBl N f)) N)) (n0 (pEx kRB)) r
theorem par_bl {ws : List ByteArray} (f : Nat) : ParN ws (blS ws f) (pBl (ws.length + 2) f) := by
  induction f with
  | zero => exact ⟨fun _ _ h => ⟨h, rfl⟩, fun _ h => h⟩
  | succ f ih => exact (((par_ex kLB_n).n).comp (par_cs (par_cm ih) (ws.length + 2))).comp (par_ex kRB_n).n
/-- a program's words; the nodes with the last one -/
def pPr (N : Nat) : List ByteArray → Option (List ByteArray × Nat) := sqN (sqN (sqN (n0 (pEx kPre)) (n0 (pFor (N + 1)))) (pBl (N + 2) (N + 1))) one
theorem par_pr {ws : List ByteArray} : ParN ws (prT ws) (pPr ws.length) :=
  ((((par_ex kPre_n).n.comp par_for.n).comp (par_bl (ws.length + 1))).comp (G := addS ndEnd) ⟨fun _ _ h => ⟨h, by simp [addS]⟩, fun _ h => h⟩)

/-- the code's reader, at its end -/
theorem rd_some {ws : List ByteArray} {k : Nat} (h : pPr ws.length ws = some ([], k)) : (prS ws ini).failed = false ∧ (prS ws ini).nodes.length = k ∧ (prS ws ini).pos = ws.length := by
  have h1 := (par_pr (ws := ws)).ok ini ws ⟨rfl, rfl, Nat.zero_le _⟩
  rw [h] at h1
  have hp : (prT ws ini).pos = ws.length := by
    have := congrArg List.length h1.1.2.1
    simp only [List.length_drop, List.length_nil] at this
    have := h1.1.2.2
    omega
  unfold prS; rw [if_pos hp]
  exact ⟨h1.1.1, by rw [h1.2]; simp [ini], hp⟩
theorem rd_none {ws : List ByteArray} (h : ∀ k, pPr ws.length ws ≠ some ([], k)) : (prS ws ini).failed = true := by
  have h1 := (par_pr (ws := ws)).ok ini ws ⟨rfl, rfl, Nat.zero_le _⟩
  unfold prS
  cases hf : pPr ws.length ws with
  | none => rw [hf] at h1; split; exact h1; rfl
  | some qk =>
    obtain ⟨q, k⟩ := qk
    rw [hf] at h1
    cases q with
    | nil => exact absurd hf (h k)
    | cons x q =>
      have hp : ¬ (prT ws ini).pos = ws.length := by
        have := congrArg List.length h1.1.2.1
        simp only [List.length_drop, List.length_cons] at this
        omega
      rw [if_neg hp]; rfl

theorem pTe_cons (x : ByteArray) (r : List ByteArray) : pTe (x :: r) = if nameB x = true then some r else none := by
  show (if upB x = true then some r else if eqW x nilW = true then some r else if lowB x = true then some r else none) = if (eqW x nilW || lowB x || upB x) = true then some r else none
  cases upB x <;> cases eqW x nilW <;> cases lowB x <;> rfl
def relB (x : ByteArray) : Bool := eqW x eqSW || eqW x neSW || eqW x toW
theorem pRel_cons (x : ByteArray) (r : List ByteArray) : pRel (x :: r) = if relB x = true then some r else none := by
  show (if eqW x eqSW = true then some r else if eqW x neSW = true then some r else if eqW x toW = true then some r else none) = if (eqW x eqSW || eqW x neSW || eqW x toW) = true then some r else none
  cases eqW x eqSW <;> cases eqW x neSW <;> cases eqW x toW <;> rfl
theorem pAtom_cons (x : ByteArray) (r : List ByteArray) : pAtom (x :: r) = if eqW x empW = true then some r else if eqW x lsW = true then pLi r else ((if nameB x = true then some r else none).bind pRel).bind pTe := by
  rw [← pTe_cons]; rfl
theorem pEx_cons (k x : ByteArray) (r : List ByteArray) : pEx k (x :: r) = if eqW x k = true then some r else none := rfl
theorem name_emp {x : ByteArray} (h : eqW x empW = true) : nameB x = false := by
  have hx : x.toList = [101, 109, 112] := by simpa [eqW, empW_l] using h
  have hd : x.data.toList = [101, 109, 112] := by rw [← ByteArray.toList_eq]; exact hx
  simp [nameB, eqW, lowB, upB, hd, hx, show nilW.toList = [110, 105, 108] from ByteArray.toList_eq _]
theorem name_ls {x : ByteArray} (h : eqW x lsW = true) : nameB x = false := by
  have hx : x.toList = [108, 115] := by simpa [eqW, lsW_l] using h
  have hd : x.data.toList = [108, 115] := by rw [← ByteArray.toList_eq]; exact hx
  simp [nameB, eqW, lowB, upB, hd, hx, show nilW.toList = [110, 105, 108] from ByteArray.toList_eq _]
theorem pEx_some {k : ByteArray} {r q : List ByteArray} : pEx k r = some q ↔ ∃ x, eqW x k = true ∧ r = x :: q := by
  cases r with
  | nil => simp [pEx]
  | cons y r =>
    rw [pEx_cons]
    by_cases h : eqW y k = true
    · rw [if_pos h]
      exact ⟨fun e => by cases e; exact ⟨y, h, rfl⟩, fun ⟨x, _, e⟩ => by cases e; rfl⟩
    · rw [if_neg h]
      exact ⟨fun e => (by cases e), fun ⟨x, hx, e⟩ => by cases e; exact absurd hx h⟩
theorem pTe_some {r q : List ByteArray} : pTe r = some q ↔ ∃ x, nameB x = true ∧ r = x :: q := by
  cases r with
  | nil => simp [pTe]
  | cons y r =>
    rw [pTe_cons]
    by_cases h : nameB y = true
    · rw [if_pos h]
      exact ⟨fun e => by cases e; exact ⟨y, h, rfl⟩, fun ⟨x, _, e⟩ => by cases e; rfl⟩
    · rw [if_neg h]
      exact ⟨fun e => (by cases e), fun ⟨x, hx, e⟩ => by cases e; exact absurd hx h⟩
theorem pRel_some {r q : List ByteArray} : pRel r = some q ↔ ∃ x, relB x = true ∧ r = x :: q := by
  cases r with
  | nil => simp [pRel, hdB, pEx]
  | cons y r =>
    rw [pRel_cons]
    by_cases h : relB y = true
    · rw [if_pos h]
      exact ⟨fun e => by cases e; exact ⟨y, h, rfl⟩, fun ⟨x, _, e⟩ => by cases e; rfl⟩
    · rw [if_neg h]
      exact ⟨fun e => (by cases e), fun ⟨x, hx, e⟩ => by cases e; exact absurd hx h⟩
theorem pLi_some {r q : List ByteArray} : pLi r = some q ↔ ∃ b c d e f, eqW b opW = true ∧ nameB c = true ∧ eqW d cmW = true ∧ nameB e = true ∧ eqW f clW = true ∧ r = b :: c :: d :: e :: f :: q := by
  constructor
  · intro h
    unfold pLi at h
    obtain ⟨r4, h, h5⟩ := Option.bind_eq_some_iff.1 h
    obtain ⟨r3, h, h4⟩ := Option.bind_eq_some_iff.1 h
    obtain ⟨r2, h, h3⟩ := Option.bind_eq_some_iff.1 h
    obtain ⟨r1, h1, h2⟩ := Option.bind_eq_some_iff.1 h
    obtain ⟨b, hb, rfl⟩ := pEx_some.1 h1
    obtain ⟨c, hc, rfl⟩ := pTe_some.1 h2
    obtain ⟨d, hd, rfl⟩ := pEx_some.1 h3
    obtain ⟨e, he, rfl⟩ := pTe_some.1 h4
    obtain ⟨f, hf, rfl⟩ := pEx_some.1 h5
    exact ⟨b, c, d, e, f, hb, hc, hd, he, hf, rfl⟩
  · rintro ⟨b, c, d, e, f, hb, hc, hd, he, hf, rfl⟩
    show ((((pEx opW (b :: c :: d :: e :: f :: q)).bind pTe).bind (pEx cmW)).bind pTe).bind (pEx clW) = some q
    rw [pEx_some.2 ⟨b, hb, rfl⟩, Option.bind_some, pTe_some.2 ⟨c, hc, rfl⟩, Option.bind_some, pEx_some.2 ⟨d, hd, rfl⟩, Option.bind_some, pTe_some.2 ⟨e, he, rfl⟩, Option.bind_some, pEx_some.2 ⟨f, hf, rfl⟩]
/-- an atom is read iff it stands ahead -/
theorem pAtom_some {l q : List ByteArray} : pAtom l = some q ↔ ∃ p, raB p = true ∧ l = p ++ q := by
  constructor
  · intro h
    cases l with
    | nil => simp [pAtom, hdB, pTe] at h
    | cons a r =>
      rw [pAtom_cons] at h
      by_cases h1 : eqW a empW = true
      · rw [if_pos h1] at h; simp only [Option.some.injEq] at h; subst h; exact ⟨[a], h1, rfl⟩
      · rw [if_neg h1] at h
        by_cases h2 : eqW a lsW = true
        · rw [if_pos h2] at h
          obtain ⟨b, c, d, e, f, hb, hc, hd, he, hf, rfl⟩ := pLi_some.1 h
          exact ⟨[a, b, c, d, e, f], by simp [raB, h2, hb, hc, hd, he, hf], rfl⟩
        · rw [if_neg h2] at h
          obtain ⟨r2, h, h5⟩ := Option.bind_eq_some_iff.1 h
          obtain ⟨r1, h3, h4⟩ := Option.bind_eq_some_iff.1 h
          by_cases h6 : nameB a = true
          · rw [if_pos h6] at h3
            simp only [Option.some.injEq] at h3
            subst h3
            obtain ⟨b, hb, rfl⟩ := pRel_some.1 h4
            obtain ⟨c, hc, rfl⟩ := pTe_some.1 h5
            exact ⟨[a, b, c], by simp only [raB, h6, hc, Bool.true_and]; exact hb, rfl⟩
          · rw [if_neg h6] at h3; cases h3
  · rintro ⟨p, hp, rfl⟩
    match p, hp with
    | [a], hp => show pAtom (a :: q) = some q; rw [pAtom_cons, if_pos (show eqW a empW = true from hp)]
    | [a, b, c], hp =>
      simp only [raB, Bool.and_eq_true] at hp
      show pAtom (a :: b :: c :: q) = some q
      have h1 : ¬ eqW a empW = true := fun h => by rw [name_emp h] at hp; simp at hp
      have h2 : ¬ eqW a lsW = true := fun h => by rw [name_ls h] at hp; simp at hp
      rw [pAtom_cons, if_neg h1, if_neg h2, if_pos hp.1.1, Option.bind_some, pRel_some.2 ⟨b, hp.2, rfl⟩, Option.bind_some, pTe_some.2 ⟨c, hp.1.2, rfl⟩]
    | [a, b, c, d, e, f], hp =>
      simp only [raB, Bool.and_eq_true] at hp
      obtain ⟨⟨⟨⟨ha, hb⟩, hd⟩, hf⟩, hc, he⟩ := hp
      show pAtom (a :: b :: c :: d :: e :: f :: q) = some q
      have h1 : ¬ eqW a empW = true := fun h => by
        have e1 : a.toList = [101, 109, 112] := by simpa [eqW, empW_l] using h
        have e2 : a.toList = [108, 115] := by simpa [eqW, lsW_l] using ha
        rw [e1] at e2; simp at e2
      rw [pAtom_cons, if_neg h1, if_pos ha]
      exact pLi_some.2 ⟨b, c, d, e, f, hb, hc, hd, he, hf, rfl⟩
end Go.Proofs.Ytciihepbeacppaa

namespace Go.Proofs.Ytciihepbeacppaa
open Go.RowKit

/-! ### words, conditions and simple commands -/
theorem eqW_iff {x k : ByteArray} : eqW x k = true ↔ x = k := by
  constructor
  · intro h
    have h1 : x.toList = k.toList := by simpa [eqW] using h
    rw [ByteArray.toList_eq, ByteArray.toList_eq] at h1
    obtain ⟨⟨a⟩⟩ := x
    obtain ⟨⟨b⟩⟩ := k
    simp only at h1
    rw [h1]
  · rintro rfl; simp [eqW]
theorem eqW_ne {x k : ByteArray} (h : x ≠ k) : eqW x k = false := by
  cases hk : eqW x k with
  | false => rfl
  | true => exact absurd (eqW_iff.1 hk) h
theorem eqW_rfl (k : ByteArray) : eqW k k = true := eqW_iff.2 rfl
/-- a letter is no other word -/
theorem low_ne {x k : ByteArray} (h : lowB x = true) (hk : lowB k = false) : x ≠ k := by
  rintro rfl; rw [h] at hk; cases hk
theorem data_ne {x k : ByteArray} (h : x.data.toList ≠ k.data.toList) : x ≠ k := fun e => h (by rw [e])
/-- a word of letters, signs: two that are written otherwise -/
theorem pVa_some {r q : List ByteArray} : pVa r = some q ↔ ∃ x, lowB x = true ∧ r = x :: q := by
  cases r with
  | nil => simp [pVa]
  | cons y r =>
    show (if lowB y = true then some r else none) = some q ↔ _
    by_cases h : lowB y = true
    · rw [if_pos h]
      exact ⟨fun e => by cases e; exact ⟨y, h, rfl⟩, fun ⟨x, _, e⟩ => by cases e; rfl⟩
    · rw [if_neg h]
      exact ⟨fun e => (by cases e), fun ⟨x, hx, e⟩ => by cases e; exact absurd hx h⟩
theorem pVal_some {r q : List ByteArray} : pVal r = some q ↔ ∃ x, (x = nilW ∨ lowB x = true) ∧ r = x :: q := by
  cases r with
  | nil => simp [pVal, hdB, pVa]
  | cons y r =>
    show (if eqW y nilW = true then some r else pVa (y :: r)) = some q ↔ _
    by_cases h : eqW y nilW = true
    · rw [if_pos h]
      exact ⟨fun e => by cases e; exact ⟨y, Or.inl (eqW_iff.1 h), rfl⟩, fun ⟨x, _, e⟩ => by cases e; rfl⟩
    · rw [if_neg h, pVa_some]
      constructor
      · rintro ⟨x, hx, e⟩; exact ⟨x, Or.inr hx, e⟩
      · rintro ⟨x, hx | hx, e⟩
        · cases e; exact absurd (eqW_iff.2 hx) h
        · exact ⟨x, hx, e⟩
theorem pEx_eq {k : ByteArray} {r q : List ByteArray} : pEx k r = some q ↔ r = k :: q := by
  rw [pEx_some]
  exact ⟨fun ⟨x, hx, e⟩ => by rw [e, eqW_iff.1 hx], fun e => ⟨k, eqW_rfl k, e⟩⟩
theorem pEx_self (k : ByteArray) (q : List ByteArray) : pEx k (k :: q) = some q := pEx_eq.2 rfl
theorem pCoT_some {r q : List ByteArray} : pCoT r = some q ↔ ∃ x, (x = eqSW ∨ x = neSW) ∧ r = x :: q := by
  cases r with
  | nil => simp [pCoT, hdB, pEx]
  | cons y r =>
    show (if eqW y neSW = true then some r else pEx eqSW (y :: r)) = some q ↔ _
    by_cases h : eqW y neSW = true
    · rw [if_pos h]
      exact ⟨fun e => by cases e; exact ⟨y, Or.inr (eqW_iff.1 h), rfl⟩, fun ⟨x, _, e⟩ => by cases e; rfl⟩
    · rw [if_neg h, pEx_eq]
      constructor
      · intro e; exact ⟨eqSW, Or.inl rfl, e⟩
      · rintro ⟨x, hx | hx, e⟩
        · rw [e, hx]
        · cases e; exact absurd (eqW_iff.2 hx) h
/-- a test between its brackets -/
def Cnd (l : List ByteArray) : Prop :=
  ∀ R : List ByteArray → Prop, R [starW] → (∀ {a b c : ByteArray}, lowB a = true → (b = eqSW ∨ b = neSW) → (c = nilW ∨ lowB c = true) → R [a, b, c]) → R l
theorem Cnd.star : Cnd [starW] := fun _ h _ => h
theorem Cnd.two {a b c : ByteArray} (ha : lowB a = true) (hb : b = eqSW ∨ b = neSW) (hc : c = nilW ∨ lowB c = true) : Cnd [a, b, c] := fun _ _ h => h ha hb hc
theorem Cnd.ind {motive : (l : List ByteArray) → Cnd l → Prop} (star : motive [starW] Cnd.star)
    (two : ∀ {a b c : ByteArray} (ha : lowB a = true) (hb : b = eqSW ∨ b = neSW) (hc : c = nilW ∨ lowB c = true), motive [a, b, c] (Cnd.two ha hb hc)) {l : List ByteArray} (h : Cnd l) : motive l h := by
  obtain ⟨_, h2⟩ := h (fun l => ∃ h, motive l h) ⟨_, star⟩ (fun ha hb hc => ⟨_, two ha hb hc⟩)
  exact h2
theorem rcB_iff {l : List ByteArray} : rcB l = true ↔ Cnd l := by
  constructor
  · intro h
    match l, h with
    | [a], h => rw [eqW_iff.1 (show eqW a starW = true from h)]; exact Cnd.star
    | [a, b, c], h =>
      simp only [rcB, Bool.and_eq_true, Bool.or_eq_true, eqW_iff] at h
      exact Cnd.two h.1.1 h.2 (h.1.2.symm)
  · intro h
    cases h using Cnd.ind with
    | star => exact eqW_rfl _
    | two ha hb hc => simp only [rcB, Bool.and_eq_true, Bool.or_eq_true, eqW_iff]; exact ⟨⟨ha, hc.symm⟩, hb⟩
theorem pCo_some {r q : List ByteArray} : pCo r = some q ↔ ∃ c, Cnd c ∧ r = c ++ q := by
  constructor
  · intro h
    cases r with
    | nil => simp [pCo, hdB, pVa] at h
    | cons y r =>
      change (if eqW y starW = true then some r else ((pVa (y :: r)).bind pCoT).bind pVal) = some q at h
      by_cases h1 : eqW y starW = true
      · rw [if_pos h1] at h; cases h; rw [eqW_iff.1 h1]; exact ⟨_, Cnd.star, rfl⟩
      · rw [if_neg h1] at h
        obtain ⟨r2, h, h3⟩ := Option.bind_eq_some_iff.1 h
        obtain ⟨r1, h1, h2⟩ := Option.bind_eq_some_iff.1 h
        obtain ⟨a, ha, e⟩ := pVa_some.1 h1
        obtain ⟨b, hb, rfl⟩ := pCoT_some.1 h2
        obtain ⟨c, hc, rfl⟩ := pVal_some.1 h3
        exact ⟨_, Cnd.two ha hb hc, e⟩
  · rintro ⟨c, hc, rfl⟩
    cases hc using Cnd.ind with
    | star => show (if eqW starW starW = true then some q else _) = some q; rw [if_pos (eqW_rfl _)]
    | @two a b c ha hb hc =>
      show (if eqW a starW = true then some (b :: c :: q) else ((pVa (a :: b :: c :: q)).bind pCoT).bind pVal) = some q
      rw [if_neg (by rw [eqW_ne (low_ne ha rfl)]; simp), pVa_some.2 ⟨a, ha, rfl⟩, Option.bind_some, pCoT_some.2 ⟨b, hb, rfl⟩, Option.bind_some, pVal_some.2 ⟨c, hc, rfl⟩]
theorem pTs_some {r q : List ByteArray} : pTs r = some q ↔ ∃ c, Cnd c ∧ r = opW :: (c ++ clW :: q) := by
  constructor
  · intro h
    unfold pTs at h
    obtain ⟨r2, h, h3⟩ := Option.bind_eq_some_iff.1 h
    obtain ⟨r1, h1, h2⟩ := Option.bind_eq_some_iff.1 h
    obtain ⟨c, hc, rfl⟩ := pCo_some.1 h2
    have e3 := pEx_eq.1 h3
    subst e3
    exact ⟨c, hc, pEx_eq.1 h1⟩
  · rintro ⟨c, hc, rfl⟩
    show ((pEx opW (opW :: (c ++ clW :: q))).bind pCo).bind (pEx clW) = some q
    rw [pEx_self, Option.bind_some, pCo_some.2 ⟨c, hc, rfl⟩, Option.bind_some, pEx_self]
/-- a simple command without its ; -/
def Sim (l : List ByteArray) : Prop :=
  ∀ R : List ByteArray → Prop, R [skipW] → (∀ {b : ByteArray}, lowB b = true → R [freeW, b]) → (∀ {a c : ByteArray}, lowB a = true → (c = newW ∨ c = nilW ∨ lowB c = true) → R [a, eqSW, c]) →
    (∀ {a c : ByteArray}, lowB a = true → lowB c = true → R [a, eqSW, c, dotW, nW]) → (∀ {a e : ByteArray}, lowB a = true → (e = nilW ∨ lowB e = true) → R [a, dotW, nW, eqSW, e]) → R l
theorem Sim.skip : Sim [skipW] := fun _ h _ _ _ _ => h
theorem Sim.free {b : ByteArray} (hb : lowB b = true) : Sim [freeW, b] := fun _ _ h _ _ _ => h hb
theorem Sim.val {a c : ByteArray} (ha : lowB a = true) (hc : c = newW ∨ c = nilW ∨ lowB c = true) : Sim [a, eqSW, c] := fun _ _ _ h _ _ => h ha hc
theorem Sim.load {a c : ByteArray} (ha : lowB a = true) (hc : lowB c = true) : Sim [a, eqSW, c, dotW, nW] := fun _ _ _ _ h _ => h ha hc
theorem Sim.store {a e : ByteArray} (ha : lowB a = true) (he : e = nilW ∨ lowB e = true) : Sim [a, dotW, nW, eqSW, e] := fun _ _ _ _ _ h => h ha he
theorem Sim.ind {motive : (l : List ByteArray) → Sim l → Prop} (skip : motive [skipW] Sim.skip) (free : ∀ {b : ByteArray} (hb : lowB b = true), motive [freeW, b] (Sim.free hb))
    (val : ∀ {a c : ByteArray} (ha : lowB a = true) (hc : c = newW ∨ c = nilW ∨ lowB c = true), motive [a, eqSW, c] (Sim.val ha hc)) (load : ∀ {a c : ByteArray} (ha : lowB a = true) (hc : lowB c = true), motive [a, eqSW, c, dotW, nW] (Sim.load ha hc))
    (store : ∀ {a e : ByteArray} (ha : lowB a = true) (he : e = nilW ∨ lowB e = true), motive [a, dotW, nW, eqSW, e] (Sim.store ha he)) {l : List ByteArray} (h : Sim l) : motive l h := by
  obtain ⟨_, h2⟩ := h (fun l => ∃ h, motive l h) ⟨_, skip⟩ (fun hb => ⟨_, free hb⟩) (fun ha hc => ⟨_, val ha hc⟩) (fun ha hc => ⟨_, load ha hc⟩) (fun ha he => ⟨_, store ha he⟩)
  exact h2
theorem rsI_some {l : List ByteArray} {i : Ins} (h : rsI l = some i) : Sim l := by
  match l, h with
  | [a], h =>
    by_cases h1 : eqW a skipW = true
    · rw [eqW_iff.1 h1]; exact Sim.skip
    · simp [rsI, h1] at h
  | [a, b], h =>
    by_cases h1 : (eqW a freeW && lowB b) = true
    · simp only [Bool.and_eq_true, eqW_iff] at h1; rw [h1.1]; exact Sim.free h1.2
    · simp only [rsI, if_neg h1] at h; cases h
  | [a, b, c], h =>
    by_cases h1 : (lowB a && eqW b eqSW) = true
    · simp only [rsI, if_pos h1] at h
      simp only [Bool.and_eq_true, eqW_iff] at h1
      rw [h1.2]
      refine Sim.val h1.1 ?_
      by_cases h2 : (eqW c nilW || eqW c newW) = true
      · simp only [Bool.or_eq_true, eqW_iff] at h2
        rcases h2 with h2 | h2
        · exact Or.inr (Or.inl h2)
        · exact Or.inl h2
      · rw [if_neg h2] at h
        by_cases h3 : lowB c = true
        · exact Or.inr (Or.inr h3)
        · rw [if_neg h3] at h; cases h
    · simp only [rsI, if_neg h1] at h; cases h
  | [a, b, c, d, e], h =>
    by_cases h1 : (lowB a && eqW b eqSW && lowB c && eqW d dotW && eqW e nW) = true
    · simp only [Bool.and_eq_true, eqW_iff] at h1
      obtain ⟨⟨⟨⟨ha, rfl⟩, hc⟩, rfl⟩, rfl⟩ := h1
      exact Sim.load ha hc
    · simp only [rsI, if_neg h1] at h
      by_cases h2 : (lowB a && eqW b dotW && eqW c nW && eqW d eqSW && (lowB e || eqW e nilW)) = true
      · simp only [Bool.and_eq_true, Bool.or_eq_true, eqW_iff] at h2
        obtain ⟨⟨⟨⟨ha, rfl⟩, rfl⟩, rfl⟩, he⟩ := h2
        exact Sim.store ha he.symm
      · rw [if_neg h2] at h; cases h
theorem dot_eq : eqW dotW eqSW = false := eqW_ne (data_ne (by simp [dotW, eqSW]))
theorem sim_rsI {l : List ByteArray} (h : Sim l) : ∃ i, rsI l = some i := by
  cases h using Sim.ind with
  | skip => exact ⟨_, by simp only [rsI, eqW_rfl, if_true]; rfl⟩
  | free h => exact ⟨_, by simp only [rsI, eqW_rfl, h, Bool.and_self, if_true]; rfl⟩
  | @val a c ha hc =>
    simp only [rsI, ha, eqW_rfl, Bool.and_self, if_true]
    by_cases h2 : (eqW c nilW || eqW c newW) = true
    · rw [if_pos h2]; exact ⟨_, rfl⟩
    · rw [if_neg h2]
      have h3 : lowB c = true := by
        rcases hc with rfl | rfl | h
        · simp [eqW_rfl] at h2
        · simp [eqW_rfl] at h2
        · exact h
      rw [if_pos h3]; exact ⟨_, rfl⟩
  | load ha hc => exact ⟨_, by simp only [rsI, ha, hc, eqW_rfl, Bool.and_self, if_true]; rfl⟩
  | @store a e ha he =>
    have h1 : (lowB e || eqW e nilW) = true := by
      rcases he with rfl | he
      · simp [eqW_rfl]
      · simp [he]
    exact ⟨_, by simp only [rsI, dot_eq, ha, eqW_rfl, h1, Bool.and_self, Bool.and_false, Bool.false_and, Bool.false_eq_true, if_false, if_true]; rfl⟩

/-! ### simple commands with their ; -/
theorem pAs_semi {r q : List ByteArray} (h : (pAs r).bind (pEx seW) = some q) : (∃ c, (c = newW ∨ c = nilW ∨ lowB c = true) ∧ r = c :: seW :: q) ∨ ∃ c, lowB c = true ∧ r = c :: dotW :: nW :: seW :: q := by
  cases r with
  | nil => simp [pAs, hdB, pVal, pVa] at h
  | cons c r =>
    obtain ⟨r1, h1, h2⟩ := Option.bind_eq_some_iff.1 h
    have e2 := pEx_eq.1 h2
    change (if eqW c newW = true then some r else if (!(eqW c nilW) && (match pVal (c :: r) with | some q => hdB dotW q | none => false)) = true then (pVal (c :: r)).bind (fun q => pEx nW q.tail) else pVal (c :: r)) = some r1 at h1
    by_cases hn : eqW c newW = true
    · rw [if_pos hn] at h1; cases h1
      exact Or.inl ⟨c, Or.inl (eqW_iff.1 hn), by rw [e2]⟩
    · rw [if_neg hn] at h1
      cases hp : pVal (c :: r) with
      | none => rw [hp] at h1; simp at h1
      | some r2 =>
        obtain ⟨x, hx, e⟩ := pVal_some.1 hp
        cases e
        rw [hp] at h1
        dsimp only at h1
        by_cases hd : (!(eqW c nilW) && hdB dotW r) = true
        · rw [if_pos hd] at h1
          simp only [Option.bind_some] at h1
          have e1 := pEx_eq.1 h1
          rw [e2] at e1
          simp only [Bool.and_eq_true, Bool.not_eq_true'] at hd
          right
          refine ⟨c, ?_, ?_⟩
          · rcases hx with rfl | hx
            · rw [eqW_rfl] at hd; cases hd.1
            · exact hx
          · cases r with
            | nil => cases hd.2
            | cons y r => rw [eqW_iff.1 (show eqW y dotW = true from hd.2)]; simp only [List.tail_cons] at e1; rw [e1]
        · rw [if_neg hd] at h1
          cases h1
          exact Or.inl ⟨c, Or.inr hx, by rw [e2]⟩
theorem semi_sound {r q : List ByteArray} (h : (pSi r).bind (pEx kSemi) = some q) : ∃ p, Sim p ∧ r = p ++ seW :: q := by
  cases r with
  | nil => simp [pSi, hdB, pVa] at h
  | cons a r =>
    obtain ⟨r1, h1, h2⟩ := Option.bind_eq_some_iff.1 h
    have e2 : r1 = seW :: q := pEx_eq.1 h2
    change (if eqW a skipW = true then some r else if eqW a freeW = true then pVa r else (pVa (a :: r)).bind pSi2) = some r1 at h1
    by_cases hs : eqW a skipW = true
    · rw [if_pos hs] at h1; cases h1; rw [eqW_iff.1 hs, e2]; exact ⟨_, Sim.skip, rfl⟩
    · rw [if_neg hs] at h1
      by_cases hf : eqW a freeW = true
      · rw [if_pos hf] at h1
        obtain ⟨b, hb, rfl⟩ := pVa_some.1 h1
        rw [eqW_iff.1 hf, e2]; exact ⟨_, Sim.free hb, rfl⟩
      · rw [if_neg hf] at h1
        obtain ⟨r2, h3, h4⟩ := Option.bind_eq_some_iff.1 h1
        obtain ⟨x, ha, e⟩ := pVa_some.1 h3
        cases e
        cases r with
        | nil => simp [pSi2, hdB, pEx] at h4
        | cons b r =>
          change (if eqW b dotW = true then (((pEx nW r).bind (pEx eqSW)).bind pVal) else (pEx eqSW (b :: r)).bind pAs) = some r1 at h4
          by_cases hd : eqW b dotW = true
          · rw [if_pos hd] at h4
            obtain ⟨r3, h5, h6⟩ := Option.bind_eq_some_iff.1 h4
            obtain ⟨r4, h7, h8⟩ := Option.bind_eq_some_iff.1 h5
            obtain ⟨e, he, rfl⟩ := pVal_some.1 h6
            have e7 := pEx_eq.1 h7
            have e8 := pEx_eq.1 h8
            subst e8
            subst e7
            rw [eqW_iff.1 hd, e2]
            exact ⟨_, Sim.store ha he, rfl⟩
          · rw [if_neg hd] at h4
            obtain ⟨r3, h5, h6⟩ := Option.bind_eq_some_iff.1 h4
            have e5 := pEx_eq.1 h5
            cases e5
            have h7 : (pAs r).bind (pEx seW) = some q := by rw [h6, Option.bind_some]; exact pEx_eq.2 e2
            rcases pAs_semi h7 with ⟨c, hc, rfl⟩ | ⟨c, hc, rfl⟩
            · exact ⟨_, Sim.val ha hc, rfl⟩
            · exact ⟨_, Sim.load ha hc, rfl⟩
theorem semi_dot : eqW seW dotW = false := eqW_ne (data_ne (by simp [dotW, seW]))
theorem eqS_dot : eqW eqSW dotW = false := eqW_ne (data_ne (by simp [dotW, eqSW]))
theorem new_nil : eqW nilW newW = false := eqW_ne (data_ne (by simp [nilW, newW]))
theorem free_skip : eqW freeW skipW = false := eqW_ne (data_ne (by simp [freeW, skipW]))
theorem pAs_val {c : ByteArray} {q : List ByteArray} (hc : c = newW ∨ c = nilW ∨ lowB c = true) : pAs (c :: seW :: q) = some (seW :: q) := by
  show (if eqW c newW = true then some (seW :: q) else if (!(eqW c nilW) && (match pVal (c :: seW :: q) with | some q => hdB dotW q | none => false)) = true then (pVal (c :: seW :: q)).bind (fun q => pEx nW q.tail) else pVal (c :: seW :: q)) = some (seW :: q)
  by_cases hn : eqW c newW = true
  · rw [if_pos hn]
  · rw [if_neg hn]
    have hp : pVal (c :: seW :: q) = some (seW :: q) := pVal_some.2 ⟨c, (hc.resolve_left (fun e => hn (eqW_iff.2 e))), rfl⟩
    rw [hp]
    show (if (!(eqW c nilW) && eqW seW dotW) = true then _ else _) = _
    rw [semi_dot, Bool.and_false, if_neg (by simp)]
theorem pAs_load {c : ByteArray} {q : List ByteArray} (hc : lowB c = true) : pAs (c :: dotW :: nW :: q) = some q := by
  show (if eqW c newW = true then some (dotW :: nW :: q) else if (!(eqW c nilW) && (match pVal (c :: dotW :: nW :: q) with | some q => hdB dotW q | none => false)) = true then (pVal (c :: dotW :: nW :: q)).bind (fun q => pEx nW q.tail) else pVal (c :: dotW :: nW :: q)) = some q
  rw [eqW_ne (low_ne hc rfl), eqW_ne (k := nilW) (low_ne hc rfl)]
  have hp : pVal (c :: dotW :: nW :: q) = some (dotW :: nW :: q) := pVal_some.2 ⟨c, Or.inr hc, rfl⟩
  rw [hp]
  show (if false = true then _ else if (!false && eqW dotW dotW) = true then (some (dotW :: nW :: q)).bind (fun q => pEx nW q.tail) else _) = _
  rw [eqW_rfl, if_neg (by simp), if_pos (by simp)]
  exact pEx_self _ _
theorem semi_complete {p q : List ByteArray} (h : Sim p) : (pSi (p ++ seW :: q)).bind (pEx kSemi) = some q := by
  have hq : pEx kSemi (seW :: q) = some q := pEx_self _ _
  suffices h1 : pSi (p ++ seW :: q) = some (seW :: q) by rw [h1]; exact hq
  cases h using Sim.ind with
  | skip => show (if eqW skipW skipW = true then some (seW :: q) else _) = _; rw [if_pos (eqW_rfl _)]
  | @free b hb =>
    show (if eqW freeW skipW = true then _ else if eqW freeW freeW = true then pVa (b :: seW :: q) else _) = _
    rw [free_skip, eqW_rfl, if_neg (by simp), if_pos rfl]
    exact pVa_some.2 ⟨b, hb, rfl⟩
  | @val a c ha hc =>
    show (if eqW a skipW = true then _ else if eqW a freeW = true then _ else (pVa (a :: eqSW :: c :: seW :: q)).bind pSi2) = _
    rw [eqW_ne (low_ne ha rfl), eqW_ne (k := freeW) (low_ne ha rfl), if_neg (by simp), if_neg (by simp), pVa_some.2 ⟨a, ha, rfl⟩]
    show (if eqW eqSW dotW = true then _ else (pEx eqSW (eqSW :: c :: seW :: q)).bind pAs) = _
    rw [eqS_dot, if_neg (by simp), pEx_self]
    exact pAs_val hc
  | @load a c ha hc =>
    show (if eqW a skipW = true then _ else if eqW a freeW = true then _ else (pVa (a :: eqSW :: c :: dotW :: nW :: seW :: q)).bind pSi2) = _
    rw [eqW_ne (low_ne ha rfl), eqW_ne (k := freeW) (low_ne ha rfl), if_neg (by simp), if_neg (by simp), pVa_some.2 ⟨a, ha, rfl⟩]
    show (if eqW eqSW dotW = true then _ else (pEx eqSW (eqSW :: c :: dotW :: nW :: seW :: q)).bind pAs) = _
    rw [eqS_dot, if_neg (by simp), pEx_self]
    exact pAs_load hc
  | @store a e ha he =>
    show (if eqW a skipW = true then _ else if eqW a freeW = true then _ else (pVa (a :: dotW :: nW :: eqSW :: e :: seW :: q)).bind pSi2) = _
    rw [eqW_ne (low_ne ha rfl), eqW_ne (k := freeW) (low_ne ha rfl), if_neg (by simp), if_neg (by simp), pVa_some.2 ⟨a, ha, rfl⟩]
    show (if eqW dotW dotW = true then (((pEx nW (nW :: eqSW :: e :: seW :: q)).bind (pEx eqSW)).bind pVal) else _) = _
    rw [eqW_rfl, if_pos rfl, pEx_self, Option.bind_some, pEx_self, Option.bind_some]
    exact pVal_some.2 ⟨e, he, rfl⟩

/-! ### what stands between the brackets of a block, and how many instructions it has -/
def Blk (l : List ByteArray) (k : Nat) : Prop :=
  ∀ R : List ByteArray → Nat → Prop, R [] 0 → (∀ {p r : List ByteArray} {k : Nat}, Sim p → R r k → R (p ++ seW :: r) (k + 1)) →
    (∀ {c b r : List ByteArray} {j k : Nat}, Cnd c → R b j → R r k → R (whW :: opW :: (c ++ clW :: lbW :: (b ++ rbW :: r))) (j + 2 + k)) → (∀ {c b r : List ByteArray} {j k : Nat}, Cnd c → R b j → R r k → R (ifW :: opW :: (c ++ clW :: lbW :: (b ++ rbW :: r))) (j + 1 + k)) →
    (∀ {c b d r : List ByteArray} {j i k : Nat}, Cnd c → R b j → R d i → R r k → R (ifW :: opW :: (c ++ clW :: lbW :: (b ++ rbW :: elW :: lbW :: (d ++ rbW :: r)))) (j + 2 + i + k)) → R l k
theorem Blk.nil : Blk [] 0 := fun _ h _ _ _ _ => h
theorem Blk.sim {p r : List ByteArray} {k : Nat} (hp : Sim p) (hr : Blk r k) : Blk (p ++ seW :: r) (k + 1) := fun R h1 h2 h3 h4 h5 => h2 hp (hr R h1 h2 h3 h4 h5)
theorem Blk.whl {c b r : List ByteArray} {j k : Nat} (hc : Cnd c) (hb : Blk b j) (hr : Blk r k) : Blk (whW :: opW :: (c ++ clW :: lbW :: (b ++ rbW :: r))) (j + 2 + k) := fun R h1 h2 h3 h4 h5 => h3 hc (hb R h1 h2 h3 h4 h5) (hr R h1 h2 h3 h4 h5)
theorem Blk.ife {c b r : List ByteArray} {j k : Nat} (hc : Cnd c) (hb : Blk b j) (hr : Blk r k) : Blk (ifW :: opW :: (c ++ clW :: lbW :: (b ++ rbW :: r))) (j + 1 + k) := fun R h1 h2 h3 h4 h5 => h4 hc (hb R h1 h2 h3 h4 h5) (hr R h1 h2 h3 h4 h5)
theorem Blk.ifl {c b d r : List ByteArray} {j i k : Nat} (hc : Cnd c) (hb : Blk b j) (hd : Blk d i) (hr : Blk r k) : Blk (ifW :: opW :: (c ++ clW :: lbW :: (b ++ rbW :: elW :: lbW :: (d ++ rbW :: r)))) (j + 2 + i + k) := fun R h1 h2 h3 h4 h5 => h5 hc (hb R h1 h2 h3 h4 h5) (hd R h1 h2 h3 h4 h5) (hr R h1 h2 h3 h4 h5)
theorem Blk.ind {motive : (l : List ByteArray) → (k : Nat) → Blk l k → Prop} (nil : motive [] 0 Blk.nil) (sim : ∀ {p r : List ByteArray} {k : Nat} (hp : Sim p) (hr : Blk r k), motive r k hr → motive _ _ (Blk.sim hp hr))
    (whl : ∀ {c b r : List ByteArray} {j k : Nat} (hc : Cnd c) (hb : Blk b j) (hr : Blk r k), motive b j hb → motive r k hr → motive _ _ (Blk.whl hc hb hr))
    (ife : ∀ {c b r : List ByteArray} {j k : Nat} (hc : Cnd c) (hb : Blk b j) (hr : Blk r k), motive b j hb → motive r k hr → motive _ _ (Blk.ife hc hb hr))
    (ifl : ∀ {c b d r : List ByteArray} {j i k : Nat} (hc : Cnd c) (hb : Blk b j) (hd : Blk d i) (hr : Blk r k), motive b j hb → motive d i hd → motive r k hr → motive _ _ (Blk.ifl hc hb hd hr))
    {l : List ByteArray} {k : Nat} (h : Blk l k) : motive l k h := by
  obtain ⟨_, h2⟩ := h (fun l k => ∃ h, motive l k h) ⟨_, nil⟩ (fun hp ⟨hr, ih⟩ => ⟨_, sim hp hr ih⟩) (fun hc ⟨hb, ib⟩ ⟨hr, ir⟩ => ⟨_, whl hc hb hr ib ir⟩) (fun hc ⟨hb, ib⟩ ⟨hr, ir⟩ => ⟨_, ife hc hb hr ib ir⟩) (fun hc ⟨hb, ib⟩ ⟨hd, id⟩ ⟨hr, ir⟩ => ⟨_, ifl hc hb hd hr ib id ir⟩)
  exact h2

theorem sqN_some {f g : List ByteArray → Option (List ByteArray × Nat)} {r p : List ByteArray} {n : Nat} : sqN f g r = some (p, n) ↔ ∃ q k j, f r = some (q, k) ∧ g q = some (p, j) ∧ n = k + j := by
  unfold sqN
  cases hf : f r with
  | none => simp
  | some qk =>
    obtain ⟨q, k⟩ := qk
    dsimp only
    cases hg : g q with
    | none =>
      constructor
      · intro h; cases h
      · rintro ⟨q', k', j, e, h, _⟩; cases e; rw [hg] at h; cases h
    | some pj =>
      obtain ⟨p', j⟩ := pj
      constructor
      · intro h; cases h; exact ⟨q, k, j, rfl, hg, rfl⟩
      · rintro ⟨q', k', j', e, h, rfl⟩; cases e; rw [hg] at h; cases h; rfl
theorem n0_some {f : List ByteArray → Option (List ByteArray)} {r p : List ByteArray} {n : Nat} : n0 f r = some (p, n) ↔ f r = some p ∧ n = 0 := by
  unfold n0
  cases f r with
  | none => simp
  | some q => simp only [Option.map_some, Option.some.injEq, Prod.mk.injEq]; exact ⟨fun h => ⟨h.1, h.2.symm⟩, fun h => ⟨h.1, h.2.symm⟩⟩
theorem n1_some {f : List ByteArray → Option (List ByteArray)} {r p : List ByteArray} {n : Nat} : n1 f r = some (p, n) ↔ f r = some p ∧ n = 1 := by
  unfold n1
  cases f r with
  | none => simp
  | some q => simp only [Option.map_some, Option.some.injEq, Prod.mk.injEq]; exact ⟨fun h => ⟨h.1, h.2.symm⟩, fun h => ⟨h.1, h.2.symm⟩⟩
theorem hdB_some {k : ByteArray} {r : List ByteArray} (h : hdB k r = true) : r = k :: r.tail := by
  cases r with
  | nil => cases h
  | cons x r => rw [eqW_iff.1 (show eqW x k = true from h)]; rfl

/-- the head and the first block -/
theorem pHd_some {k : ByteArray} {pb : List ByteArray → Option (List ByteArray × Nat)} {r q : List ByteArray} {n : Nat} :
    pHd k pb r = some (q, n) ↔ ∃ c t j, Cnd c ∧ r = k :: opW :: (c ++ clW :: t) ∧ pb t = some (q, j) ∧ n = 1 + j := by
  unfold pHd
  rw [sqN_some]
  constructor
  · rintro ⟨t, a, j, h1, h2, rfl⟩
    obtain ⟨s, a1, a2, h3, h4, rfl⟩ := sqN_some.1 h1
    obtain ⟨h5, rfl⟩ := n0_some.1 h3
    obtain ⟨h6, rfl⟩ := n1_some.1 h4
    obtain ⟨c, hc, rfl⟩ := pTs_some.1 h6
    exact ⟨c, t, j, hc, pEx_eq.1 h5, h2, by omega⟩
  · rintro ⟨c, t, j, hc, rfl, h2, rfl⟩
    exact ⟨t, 0 + 1, j, sqN_some.2 ⟨_, 0, 1, n0_some.2 ⟨pEx_self _ _, rfl⟩, n1_some.2 ⟨pTs_some.2 ⟨c, hc, rfl⟩, rfl⟩, rfl⟩, h2, by omega⟩
/-- a block with its brackets was read -/
def BlR (r q : List ByteArray) (k : Nat) : Prop := ∃ b, Blk b k ∧ r = lbW :: (b ++ rbW :: q)
theorem cs_sound {pb : List ByteArray → Option (List ByteArray × Nat)} {f : Nat} (hb : ∀ r q k, r.length < f → pb r = some (q, k) → BlR r q k) (n : Nat) :
    ∀ r q k, r.length < f → pCs (pCm pb) n r = some (q, k) → ∃ b, Blk b k ∧ r = b ++ q := by
  induction n with
  | zero => intro r q k _ h; cases h; exact ⟨[], Blk.nil, rfl⟩
  | succ n ih =>
    intro r q k hr h
    simp only [pCs] at h
    by_cases h1 : hdB kRB r = true
    · rw [if_pos h1] at h; cases h; exact ⟨[], Blk.nil, rfl⟩
    · rw [if_neg h1] at h
      obtain ⟨t, a, j, h2, h3, rfl⟩ := sqN_some.1 h
      unfold pCm at h2
      by_cases hi : hdB kIf r = true
      · rw [if_pos hi] at h2
        obtain ⟨u, a1, a2, h4, h5, rfl⟩ := sqN_some.1 h2
        obtain ⟨c, v, j1, hc, rfl, h6, rfl⟩ := pHd_some.1 h4
        have hv : v.length < f := by simp only [List.length_cons, List.length_append] at hr; omega
        obtain ⟨b, hB, rfl⟩ := hb _ _ _ hv h6
        unfold pEl at h5
        by_cases he : hdB kElse u = true
        · rw [if_pos he] at h5
          obtain ⟨u1, b1, b2, h7, h8, rfl⟩ := sqN_some.1 h5
          cases h7
          have hu := hdB_some he
          rw [hu] at hr hv ⊢
          obtain ⟨d, hD, e8⟩ := hb _ _ _ (by simp only [List.length_cons, List.length_append] at hv; omega) h8
          rw [e8] at hr ⊢
          obtain ⟨z, hZ, rfl⟩ := ih _ _ _ (by simp only [List.length_cons, List.length_append] at hr; omega) h3
          have hK := Blk.ifl hc hB hD hZ
          rw [show j1 + 2 + b2 + j = 1 + j1 + (1 + b2) + j by omega] at hK
          exact ⟨_, hK, by simp [show kIf = ifW from rfl, show kElse = elW from rfl]⟩
        · rw [if_neg he] at h5
          cases h5
          obtain ⟨z, hZ, rfl⟩ := ih _ _ _ (by simp only [List.length_cons, List.length_append] at hr; omega) h3
          have hK := Blk.ife hc hB hZ
          rw [show j1 + 1 + j = 1 + j1 + 0 + j by omega] at hK
          exact ⟨_, hK, by simp [show kIf = ifW from rfl]⟩
      · rw [if_neg hi] at h2
        by_cases hw : hdB kWhile r = true
        · rw [if_pos hw] at h2
          obtain ⟨u, a1, a2, h4, h5, rfl⟩ := sqN_some.1 h2
          obtain ⟨c, v, j1, hc, rfl, h6, rfl⟩ := pHd_some.1 h4
          have hv : v.length < f := by simp only [List.length_cons, List.length_append] at hr; omega
          obtain ⟨b, hB, rfl⟩ := hb _ _ _ hv h6
          cases h5
          obtain ⟨z, hZ, rfl⟩ := ih _ _ _ (by simp only [List.length_cons, List.length_append] at hr; omega) h3
          have hK := Blk.whl hc hB hZ
          rw [show j1 + 2 + j = 1 + j1 + 1 + j by omega] at hK
          exact ⟨_, hK, by simp [show kWhile = whW from rfl]⟩
        · rw [if_neg hw] at h2
          obtain ⟨h4, rfl⟩ := n1_some.1 h2
          obtain ⟨p, hp, rfl⟩ := semi_sound h4
          obtain ⟨z, hZ, rfl⟩ := ih _ _ _ (by simp only [List.length_cons, List.length_append] at hr; omega) h3
          have hK := Blk.sim hp hZ
          rw [show j + 1 = 1 + j by omega] at hK
          exact ⟨_, hK, by simp⟩
theorem bl_sound (N : Nat) (f : Nat) : ∀ r q k, r.length < f → pBl N f r = some (q, k) → BlR r q k := by
  induction f with
  | zero => intro r q k h; omega
  | succ f ih =>
    intro r q k hr h
    simp only [pBl] at h
    obtain ⟨t, a1, a2, h1, h2, rfl⟩ := sqN_some.1 h
    obtain ⟨u, b1, b2, h3, h4, rfl⟩ := sqN_some.1 h1
    obtain ⟨h5, rfl⟩ := n0_some.1 h3
    obtain ⟨h6, rfl⟩ := n0_some.1 h2
    have e3 := pEx_eq.1 h5
    have e2 := pEx_eq.1 h6
    subst e3
    obtain ⟨b, hB, rfl⟩ := cs_sound ih N u t b2 (by simp only [List.length_cons] at hr; omega) h4
    subst e2
    exact ⟨b, by rw [show 0 + b2 + 0 = b2 by omega]; exact hB, rfl⟩

/-- the words of a simple command are not these -/
theorem sim_out {p : List ByteArray} (h : Sim p) {k : ByteArray} (h1 : k ≠ skipW) (h2 : k ≠ freeW) (h3 : k ≠ eqSW) (h4 : k ≠ newW) (h5 : k ≠ nilW) (h6 : k ≠ dotW) (h7 : k ≠ nW) (h8 : lowB k = false) : ∀ x ∈ p, x ≠ k := by
  intro x hx
  cases h using Sim.ind with
  | skip => simp only [List.mem_cons, List.not_mem_nil, or_false] at hx; subst hx; exact h1.symm
  | free hb =>
    simp only [List.mem_cons, List.not_mem_nil, or_false] at hx
    rcases hx with rfl | rfl
    · exact h2.symm
    · exact low_ne hb h8
  | val ha hc =>
    simp only [List.mem_cons, List.not_mem_nil, or_false] at hx
    rcases hx with rfl | rfl | rfl
    · exact low_ne ha h8
    · exact h3.symm
    · rcases hc with rfl | rfl | hc
      · exact h4.symm
      · exact h5.symm
      · exact low_ne hc h8
  | load ha hc =>
    simp only [List.mem_cons, List.not_mem_nil, or_false] at hx
    rcases hx with rfl | rfl | rfl | rfl | rfl
    · exact low_ne ha h8
    · exact h3.symm
    · exact low_ne hc h8
    · exact h6.symm
    · exact h7.symm
  | store ha hc =>
    simp only [List.mem_cons, List.not_mem_nil, or_false] at hx
    rcases hx with rfl | rfl | rfl | rfl | rfl
    · exact low_ne ha h8
    · exact h6.symm
    · exact h7.symm
    · exact h3.symm
    · rcases hc with rfl | hc
      · exact h5.symm
      · exact low_ne hc h8
theorem cnd_out {p : List ByteArray} (h : Cnd p) {k : ByteArray} (h1 : k ≠ starW) (h2 : k ≠ eqSW) (h3 : k ≠ neSW) (h4 : k ≠ nilW) (h8 : lowB k = false) : ∀ x ∈ p, x ≠ k := by
  intro x hx
  cases h using Cnd.ind with
  | star => simp only [List.mem_cons, List.not_mem_nil, or_false] at hx; subst hx; exact h1.symm
  | two ha hb hc =>
    simp only [List.mem_cons, List.not_mem_nil, or_false] at hx
    rcases hx with rfl | rfl | rfl
    · exact low_ne ha h8
    · rcases hb with rfl | rfl
      · exact h2.symm
      · exact h3.symm
    · rcases hc with rfl | hc
      · exact h4.symm
      · exact low_ne hc h8
theorem sim_lb {p : List ByteArray} (h : Sim p) : ∀ x ∈ p, x ≠ lbW := sim_out h (data_ne (by simp [lbW, skipW])) (data_ne (by simp [lbW, freeW])) (data_ne (by simp [lbW, eqSW])) (data_ne (by simp [lbW, newW])) (data_ne (by simp [lbW, nilW])) (data_ne (by simp [lbW, dotW])) (data_ne (by simp [lbW, nW])) rfl
theorem sim_rb {p : List ByteArray} (h : Sim p) : ∀ x ∈ p, x ≠ rbW := sim_out h (data_ne (by simp [rbW, skipW])) (data_ne (by simp [rbW, freeW])) (data_ne (by simp [rbW, eqSW])) (data_ne (by simp [rbW, newW])) (data_ne (by simp [rbW, nilW])) (data_ne (by simp [rbW, dotW])) (data_ne (by simp [rbW, nW])) rfl
theorem sim_se {p : List ByteArray} (h : Sim p) : ∀ x ∈ p, x ≠ seW := sim_out h (data_ne (by simp [seW, skipW])) (data_ne (by simp [seW, freeW])) (data_ne (by simp [seW, eqSW])) (data_ne (by simp [seW, newW])) (data_ne (by simp [seW, nilW])) (data_ne (by simp [seW, dotW])) (data_ne (by simp [seW, nW])) rfl
theorem sim_if {p : List ByteArray} (h : Sim p) : ∀ x ∈ p, x ≠ ifW := sim_out h (data_ne (by simp [ifW, skipW])) (data_ne (by simp [ifW, freeW])) (data_ne (by simp [ifW, eqSW])) (data_ne (by simp [ifW, newW])) (data_ne (by simp [ifW, nilW])) (data_ne (by simp [ifW, dotW])) (data_ne (by simp [ifW, nW])) rfl
theorem sim_wh {p : List ByteArray} (h : Sim p) : ∀ x ∈ p, x ≠ whW := sim_out h (data_ne (by simp [whW, skipW])) (data_ne (by simp [whW, freeW])) (data_ne (by simp [whW, eqSW])) (data_ne (by simp [whW, newW])) (data_ne (by simp [whW, nilW])) (data_ne (by simp [whW, dotW])) (data_ne (by simp [whW, nW])) rfl
theorem sim_el {p : List ByteArray} (h : Sim p) : ∀ x ∈ p, x ≠ elW := sim_out h (data_ne (by simp [elW, skipW])) (data_ne (by simp [elW, freeW])) (data_ne (by simp [elW, eqSW])) (data_ne (by simp [elW, newW])) (data_ne (by simp [elW, nilW])) (data_ne (by simp [elW, dotW])) (data_ne (by simp [elW, nW])) rfl
theorem cnd_lb {p : List ByteArray} (h : Cnd p) : ∀ x ∈ p, x ≠ lbW := cnd_out h (data_ne (by simp [lbW, starW])) (data_ne (by simp [lbW, eqSW])) (data_ne (by simp [lbW, neSW])) (data_ne (by simp [lbW, nilW])) rfl
theorem cnd_rb {p : List ByteArray} (h : Cnd p) : ∀ x ∈ p, x ≠ rbW := cnd_out h (data_ne (by simp [rbW, starW])) (data_ne (by simp [rbW, eqSW])) (data_ne (by simp [rbW, neSW])) (data_ne (by simp [rbW, nilW])) rfl
theorem cnd_cl {p : List ByteArray} (h : Cnd p) : ∀ x ∈ p, x ≠ clW := cnd_out h (data_ne (by simp [clW, starW])) (data_ne (by simp [clW, eqSW])) (data_ne (by simp [clW, neSW])) (data_ne (by simp [clW, nilW])) rfl
theorem sim_cons {p : List ByteArray} (h : Sim p) : ∃ x t, p = x :: t := by cases h using Sim.ind <;> exact ⟨_, _, rfl⟩
theorem rb_if : eqW rbW ifW = false := eqW_ne (data_ne (by simp [rbW, ifW]))
theorem if_rb : eqW ifW rbW = false := eqW_ne (data_ne (by simp [rbW, ifW]))
theorem wh_rb : eqW whW rbW = false := eqW_ne (data_ne (by simp [rbW, whW]))
theorem wh_if : eqW whW ifW = false := eqW_ne (data_ne (by simp [whW, ifW]))
theorem if_wh : eqW ifW whW = false := eqW_ne (data_ne (by simp [whW, ifW]))
theorem if_el : eqW ifW elW = false := eqW_ne (data_ne (by simp [elW, ifW]))
theorem wh_el : eqW whW elW = false := eqW_ne (data_ne (by simp [elW, whW]))
theorem rb_el : eqW rbW elW = false := eqW_ne (data_ne (by simp [elW, rbW]))
/-- no command begins with else -/
theorem blk_el {b : List ByteArray} {k : Nat} (h : Blk b k) {q : List ByteArray} (hq : hdB elW q = false) : hdB elW (b ++ q) = false := by
  induction h using Blk.ind with
  | nil => exact hq
  | sim hp _ =>
    obtain ⟨x, t, rfl⟩ := sim_cons hp
    exact eqW_ne (sim_el hp x (by simp))
  | whl => exact wh_el
  | ife => exact if_el
  | ifl => exact if_el

theorem cs_complete {b : List ByteArray} {k : Nat} (h : Blk b k) : ∀ (N f n : Nat) (q : List ByteArray), b.length < f → b.length < N → b.length < n → hdB rbW q = true → pCs (pCm (pBl N f)) n (b ++ q) = some (q, k) := by
  induction h using Blk.ind with
  | nil =>
    intro N f n q _ _ hn hq
    cases n with
    | zero => simp at hn
    | succ n => show (if hdB rbW q = true then some (q, 0) else _) = _; rw [if_pos hq]
  | @sim p r k hp hr ih =>
    intro N f n q hf hN hn hq
    simp only [List.length_append, List.length_cons] at hf hN hn
    cases n with
    | zero => omega
    | succ n =>
      have h1 := ih N f n q (by omega) (by omega) (by omega) hq
      have h2 := semi_complete (q := r ++ q) hp
      obtain ⟨x, t, rfl⟩ := sim_cons hp
      have e : (x :: t) ++ seW :: r ++ q = x :: t ++ seW :: (r ++ q) := by simp
      rw [e]
      show (if eqW x rbW = true then _ else sqN (pCm (pBl N f)) (pCs (pCm (pBl N f)) n) (x :: t ++ seW :: (r ++ q))) = _
      rw [eqW_ne (sim_rb hp x (by simp)), if_neg (by simp)]
      refine sqN_some.2 ⟨r ++ q, 1, k, ?_, h1, by omega⟩
      show (if eqW x ifW = true then _ else if eqW x whW = true then _ else pSc (x :: t ++ seW :: (r ++ q))) = _
      rw [eqW_ne (sim_if hp x (by simp)), eqW_ne (sim_wh hp x (by simp)), if_neg (by simp), if_neg (by simp)]
      exact n1_some.2 ⟨h2, rfl⟩
  | @whl c b r j k hc hb hr ihb ihr =>
    intro N f n q hf hN hn hq
    simp only [List.length_append, List.length_cons] at hf hN hn
    cases n with
    | zero => omega
    | succ n =>
      cases f with
      | zero => omega
      | succ f =>
        have h1 := ihr N (f + 1) n q (by omega) (by omega) (by omega) hq
        have h2 := ihb N f N (rbW :: (r ++ q)) (by omega) (by omega) (by omega) (eqW_rfl _)
        have h3 : pBl N (f + 1) (lbW :: (b ++ rbW :: (r ++ q))) = some (r ++ q, j) :=
          sqN_some.2 ⟨rbW :: (r ++ q), j, 0, sqN_some.2 ⟨_, 0, j, n0_some.2 ⟨pEx_self _ _, rfl⟩, h2, by omega⟩, n0_some.2 ⟨pEx_self _ _, rfl⟩, rfl⟩
        have h4 := pHd_some.2 ⟨c, _, j, hc, (rfl : kWhile :: opW :: (c ++ clW :: lbW :: (b ++ rbW :: (r ++ q))) = _), h3, rfl⟩
        have e : (whW :: opW :: (c ++ clW :: lbW :: (b ++ rbW :: r))) ++ q = whW :: opW :: (c ++ clW :: lbW :: (b ++ rbW :: (r ++ q))) := by simp
        rw [e]
        show (if eqW whW rbW = true then _ else sqN (pCm (pBl N (f + 1))) (pCs (pCm (pBl N (f + 1))) n) (whW :: opW :: (c ++ clW :: lbW :: (b ++ rbW :: (r ++ q))))) = _
        rw [wh_rb, if_neg (by simp)]
        refine sqN_some.2 ⟨r ++ q, 1 + j + 1, k, ?_, h1, by omega⟩
        show (if eqW whW ifW = true then _ else if eqW whW whW = true then pLo (pBl N (f + 1)) (whW :: opW :: (c ++ clW :: lbW :: (b ++ rbW :: (r ++ q)))) else _) = _
        rw [wh_if, eqW_rfl, if_neg (by simp), if_pos rfl]
        exact sqN_some.2 ⟨_, _, 1, h4, rfl, rfl⟩
  | @ife c b r j k hc hb hr ihb ihr =>
    intro N f n q hf hN hn hq
    simp only [List.length_append, List.length_cons] at hf hN hn
    cases n with
    | zero => omega
    | succ n =>
      cases f with
      | zero => omega
      | succ f =>
        have h1 := ihr N (f + 1) n q (by omega) (by omega) (by omega) hq
        have h2 := ihb N f N (rbW :: (r ++ q)) (by omega) (by omega) (by omega) (eqW_rfl _)
        have h3 : pBl N (f + 1) (lbW :: (b ++ rbW :: (r ++ q))) = some (r ++ q, j) :=
          sqN_some.2 ⟨rbW :: (r ++ q), j, 0, sqN_some.2 ⟨_, 0, j, n0_some.2 ⟨pEx_self _ _, rfl⟩, h2, by omega⟩, n0_some.2 ⟨pEx_self _ _, rfl⟩, rfl⟩
        have h4 := pHd_some.2 ⟨c, _, j, hc, (rfl : kIf :: opW :: (c ++ clW :: lbW :: (b ++ rbW :: (r ++ q))) = _), h3, rfl⟩
        have e : (ifW :: opW :: (c ++ clW :: lbW :: (b ++ rbW :: r))) ++ q = ifW :: opW :: (c ++ clW :: lbW :: (b ++ rbW :: (r ++ q))) := by simp
        rw [e]
        show (if eqW ifW rbW = true then _ else sqN (pCm (pBl N (f + 1))) (pCs (pCm (pBl N (f + 1))) n) (ifW :: opW :: (c ++ clW :: lbW :: (b ++ rbW :: (r ++ q))))) = _
        rw [if_rb, if_neg (by simp)]
        refine sqN_some.2 ⟨r ++ q, 1 + j + 0, k, ?_, h1, by omega⟩
        show (if eqW ifW ifW = true then pBr (pBl N (f + 1)) (ifW :: opW :: (c ++ clW :: lbW :: (b ++ rbW :: (r ++ q)))) else _) = _
        rw [eqW_rfl, if_pos rfl]
        refine sqN_some.2 ⟨_, _, 0, h4, ?_, rfl⟩
        show (if hdB elW (r ++ q) = true then _ else some (r ++ q, 0)) = _
        have hq2 : hdB elW q = false := by rw [hdB_some hq]; exact rb_el
        rw [blk_el hr hq2, if_neg (by simp)]
  | @ifl c b d r j i k hc hb hd hr ihb ihd ihr =>
    intro N f n q hf hN hn hq
    simp only [List.length_append, List.length_cons] at hf hN hn
    cases n with
    | zero => omega
    | succ n =>
      cases f with
      | zero => omega
      | succ f =>
        have h1 := ihr N (f + 1) n q (by omega) (by omega) (by omega) hq
        have h2 := ihb N f N (rbW :: elW :: lbW :: (d ++ rbW :: (r ++ q))) (by omega) (by omega) (by omega) (eqW_rfl _)
        have h3 : pBl N (f + 1) (lbW :: (b ++ rbW :: elW :: lbW :: (d ++ rbW :: (r ++ q)))) = some (elW :: lbW :: (d ++ rbW :: (r ++ q)), j) :=
          sqN_some.2 ⟨rbW :: elW :: lbW :: (d ++ rbW :: (r ++ q)), j, 0, sqN_some.2 ⟨_, 0, j, n0_some.2 ⟨pEx_self _ _, rfl⟩, h2, by omega⟩, n0_some.2 ⟨pEx_self _ _, rfl⟩, rfl⟩
        have h4 := pHd_some.2 ⟨c, _, j, hc, (rfl : kIf :: opW :: (c ++ clW :: lbW :: (b ++ rbW :: elW :: lbW :: (d ++ rbW :: (r ++ q)))) = _), h3, rfl⟩
        have h5 := ihd N f N (rbW :: (r ++ q)) (by omega) (by omega) (by omega) (eqW_rfl _)
        have h6 : pBl N (f + 1) (lbW :: (d ++ rbW :: (r ++ q))) = some (r ++ q, i) :=
          sqN_some.2 ⟨rbW :: (r ++ q), i, 0, sqN_some.2 ⟨_, 0, i, n0_some.2 ⟨pEx_self _ _, rfl⟩, h5, by omega⟩, n0_some.2 ⟨pEx_self _ _, rfl⟩, rfl⟩
        have e : (ifW :: opW :: (c ++ clW :: lbW :: (b ++ rbW :: elW :: lbW :: (d ++ rbW :: r)))) ++ q = ifW :: opW :: (c ++ clW :: lbW :: (b ++ rbW :: elW :: lbW :: (d ++ rbW :: (r ++ q)))) := by simp
        rw [e]
        show (if eqW ifW rbW = true then _ else sqN (pCm (pBl N (f + 1))) (pCs (pCm (pBl N (f + 1))) n) (ifW :: opW :: (c ++ clW :: lbW :: (b ++ rbW :: elW :: lbW :: (d ++ rbW :: (r ++ q)))))) = _
        rw [if_rb, if_neg (by simp)]
        refine sqN_some.2 ⟨r ++ q, 1 + j + (1 + i), k, ?_, h1, by omega⟩
        show (if eqW ifW ifW = true then pBr (pBl N (f + 1)) (ifW :: opW :: (c ++ clW :: lbW :: (b ++ rbW :: elW :: lbW :: (d ++ rbW :: (r ++ q))))) else _) = _
        rw [eqW_rfl, if_pos rfl]
        refine sqN_some.2 ⟨_, _, 1 + i, h4, ?_, rfl⟩
        show (if eqW elW elW = true then sqN one (pBl N (f + 1)) (lbW :: (d ++ rbW :: (r ++ q))) else _) = _
        rw [eqW_rfl, if_pos rfl]
        exact sqN_some.2 ⟨_, 1, i, rfl, h6, rfl⟩
theorem bl_complete {b : List ByteArray} {k : Nat} (h : Blk b k) {N f : Nat} {q : List ByteArray} (hf : b.length < f) (hN : b.length < N) : pBl N (f + 1) (lbW :: (b ++ rbW :: q)) = some (q, k) :=
  sqN_some.2 ⟨rbW :: q, k, 0, sqN_some.2 ⟨_, 0, k, n0_some.2 ⟨pEx_self _ _, rfl⟩, cs_complete h N f N (rbW :: q) hf hN hN (eqW_rfl _), by omega⟩, n0_some.2 ⟨pEx_self _ _, rfl⟩, rfl⟩

/-! ### the reference's blocks -/
theorem clo_lb (d : Nat) (r : List ByteArray) : clo d (lbW :: r) = (clo (d + 1) r).map (· + 1) := by
  show (if eqW lbW lbW = true then _ else _) = _; rw [if_pos (eqW_rfl _)]
theorem rb_lb : eqW rbW lbW = false := eqW_ne (data_ne (by simp [rbW, lbW]))
theorem clo_rb (d : Nat) (r : List ByteArray) (hd : 1 ≤ d) : clo (d + 1) (rbW :: r) = (clo d r).map (· + 1) := by
  show (if eqW rbW lbW = true then _ else if eqW rbW rbW = true then (if d + 1 = 1 then some 0 else (clo (d + 1 - 1) r).map (· + 1)) else _) = _
  rw [rb_lb, eqW_rfl, if_neg (by simp), if_pos rfl, if_neg (by omega)]; rfl
theorem clo_rb1 (r : List ByteArray) : clo 1 (rbW :: r) = some 0 := by
  show (if eqW rbW lbW = true then _ else if eqW rbW rbW = true then (if 1 = 1 then some 0 else _) else _) = _
  rw [rb_lb, eqW_rfl, if_neg (by simp), if_pos rfl, if_pos rfl]
theorem clo_one {x : ByteArray} (hl : x ≠ lbW) (hr : x ≠ rbW) (d : Nat) (r : List ByteArray) : clo d (x :: r) = (clo d r).map (· + 1) := by
  show (if eqW x lbW = true then _ else if eqW x rbW = true then _ else (clo d r).map (· + 1)) = _
  rw [eqW_ne hl, eqW_ne hr, if_neg (by simp), if_neg (by simp)]
theorem omap_add (o : Option Nat) (a b : Nat) : (o.map (· + a)).map (· + b) = o.map (· + (a + b)) := by
  cases o with
  | none => rfl
  | some x => simp only [Option.map_some]; congr 1; omega
theorem clo_out {p : List ByteArray} (hl : ∀ x ∈ p, x ≠ lbW) (hr : ∀ x ∈ p, x ≠ rbW) (d : Nat) (r : List ByteArray) : clo d (p ++ r) = (clo d r).map (· + p.length) := by
  induction p with
  | nil => show clo d r = (clo d r).map (· + 0); cases clo d r <;> rfl
  | cons x p ih =>
    show clo d (x :: (p ++ r)) = _
    rw [clo_one (hl x (by simp)) (hr x (by simp)), ih (fun y hy => hl y (by simp [hy])) (fun y hy => hr y (by simp [hy])), omap_add]
    rfl
theorem hd_out {w : ByteArray} {c : List ByteArray} (h1 : w ≠ lbW) (h2 : w ≠ rbW) (hc : Cnd c) (d : Nat) (t : List ByteArray) : clo d (w :: opW :: (c ++ clW :: lbW :: t)) = (clo (d + 1) t).map (· + (c.length + 4)) := by
  rw [clo_one h1 h2, clo_one (data_ne (by simp [opW, lbW])) (data_ne (by simp [opW, rbW])), clo_out (cnd_lb hc) (cnd_rb hc), clo_one (data_ne (by simp [clW, lbW])) (data_ne (by simp [clW, rbW])), clo_lb, omap_add, omap_add, omap_add, omap_add]
  congr 2; funext x; omega
theorem wh_b1 : whW ≠ lbW := data_ne (by simp [whW, lbW])
theorem wh_b2 : whW ≠ rbW := data_ne (by simp [whW, rbW])
theorem if_b1 : ifW ≠ lbW := data_ne (by simp [ifW, lbW])
theorem if_b2 : ifW ≠ rbW := data_ne (by simp [ifW, rbW])
/-- the brackets within a block belong to each other -/
theorem clo_blk {b : List ByteArray} {k : Nat} (h : Blk b k) : ∀ (d : Nat) (r : List ByteArray), 1 ≤ d → clo d (b ++ r) = (clo d r).map (· + b.length) := by
  induction h using Blk.ind with
  | nil => intro d r _; cases h : clo d r <;> simp [h]
  | @sim p r k hp _ ih =>
    intro d q hd
    rw [List.append_assoc, List.cons_append, clo_out (sim_lb hp) (sim_rb hp), clo_one (data_ne (by simp [seW, lbW])) (data_ne (by simp [seW, rbW])), ih d q hd, omap_add, omap_add]
    congr 2; funext x; simp only [List.length_append, List.length_cons]; omega
  | @whl c b r j k hc _ _ ihb ihr =>
    intro d q hd
    have e : (whW :: opW :: (c ++ clW :: lbW :: (b ++ rbW :: r))) ++ q = whW :: opW :: (c ++ clW :: lbW :: (b ++ rbW :: (r ++ q))) := by simp
    rw [e, hd_out wh_b1 wh_b2 hc, ihb (d + 1) _ (by omega), clo_rb d _ hd, ihr d q hd, omap_add, omap_add, omap_add]
    congr 2; funext x; simp only [List.length_append, List.length_cons]; omega
  | @ife c b r j k hc _ _ ihb ihr =>
    intro d q hd
    have e : (ifW :: opW :: (c ++ clW :: lbW :: (b ++ rbW :: r))) ++ q = ifW :: opW :: (c ++ clW :: lbW :: (b ++ rbW :: (r ++ q))) := by simp
    rw [e, hd_out if_b1 if_b2 hc, ihb (d + 1) _ (by omega), clo_rb d _ hd, ihr d q hd, omap_add, omap_add, omap_add]
    congr 2; funext x; simp only [List.length_append, List.length_cons]; omega
  | @ifl c b e r j i k hc _ _ _ ihb ihe ihr =>
    intro d q hd
    have e1 : (ifW :: opW :: (c ++ clW :: lbW :: (b ++ rbW :: elW :: lbW :: (e ++ rbW :: r)))) ++ q = ifW :: opW :: (c ++ clW :: lbW :: (b ++ rbW :: elW :: lbW :: (e ++ rbW :: (r ++ q)))) := by simp
    rw [e1, hd_out if_b1 if_b2 hc, ihb (d + 1) _ (by omega), clo_rb d _ hd, clo_one (data_ne (by simp [elW, lbW])) (data_ne (by simp [elW, rbW])), clo_lb, ihe (d + 1) _ (by omega), clo_rb d _ hd, ihr d q hd, omap_add, omap_add, omap_add, omap_add, omap_add, omap_add, omap_add]
    congr 2; funext x; simp only [List.length_append, List.length_cons]; omega
theorem clo_blkEnd {b : List ByteArray} {k : Nat} (h : Blk b k) (r : List ByteArray) : clo 1 (b ++ rbW :: r) = some b.length := by
  rw [clo_blk h 1 _ (Nat.le_refl _), clo_rb1]; simp
theorem clo_split {t : List ByteArray} : ∀ {d j : Nat}, clo d t = some j → ∃ b u, t = b ++ rbW :: u ∧ j = b.length := by
  induction t with
  | nil => intro d j h; cases h
  | cons x t ih =>
    intro d j h
    change (if eqW x lbW = true then (clo (d + 1) t).map (· + 1) else if eqW x rbW = true then (if d = 1 then some 0 else (clo (d - 1) t).map (· + 1)) else (clo d t).map (· + 1)) = some j at h
    have go : ∀ {d' : Nat}, (clo d' t).map (· + 1) = some j → ∃ b u, x :: t = b ++ rbW :: u ∧ j = b.length := by
      intro d' h'
      obtain ⟨i, hi, rfl⟩ := Option.map_eq_some_iff.1 h'
      obtain ⟨b, u, rfl, rfl⟩ := ih hi
      exact ⟨x :: b, u, rfl, rfl⟩
    by_cases h1 : eqW x lbW = true
    · rw [if_pos h1] at h; exact go h
    · rw [if_neg h1] at h
      by_cases h2 : eqW x rbW = true
      · rw [if_pos h2] at h
        by_cases h3 : d = 1
        · rw [if_pos h3] at h; cases h; exact ⟨[], t, by rw [eqW_iff.1 h2]; rfl, rfl⟩
        · rw [if_neg h3] at h; exact go h
      · rw [if_neg h2] at h; exact go h
theorem fnd_at {p : List ByteArray} {k : ByteArray} (h : ∀ x ∈ p, x ≠ k) (r : List ByteArray) : fndL (p ++ k :: r) k = p.length := by
  induction p with
  | nil => show (if eqW k k = true then 0 else _) = 0; rw [if_pos (eqW_rfl _)]
  | cons x p ih =>
    show (if eqW x k = true then 0 else fndL (p ++ k :: r) k + 1) = _
    rw [eqW_ne (h x (by simp)), if_neg (by simp), ih (fun y hy => h y (by simp [hy]))]; rfl
theorem fnd_split {l : List ByteArray} {k : ByteArray} (h : fndL l k < l.length) : ∃ p r, l = p ++ k :: r ∧ fndL l k = p.length ∧ ∀ x ∈ p, x ≠ k := by
  induction l with
  | nil => simp at h
  | cons x l ih =>
    change (if eqW x k = true then 0 else fndL l k + 1) < l.length + 1 at h
    show ∃ p r, x :: l = p ++ k :: r ∧ (if eqW x k = true then 0 else fndL l k + 1) = p.length ∧ ∀ x ∈ p, x ≠ k
    by_cases h1 : eqW x k = true
    · rw [if_pos h1]; exact ⟨[], l, by rw [eqW_iff.1 h1]; rfl, rfl, by simp⟩
    · rw [if_neg h1] at h ⊢
      obtain ⟨p, r, e, h2, h3⟩ := ih (by omega)
      refine ⟨x :: p, r, by rw [e]; rfl, by rw [h2]; rfl, ?_⟩
      intro y hy
      simp only [List.mem_cons] at hy
      rcases hy with rfl | hy
      · intro e; exact h1 (eqW_iff.2 e)
      · exact h3 y hy

theorem op_cl : eqW opW clW = false := eqW_ne (data_ne (by simp [opW, clW]))
/-- where things are in if and while -/
theorem drop_hd (w : ByteArray) (c t : List ByteArray) (n : Nat) : (w :: opW :: (c ++ clW :: lbW :: t)).drop (c.length + 4 + n) = t.drop n := by
  rw [show c.length + 4 + n = (c.length + (2 + n)) + 2 by omega]
  simp only [List.drop_succ_cons]
  rw [List.drop_append, List.drop_eq_nil_of_le (by omega)]
  simp only [List.nil_append]
  rw [show c.length + (2 + n) - c.length = n + 2 by omega]
  rfl
theorem get_hd (w : ByteArray) (c t : List ByteArray) (n : Nat) : (w :: opW :: (c ++ clW :: lbW :: t))[c.length + 4 + n]? = t[n]? := by
  have := congrArg List.head? (drop_hd w c t n)
  rw [List.head?_drop, List.head?_drop] at this
  exact this
theorem fnd_hd {w : ByteArray} {c t : List ByteArray} (hw : w ≠ clW) (hc : ∀ x ∈ c, x ≠ clW) : fndL (w :: opW :: (c ++ clW :: t)) clW = c.length + 2 := by
  rw [show w :: opW :: (c ++ clW :: t) = (w :: opW :: c) ++ clW :: t from rfl, fnd_at]
  · rfl
  · intro x hx
    simp only [List.mem_cons] at hx
    rcases hx with rfl | rfl | hx
    · exact hw
    · exact data_ne (by simp [opW, clW])
    · exact hc x hx
theorem rcH_get {w : ByteArray} {c t : List ByteArray} {j : Nat} (hw : w ≠ clW) (hc : Cnd c) (hj : clo 1 t = some j) : rcH (w :: opW :: (c ++ clW :: lbW :: t)) = some (c.length + 2, c.length + 4 + j) := by
  have h1 := fnd_hd (t := lbW :: t) hw (cnd_cl hc)
  have h2 : (w :: opW :: (c ++ clW :: lbW :: t))[c.length + 3]? = some lbW := by
    rw [show c.length + 3 = (c.length + 1) + 2 by omega]
    simp only [List.getElem?_cons_succ]
    rw [List.getElem?_append_right (by omega)]
    simp
  have h3 : shI (w :: opW :: (c ++ clW :: lbW :: t)) (c.length + 2 + 1) = ((c.length + 4 + j : Nat) : Int) := by
    unfold shI
    rw [show c.length + 2 + 1 + 1 = c.length + 4 + 0 by omega, drop_hd, List.drop_zero, hj]
  unfold rcH
  rw [h1, h3, if_neg, if_neg]
  · simp only [Int.toNat_natCast]
  · simp only [List.drop_succ_cons, List.drop_zero]
    rw [show c.length + 2 - 2 = c.length by omega, List.take_left, rcB_iff.2 hc]
    simp
    omega
  · rw [show (w :: opW :: (c ++ clW :: lbW :: t))[c.length + 2 + 1]? = some lbW from h2]
    simp only [List.length_cons, List.length_append, List.getElem?_cons_succ, List.getElem?_cons_zero, Option.getD_some, show opP = opW from rfl, eqW_rfl]
    simp
theorem rcH_split {w : ByteArray} {r : List ByteArray} {x : Nat × Nat} (hw : w ≠ clW) (h : rcH (w :: r) = some x) : ∃ c t j, Cnd c ∧ clo 1 t = some j ∧ r = opW :: (c ++ clW :: lbW :: t) := by
  unfold rcH at h
  by_cases h1 : (w :: r).length < 2 ∨ eqW ((w :: r)[1]?.getD em) opP = false ∨ (w :: r).length ≤ fndL (w :: r) clW + 1 ∨ eqW ((w :: r)[fndL (w :: r) clW + 1]?.getD em) lbW = false
  · rw [if_pos h1] at h; cases h
  · rw [if_neg h1] at h
    by_cases h2 : rcB (((w :: r).drop 2).take (fndL (w :: r) clW - 2)) = false ∨ shI (w :: r) (fndL (w :: r) clW + 1) < 0
    · rw [if_pos h2] at h; cases h
    · simp only [not_or] at h1 h2
      obtain ⟨a1, a2, a3, a4⟩ := h1
      obtain ⟨b1, b2⟩ := h2
      cases r with
      | nil => simp at a1
      | cons o r =>
        simp only [List.getElem?_cons_succ, List.getElem?_cons_zero, Option.getD_some, Bool.not_eq_false] at a2
        have e := eqW_iff.1 a2
        subst e
        have hf : fndL (w :: opP :: r) clW = fndL r clW + 2 := by
          show (if eqW w clW = true then 0 else (if eqW opW clW = true then 0 else fndL r clW + 1) + 1) = _
          rw [eqW_ne hw, op_cl, if_neg (by simp), if_neg (by simp)]
        rw [hf] at a3 a4 b1 b2
        simp only [List.length_cons] at a3
        obtain ⟨c, l3, rfl, h3, h4⟩ := fnd_split (show fndL r clW < r.length by omega)
        rw [h3] at a3 a4 b1 b2
        simp only [List.drop_succ_cons, List.drop_zero] at b1
        rw [show c.length + 2 - 2 = c.length by omega, List.take_left] at b1
        cases l3 with
        | nil => simp at a3
        | cons y t =>
          have hy : (w :: opP :: (c ++ clW :: y :: t))[c.length + 2 + 1]? = some y := by
            rw [show c.length + 2 + 1 = (c.length + 1) + 2 by omega]
            simp only [List.getElem?_cons_succ]
            rw [List.getElem?_append_right (by omega)]
            simp
          rw [hy] at a4
          simp only [Option.getD_some, Bool.not_eq_false] at a4
          have e := eqW_iff.1 a4
          subst e
          unfold shI at b2
          rw [show c.length + 2 + 1 + 1 = c.length + 4 + 0 by omega, show opP = opW from rfl, drop_hd, List.drop_zero] at b2
          cases hj : clo 1 t with
          | none => rw [hj] at b2; simp at b2
          | some j => exact ⟨c, t, j, rcB_iff.1 (by simpa using b1), hj, rfl⟩

theorem setTo_length (k n : Nat) (c : List Ins) : (setTo k n c).length = c.length := by simp [setTo]
theorem drop_bl (b u : List ByteArray) (n : Nat) : (b ++ rbW :: u).drop (b.length + 1 + n) = u.drop n := by
  rw [List.drop_append, List.drop_eq_nil_of_le (by omega), List.nil_append, show b.length + 1 + n - b.length = n + 1 by omega]
  rfl
theorem get_bl (b u : List ByteArray) (n : Nat) : (b ++ rbW :: u)[b.length + 1 + n]? = u[n]? := by
  have := congrArg List.head? (drop_bl b u n)
  rw [List.head?_drop, List.head?_drop] at this
  exact this
/-- what control makes of the words behind an if's first block -/
def rcEl (blk : List ByteArray → List Ins → Option (List Ins)) (c c2 : List Ins) (n : Nat) (u : List ByteArray) : Option (List Ins × Nat) :=
  if hdB elW u then
    if hdB lbW u.tail then
      match clo 1 u.tail.tail with
      | none => none
      | some i =>
        match blk (u.tail.tail.take i) (setTo c.length (c2.length + 1) (c2 ++ [gt 0])) with
        | none => none
        | some c7 => some (setTo c2.length c7.length c7, n + 3 + i)
    else none
  else some (setTo c.length c2.length c2, n)
theorem rct_two {blk : List ByteArray → List Ins → Option (List Ins)} {w : ByteArray} {c b u : List ByteArray} {c0 : List Ins} (hw : w ≠ clW) (hc : Cnd c) (hj : clo 1 (b ++ rbW :: u) = some b.length) :
    rct blk (w :: opW :: (c ++ clW :: lbW :: (b ++ rbW :: u))) c0 =
      match blk b (c0 ++ [{ rcI c with head := eqW w whW }]) with
      | none => none
      | some c2 => if eqW w whW then some (setTo c0.length (c2.length + 1) (c2 ++ [gt c0.length]), c.length + 5 + b.length) else rcEl blk c0 c2 (c.length + 5 + b.length) u := by
  unfold rct
  rw [rcH_get hw hc hj]
  dsimp only
  have d0 : ((w :: opW :: (c ++ clW :: lbW :: (b ++ rbW :: u))).drop (c.length + 2 + 2)).take (c.length + 4 + b.length - (c.length + 2 + 2)) = b := by
    have := drop_hd w c (b ++ rbW :: u) 0
    rw [show c.length + 2 + 2 = c.length + 4 + 0 by omega, this, List.drop_zero, show c.length + 4 + b.length - (c.length + 4 + 0) = b.length by omega, List.take_left]
  have d1 : ((w :: opW :: (c ++ clW :: lbW :: (b ++ rbW :: u))).drop 2).take (c.length + 2 - 2) = c := by
    simp only [List.drop_succ_cons, List.drop_zero]
    rw [show c.length + 2 - 2 = c.length by omega, List.take_left]
  have g1 : (w :: opW :: (c ++ clW :: lbW :: (b ++ rbW :: u)))[c.length + 4 + b.length + 1]? = u[0]? := by
    rw [show c.length + 4 + b.length + 1 = c.length + 4 + (b.length + 1 + 0) by omega, get_hd, get_bl]
  have g2 : (w :: opW :: (c ++ clW :: lbW :: (b ++ rbW :: u)))[c.length + 4 + b.length + 2]? = u[1]? := by
    rw [show c.length + 4 + b.length + 2 = c.length + 4 + (b.length + 1 + 1) by omega, get_hd, get_bl]
  have g3 : (w :: opW :: (c ++ clW :: lbW :: (b ++ rbW :: u))).drop (c.length + 4 + b.length + 3) = u.drop 2 := by
    rw [show c.length + 4 + b.length + 3 = c.length + 4 + (b.length + 1 + 2) by omega, drop_hd, drop_bl]
  have hl : (w :: opW :: (c ++ clW :: lbW :: (b ++ rbW :: u))).length = c.length + 4 + b.length + 1 + u.length := by
    simp only [List.length_cons, List.length_append]; omega
  have hs : shI (w :: opW :: (c ++ clW :: lbW :: (b ++ rbW :: u))) (c.length + 4 + b.length + 2) = match clo 1 (u.drop 2) with | some j => ((c.length + 4 + b.length + 3 + j : Nat) : Int) | none => -1 := by
    unfold shI; rw [g3]; cases clo 1 (u.drop 2) <;> rfl
  rw [d0, d1, g1, g2, g3, hl, hs]
  simp only [List.getElem?_cons_zero, Option.getD_some]
  cases blk b (c0 ++ [{ rcI c with head := eqW w whW }]) with
  | none => rfl
  | some c2 =>
    dsimp only
    by_cases h1 : eqW w whW = true
    · rw [if_pos h1, if_pos h1]
      congr 2; omega
    · rw [if_neg h1, if_neg h1]
      unfold rcEl
      cases u with
      | nil => simp [hdB]; omega
      | cons x u =>
        by_cases h2 : eqW x elW = true
        · rw [if_pos (by simp [h2]), if_pos (show hdB elW (x :: u) = true from h2)]
          cases u with
          | nil => simp [hdB]
          | cons y u =>
            simp only [List.tail_cons, List.getElem?_cons_succ, List.getElem?_cons_zero, Option.getD_some, List.drop_succ_cons, List.drop_zero]
            by_cases h3 : eqW y lbW = true
            · have h4 : hdB lbW (y :: u) = true := h3
              rw [if_neg (by simp [h3]; omega)]
              simp only [h4, if_true]
              cases clo 1 u with
              | none => simp
              | some i =>
                dsimp only
                rw [if_neg (Int.not_lt.2 (Int.natCast_nonneg _))]
                have e1 : ((c.length + 4 + b.length + 3 + i : Nat) : Int).toNat = c.length + 4 + b.length + 3 + i := by simp only [Int.toNat_natCast]
                rw [e1, show c.length + 4 + b.length + 3 + i - (c.length + 4 + b.length + 3) = i by omega]
                cases blk (u.take i) (setTo c0.length (c2.length + 1) (c2 ++ [gt 0])) with
                | none => rfl
                | some c7 => dsimp only; congr 2; omega
            · have h4 : hdB lbW (y :: u) = false := Bool.eq_false_iff.2 h3
              rw [if_pos (Or.inr (by simpa using h3))]
              simp only [h4, Bool.false_eq_true, if_false]
        · rw [if_neg (by simp [h2]), if_neg (show ¬ hdB elW (x :: u) = true from h2)]
          congr 2; omega

theorem wh_cl : whW ≠ clW := data_ne (by simp [whW, clW])
theorem if_cl : ifW ≠ clW := data_ne (by simp [ifW, clW])
theorem bs_sound {blk : List ByteArray → List Ins → Option (List Ins)} (hb : ∀ l c c', blk l c = some c' → ∃ k, Blk l k ∧ c'.length = c.length + k) (m : Nat) :
    ∀ l c c', rbs (rct blk) m l c = some c' → ∃ k, Blk l k ∧ c'.length = c.length + k := by
  induction m with
  | zero => intro l c c' h; cases h
  | succ m ih =>
    intro l c c' h
    cases l with
    | nil => cases h; exact ⟨0, Blk.nil, rfl⟩
    | cons x r =>
      simp only [rbs] at h
      by_cases hx : (eqW x ifW || eqW x whW) = true
      · rw [if_pos hx] at h
        have hx2 : x = ifW ∨ x = whW := by simpa [eqW_iff] using hx
        have hw : x ≠ clW := by rcases hx2 with rfl | rfl; exact if_cl; exact wh_cl
        cases ht : rct blk (x :: r) c with
        | none => rw [ht] at h; cases h
        | some cn =>
          obtain ⟨c1, n⟩ := cn
          rw [ht] at h
          dsimp only at h
          have hH : ∃ y, rcH (x :: r) = some y := by
            cases hH : rcH (x :: r) with
            | none => unfold rct at ht; rw [hH] at ht; cases ht
            | some y => exact ⟨y, rfl⟩
          obtain ⟨y, hH⟩ := hH
          obtain ⟨d, t, j, hd, hj, rfl⟩ := rcH_split hw hH
          obtain ⟨b, u, rfl, rfl⟩ := clo_split hj
          rw [rct_two hw hd hj] at ht
          cases hbb : blk b (c ++ [{ rcI d with head := eqW x whW }]) with
          | none => rw [hbb] at ht; cases ht
          | some c2 =>
            rw [hbb] at ht
            dsimp only at ht
            obtain ⟨k1, hB, l1⟩ := hb _ _ _ hbb
            simp only [List.length_append, List.length_cons, List.length_nil] at l1
            have hdr : (x :: opW :: (d ++ clW :: lbW :: (b ++ rbW :: u))).drop (d.length + 5 + b.length) = u := by
              rw [show d.length + 5 + b.length = d.length + 4 + (b.length + 1 + 0) by omega, drop_hd, drop_bl]; rfl
            rcases hx2 with rfl | rfl
            · rw [if_wh, if_neg (by simp)] at ht
              unfold rcEl at ht
              by_cases h2 : hdB elW u = true
              · rw [if_pos h2] at ht
                by_cases h3 : hdB lbW u.tail = true
                · rw [if_pos h3] at ht
                  have e1 := hdB_some h2
                  have e2 := hdB_some h3
                  rw [e2] at e1
                  cases hc : clo 1 u.tail.tail with
                  | none => rw [hc] at ht; cases ht
                  | some i =>
                    rw [hc] at ht
                    dsimp only at ht
                    obtain ⟨b2, v, e3, rfl⟩ := clo_split hc
                    rw [e3] at e1 ht
                    rw [List.take_left] at ht
                    cases hb2 : blk b2 (setTo c.length (c2.length + 1) (c2 ++ [gt 0])) with
                    | none => rw [hb2] at ht; cases ht
                    | some c7 =>
                      rw [hb2] at ht
                      simp only [Option.some.injEq, Prod.mk.injEq] at ht
                      obtain ⟨rfl, rfl⟩ := ht
                      obtain ⟨k2, hD, l2⟩ := hb _ _ _ hb2
                      simp only [setTo_length, List.length_append, List.length_cons, List.length_nil] at l2
                      have hdr2 : (ifW :: opW :: (d ++ clW :: lbW :: (b ++ rbW :: u))).drop (d.length + 5 + b.length + 3 + b2.length) = v := by
                        rw [show d.length + 5 + b.length + 3 + b2.length = (d.length + 5 + b.length) + (b2.length + 1 + 0 + 2) by omega, ← List.drop_drop, hdr, e1]
                        simp only [List.drop_succ_cons]
                        exact drop_bl _ _ 0
                      rw [hdr2] at h
                      obtain ⟨k3, hR, l3⟩ := ih _ _ _ h
                      rw [setTo_length] at l3
                      refine ⟨k1 + 2 + k2 + k3, ?_, by omega⟩
                      rw [e1]
                      exact Blk.ifl hd hB hD hR
                · rw [if_neg h3] at ht; cases ht
              · rw [if_neg h2] at ht
                simp only [Option.some.injEq, Prod.mk.injEq] at ht
                obtain ⟨rfl, rfl⟩ := ht
                rw [hdr] at h
                obtain ⟨k3, hR, l3⟩ := ih _ _ _ h
                rw [setTo_length] at l3
                exact ⟨k1 + 1 + k3, Blk.ife hd hB hR, by omega⟩
            · rw [eqW_rfl, if_pos rfl] at ht
              simp only [Option.some.injEq, Prod.mk.injEq] at ht
              obtain ⟨rfl, rfl⟩ := ht
              rw [hdr] at h
              obtain ⟨k3, hR, l3⟩ := ih _ _ _ h
              rw [setTo_length] at l3
              simp only [List.length_append, List.length_cons, List.length_nil] at l3
              exact ⟨k1 + 2 + k3, Blk.whl hd hB hR, by omega⟩
      · rw [if_neg hx] at h
        by_cases hf : fndL (x :: r) seW = (x :: r).length
        · rw [if_pos hf] at h; cases h
        · rw [if_neg hf] at h
          have hle := fndL_le (x :: r) seW
          obtain ⟨p, q, e, h2, _⟩ := fnd_split (show fndL (x :: r) seW < (x :: r).length by omega)
          rw [h2, e, List.take_left] at h
          cases hi : rsI p with
          | none => rw [hi] at h; cases h
          | some i =>
            rw [hi] at h
            dsimp only at h
            have hdr : (p ++ seW :: q).drop (p.length + 1) = q := by simp
            rw [hdr] at h
            obtain ⟨k, hR, l1⟩ := ih _ _ _ h
            simp only [List.length_append, List.length_cons, List.length_nil] at l1
            rw [e]
            exact ⟨k + 1, Blk.sim (rsI_some hi) hR, by omega⟩
theorem rbl_sound (f : Nat) : ∀ l c c', rbl f l c = some c' → ∃ k, Blk l k ∧ c'.length = c.length + k := by
  induction f with
  | zero => intro l c c' h; cases h
  | succ f ih => intro l c c' h; exact bs_sound ih _ l c c' h

theorem bs_complete {b : List ByteArray} {k : Nat} (h : Blk b k) : ∀ (f m : Nat) (c : List Ins), b.length ≤ f → b.length < m → ∃ c', rbs (rct (rbl f)) m b c = some c' ∧ c'.length = c.length + k := by
  induction h using Blk.ind with
  | nil => intro f m c _ hm; cases m with
    | zero => simp at hm
    | succ m => exact ⟨c, rfl, rfl⟩
  | @sim p r k hp _ ih =>
    intro f m c hf hm
    simp only [List.length_append, List.length_cons] at hf hm
    cases m with
    | zero => omega
    | succ m =>
      obtain ⟨i, hi⟩ := sim_rsI hp
      obtain ⟨c', h1, h2⟩ := ih f m (c ++ [i]) (by omega) (by omega)
      refine ⟨c', ?_, by rw [h2]; simp only [List.length_append, List.length_cons, List.length_nil]; omega⟩
      have hfn := fnd_at (sim_se hp) r
      have hx1 := sim_if hp
      have hx2 := sim_wh hp
      have htk : (p ++ seW :: r).take p.length = p := List.take_left
      have hdr : (p ++ seW :: r).drop (p.length + 1) = r := by simp
      have hne : ¬ fndL (p ++ seW :: r) seW = (p ++ seW :: r).length := by rw [hfn]; simp only [List.length_append, List.length_cons]; omega
      obtain ⟨x, t, e⟩ := sim_cons hp
      have ex : p ++ seW :: r = x :: (t ++ seW :: r) := by rw [e]; rfl
      have hnx : ¬ (eqW x ifW || eqW x whW) = true := by rw [eqW_ne (hx1 x (by rw [e]; simp)), eqW_ne (hx2 x (by rw [e]; simp))]; simp
      rw [ex]
      simp only [rbs]
      rw [if_neg hnx, ← ex, if_neg hne, hfn, htk, hi, hdr]
      exact h1
  | @whl d b r j k hd hb _ ihb ihr =>
    intro f m c hf hm
    simp only [List.length_append, List.length_cons] at hf hm
    cases m with
    | zero => omega
    | succ m =>
      cases f with
      | zero => omega
      | succ f =>
        obtain ⟨c2, h1, l1⟩ := ihb f (b.length + 1) (c ++ [{ rcI d with head := eqW whW whW }]) (by omega) (by omega)
        have h2 : rct (rbl (f + 1)) (whW :: opW :: (d ++ clW :: lbW :: (b ++ rbW :: r))) c = some (setTo c.length (c2.length + 1) (c2 ++ [gt c.length]), d.length + 5 + b.length) := by
          rw [rct_two wh_cl hd (clo_blkEnd hb r), show rbl (f + 1) b (c ++ [{ rcI d with head := eqW whW whW }]) = some c2 from h1]
          dsimp only
          rw [if_pos (eqW_rfl _)]
        obtain ⟨c', h3, l3⟩ := ihr (f + 1) m (setTo c.length (c2.length + 1) (c2 ++ [gt c.length])) (by omega) (by omega)
        have hdr : (whW :: opW :: (d ++ clW :: lbW :: (b ++ rbW :: r))).drop (d.length + 5 + b.length) = r := by
          rw [show d.length + 5 + b.length = d.length + 4 + (b.length + 1 + 0) by omega, drop_hd, drop_bl]; rfl
        refine ⟨c', ?_, ?_⟩
        · simp only [rbs]
          rw [if_pos (by rw [eqW_rfl]; simp), h2]
          dsimp only
          rw [hdr]; exact h3
        · rw [setTo_length] at l3
          simp only [List.length_append, List.length_cons, List.length_nil] at l1 l3
          omega
  | @ife d b r j k hd hb hr ihb ihr =>
    intro f m c hf hm
    simp only [List.length_append, List.length_cons] at hf hm
    cases m with
    | zero => omega
    | succ m =>
      cases f with
      | zero => omega
      | succ f =>
        obtain ⟨c2, h1, l1⟩ := ihb f (b.length + 1) (c ++ [{ rcI d with head := eqW ifW whW }]) (by omega) (by omega)
        have h2 : rct (rbl (f + 1)) (ifW :: opW :: (d ++ clW :: lbW :: (b ++ rbW :: r))) c = some (setTo c.length c2.length c2, d.length + 5 + b.length) := by
          rw [rct_two if_cl hd (clo_blkEnd hb r), show rbl (f + 1) b (c ++ [{ rcI d with head := eqW ifW whW }]) = some c2 from h1]
          dsimp only
          rw [if_neg (by rw [if_wh]; simp)]
          unfold rcEl
          have he : hdB elW r = false := by have := blk_el hr (q := []) rfl; rwa [List.append_nil] at this
          rw [he, if_neg (by simp)]
        obtain ⟨c', h3, l3⟩ := ihr (f + 1) m (setTo c.length c2.length c2) (by omega) (by omega)
        have hdr : (ifW :: opW :: (d ++ clW :: lbW :: (b ++ rbW :: r))).drop (d.length + 5 + b.length) = r := by
          rw [show d.length + 5 + b.length = d.length + 4 + (b.length + 1 + 0) by omega, drop_hd, drop_bl]; rfl
        refine ⟨c', ?_, ?_⟩
        · simp only [rbs]
          rw [if_pos (by rw [eqW_rfl]; simp), h2]
          dsimp only
          rw [hdr]; exact h3
        · rw [setTo_length] at l3
          simp only [List.length_append, List.length_cons, List.length_nil] at l1
          omega
  | @ifl d b e r j i k hd hb he _ ihb ihe ihr =>
    intro f m c hf hm
    simp only [List.length_append, List.length_cons] at hf hm
    cases m with
    | zero => omega
    | succ m =>
      cases f with
      | zero => omega
      | succ f =>
        obtain ⟨c2, h1, l1⟩ := ihb f (b.length + 1) (c ++ [{ rcI d with head := eqW ifW whW }]) (by omega) (by omega)
        obtain ⟨c7, h5, l5⟩ := ihe f (e.length + 1) (setTo c.length (c2.length + 1) (c2 ++ [gt 0])) (by omega) (by omega)
        have h2 : rct (rbl (f + 1)) (ifW :: opW :: (d ++ clW :: lbW :: (b ++ rbW :: elW :: lbW :: (e ++ rbW :: r)))) c = some (setTo c2.length c7.length c7, d.length + 5 + b.length + 3 + e.length) := by
          rw [rct_two if_cl hd (clo_blkEnd hb _), show rbl (f + 1) b (c ++ [{ rcI d with head := eqW ifW whW }]) = some c2 from h1]
          dsimp only
          rw [if_neg (by rw [if_wh]; simp)]
          show (if hdB elW (elW :: lbW :: (e ++ rbW :: r)) = true then (if hdB lbW (lbW :: (e ++ rbW :: r)) = true then (match clo 1 (e ++ rbW :: r) with | none => none | some i => match rbl (f + 1) ((e ++ rbW :: r).take i) (setTo c.length (c2.length + 1) (c2 ++ [gt 0])) with | none => none | some c7 => some (setTo c2.length c7.length c7, d.length + 5 + b.length + 3 + i)) else none) else _) = _
          rw [if_pos (show hdB elW (elW :: lbW :: (e ++ rbW :: r)) = true from eqW_rfl _), if_pos (show hdB lbW (lbW :: (e ++ rbW :: r)) = true from eqW_rfl _), clo_blkEnd he r]
          dsimp only
          rw [List.take_left, show rbl (f + 1) e (setTo c.length (c2.length + 1) (c2 ++ [gt 0])) = some c7 from h5]
        obtain ⟨c', h3, l3⟩ := ihr (f + 1) m (setTo c2.length c7.length c7) (by omega) (by omega)
        have hdr : (ifW :: opW :: (d ++ clW :: lbW :: (b ++ rbW :: elW :: lbW :: (e ++ rbW :: r)))).drop (d.length + 5 + b.length + 3 + e.length) = r := by
          rw [show d.length + 5 + b.length + 3 + e.length = d.length + 4 + (b.length + 1 + (e.length + 1 + 0 + 2)) by omega, drop_hd, drop_bl]
          simp only [List.drop_succ_cons]
          exact drop_bl _ _ 0
        refine ⟨c', ?_, ?_⟩
        · simp only [rbs]
          rw [if_pos (by rw [eqW_rfl]; simp), h2]
          dsimp only
          rw [hdr]; exact h3
        · rw [setTo_length] at l3 l5
          simp only [List.length_append, List.length_cons, List.length_nil] at l1 l5
          omega
theorem rbl_complete {b : List ByteArray} {k : Nat} (h : Blk b k) {f : Nat} (hf : b.length ≤ f) (c : List Ins) : ∃ c', rbl (f + 1) b c = some c' ∧ c'.length = c.length + k :=
  bs_complete h f (b.length + 1) c hf (Nat.lt_succ_self _)

/-! ### formulas and whole programs -/
def Fm (l : List ByteArray) : Prop :=
  ∀ R : List ByteArray → Prop, (∀ {p : List ByteArray}, raB p = true → R p) → (∀ {p r : List ByteArray}, raB p = true → R r → R (p ++ starW :: r)) → R l
theorem Fm.one {p : List ByteArray} (hp : raB p = true) : Fm p := fun _ h _ => h hp
theorem Fm.more {p r : List ByteArray} (hp : raB p = true) (hr : Fm r) : Fm (p ++ starW :: r) := fun R h1 h2 => h2 hp (hr R h1 h2)
theorem Fm.ind {motive : (l : List ByteArray) → Fm l → Prop} (one : ∀ {p : List ByteArray} (hp : raB p = true), motive p (Fm.one hp)) (more : ∀ {p r : List ByteArray} (hp : raB p = true) (hr : Fm r), motive r hr → motive _ (Fm.more hp hr)) {l : List ByteArray} (h : Fm l) : motive l h := by
  obtain ⟨_, h2⟩ := h (fun l => ∃ h, motive l h) (fun hp => ⟨_, one hp⟩) (fun hp ⟨hr, ih⟩ => ⟨_, more hp hr ih⟩)
  exact h2
theorem upB_ne {x k : ByteArray} (h : upB x = true) (hk : upB k = false) : x ≠ k := by
  rintro rfl; rw [h] at hk; cases hk
theorem name_out {x k : ByteArray} (h : nameB x = true) (h1 : k ≠ nilW) (h2 : lowB k = false) (h3 : upB k = false) : x ≠ k := by
  simp only [nameB, Bool.or_eq_true, eqW_iff] at h
  rcases h with (rfl | h) | h
  · exact h1.symm
  · exact low_ne h h2
  · exact upB_ne h h3
theorem atom_out {p : List ByteArray} (h : raB p = true) {k : ByteArray} (h1 : k ≠ empW) (h2 : k ≠ lsW) (h3 : k ≠ opW) (h4 : k ≠ cmW) (h5 : k ≠ clW) (h6 : k ≠ eqSW) (h7 : k ≠ neSW) (h8 : k ≠ toW) (h9 : k ≠ nilW) (hl : lowB k = false) (hu : upB k = false) : ∀ x ∈ p, x ≠ k := by
  intro x hx
  match p, h with
  | [a], h =>
    have e := eqW_iff.1 (show eqW a empW = true from h)
    simp only [List.mem_cons, List.not_mem_nil, or_false] at hx
    subst hx; subst e; exact h1.symm
  | [a, b, c], h =>
    simp only [raB, Bool.and_eq_true, Bool.or_eq_true, eqW_iff] at h
    obtain ⟨⟨ha, hc⟩, hb⟩ := h
    simp only [List.mem_cons, List.not_mem_nil, or_false] at hx
    rcases hx with rfl | rfl | rfl
    · exact name_out ha h9 hl hu
    · rcases hb with (rfl | rfl) | rfl
      · exact h6.symm
      · exact h7.symm
      · exact h8.symm
    · exact name_out hc h9 hl hu
  | [a, b, c, d, e, f], h =>
    simp only [raB, Bool.and_eq_true, eqW_iff] at h
    obtain ⟨⟨⟨⟨rfl, rfl⟩, rfl⟩, rfl⟩, hc, he⟩ := h
    simp only [List.mem_cons, List.not_mem_nil, or_false] at hx
    rcases hx with rfl | rfl | rfl | rfl | rfl | rfl
    · exact h2.symm
    · exact h3.symm
    · exact name_out hc h9 hl hu
    · exact h4.symm
    · exact name_out he h9 hl hu
    · exact h5.symm
theorem atom_star {p : List ByteArray} (h : raB p = true) : ∀ x ∈ p, x ≠ starW :=
  atom_out h (data_ne (by simp [starW, empW])) (data_ne (by simp [starW, lsW])) (data_ne (by simp [starW, opW])) (data_ne (by simp [starW, cmW])) (data_ne (by simp [starW, clW])) (data_ne (by simp [starW, eqSW])) (data_ne (by simp [starW, neSW])) (data_ne (by simp [starW, toW])) (data_ne (by simp [starW, nilW])) rfl rfl
theorem atom_lb {p : List ByteArray} (h : raB p = true) : ∀ x ∈ p, x ≠ lbW :=
  atom_out h (data_ne (by simp [lbW, empW])) (data_ne (by simp [lbW, lsW])) (data_ne (by simp [lbW, opW])) (data_ne (by simp [lbW, cmW])) (data_ne (by simp [lbW, clW])) (data_ne (by simp [lbW, eqSW])) (data_ne (by simp [lbW, neSW])) (data_ne (by simp [lbW, toW])) (data_ne (by simp [lbW, nilW])) rfl rfl
theorem fm_lb {f : List ByteArray} (h : Fm f) : ∀ x ∈ f, x ≠ lbW := by
  induction h using Fm.ind with
  | one h => exact atom_lb h
  | more h _ ih =>
    intro x hx
    simp only [List.mem_append, List.mem_cons] at hx
    rcases hx with hx | rfl | hx
    · exact atom_lb h x hx
    · exact data_ne (by simp [starW, lbW])
    · exact ih x hx
theorem foG_sound (n : Nat) : ∀ {r q : List ByteArray}, pFoG n r = some q → r = q ∨ ∃ f, Fm f ∧ r = starW :: (f ++ q) := by
  induction n with
  | zero => intro r q h; cases h; exact Or.inl rfl
  | succ n ih =>
    intro r q h
    simp only [pFoG] at h
    by_cases h1 : hdB kStar r = true
    · rw [if_pos h1] at h
      obtain ⟨t, h2, h3⟩ := Option.bind_eq_some_iff.1 h
      obtain ⟨p, hp, e⟩ := pAtom_some.1 h2
      have e1 : r = starW :: r.tail := hdB_some h1
      right
      rcases ih h3 with rfl | ⟨f, hf, rfl⟩
      · exact ⟨p, Fm.one hp, by rw [e1, e]⟩
      · exact ⟨_, Fm.more hp hf, by rw [e1, e]; simp⟩
    · rw [if_neg h1] at h; cases h; exact Or.inl rfl
theorem for_sound {n : Nat} {r q : List ByteArray} (h : pFor n r = some q) : ∃ f, Fm f ∧ r = f ++ q := by
  obtain ⟨t, h2, h3⟩ := Option.bind_eq_some_iff.1 h
  obtain ⟨p, hp, rfl⟩ := pAtom_some.1 h2
  rcases foG_sound n h3 with rfl | ⟨f, hf, rfl⟩
  · exact ⟨p, Fm.one hp, rfl⟩
  · exact ⟨_, Fm.more hp hf, by simp⟩
theorem for_complete {f : List ByteArray} (h : Fm f) : ∀ {n : Nat} {q : List ByteArray}, f.length ≤ n → hdB starW q = false → pFor n (f ++ q) = some q := by
  induction h using Fm.ind with
  | one hp =>
    intro n q _ hq
    unfold pFor
    rw [pAtom_some.2 ⟨_, hp, rfl⟩, Option.bind_some]
    cases n with
    | zero => rfl
    | succ n => show (if hdB starW q = true then _ else some q) = _; rw [hq, if_neg (by simp)]
  | @more p r hp _ ih =>
    intro n q hn hq
    simp only [List.length_append, List.length_cons] at hn
    unfold pFor
    rw [List.append_assoc, pAtom_some.2 ⟨_, hp, rfl⟩, Option.bind_some]
    cases n with
    | zero => omega
    | succ n =>
      show (if eqW starW starW = true then (pAtom (r ++ q)).bind (pFoG n) else _) = _
      rw [if_pos (eqW_rfl _)]
      exact ih (by omega) hq
theorem rfo_sound : ∀ {r cur : List ByteArray} {al : List RAt}, rfo cur r = some al → Fm (cur ++ r) := by
  intro r
  induction r with
  | nil =>
    intro cur al h
    by_cases h1 : raB cur = true
    · rw [List.append_nil]; exact Fm.one h1
    · simp only [rfo, if_neg h1] at h; cases h
  | cons x r ih =>
    intro cur al h
    simp only [rfo] at h
    by_cases h1 : eqW x starW = true
    · rw [if_pos h1] at h
      by_cases h2 : raB cur = true
      · rw [if_pos h2] at h
        obtain ⟨a, ha, _⟩ := Option.map_eq_some_iff.1 h
        rw [eqW_iff.1 h1]
        exact Fm.more h2 (ih ha)
      · rw [if_neg h2] at h; cases h
    · rw [if_neg h1] at h
      have := ih h
      rwa [List.append_assoc] at this
theorem rfo_run {p : List ByteArray} (h : ∀ x ∈ p, x ≠ starW) : ∀ cur r, rfo cur (p ++ r) = rfo (cur ++ p) r := by
  induction p with
  | nil => intro cur r; rw [List.append_nil]; rfl
  | cons x p ih =>
    intro cur r
    show rfo cur (x :: (p ++ r)) = _
    simp only [rfo]
    rw [eqW_ne (h x (by simp)), if_neg (by simp), ih (fun y hy => h y (by simp [hy])), List.append_assoc]
    rfl
theorem rfo_complete {f : List ByteArray} (h : Fm f) : ∃ al, rfo [] f = some al := by
  induction h using Fm.ind with
  | @one p hp =>
    have := rfo_run (atom_star hp) [] []
    rw [List.append_nil] at this
    rw [this]
    exact ⟨_, by simp only [rfo, List.nil_append, if_pos hp]; rfl⟩
  | @more p r hp _ ih =>
    obtain ⟨al, ha⟩ := ih
    rw [rfo_run (atom_star hp)]
    exact ⟨_, by simp only [rfo, List.nil_append, eqW_rfl, if_true, if_pos hp, ha]; rfl⟩
/-- a program's words -/
def Pgm (ws : List ByteArray) (k : Nat) : Prop := ∃ f b, Fm f ∧ Blk b k ∧ ws = preW :: (f ++ lbW :: (b ++ [rbW]))
theorem pr_sound {ws : List ByteArray} {k : Nat} (h : pPr ws.length ws = some ([], k)) : ∃ j, Pgm ws j ∧ k = j + 1 := by
  unfold pPr at h
  obtain ⟨t, a1, a2, h1, h2, rfl⟩ := sqN_some.1 h
  obtain ⟨u, b1, b2, h3, h4, rfl⟩ := sqN_some.1 h1
  obtain ⟨v, c1, c2, h5, h6, rfl⟩ := sqN_some.1 h3
  obtain ⟨h7, rfl⟩ := n0_some.1 h5
  obtain ⟨h8, rfl⟩ := n0_some.1 h6
  cases h2
  have e7 : ws = preW :: v := pEx_eq.1 h7
  obtain ⟨f, hf, e8⟩ := for_sound h8
  have hl : u.length < ws.length + 1 := by rw [e7, e8]; simp only [List.length_cons, List.length_append]; omega
  obtain ⟨b, hB, e9⟩ := bl_sound _ _ _ _ _ hl h4
  exact ⟨b2, ⟨f, b, hf, hB, by rw [e7, e8, e9]⟩, by omega⟩
theorem pr_complete {ws : List ByteArray} {k : Nat} (h : Pgm ws k) : pPr ws.length ws = some ([], k + 1) := by
  obtain ⟨f, b, hf, hB, e⟩ := h
  have hl : ws.length = f.length + b.length + 3 := by rw [e]; simp only [List.length_cons, List.length_append, List.length_nil]; omega
  rw [hl, e]
  refine sqN_some.2 ⟨[], k, 1, sqN_some.2 ⟨lbW :: (b ++ [rbW]), 0, k, sqN_some.2 ⟨f ++ lbW :: (b ++ [rbW]), 0, 0, n0_some.2 ⟨pEx_self _ _, rfl⟩, n0_some.2 ⟨for_complete hf (by omega) (eqW_ne (data_ne (by simp [lbW, starW]))), rfl⟩, rfl⟩, bl_complete hB (by omega) (by omega), by omega⟩, rfl, rfl⟩
theorem rr_sound {ws : List ByteArray} {al : List RAt} {cl : List Ins} (h : rrS ws = some (al, cl)) : Pgm ws cl.length := by
  unfold rrS at h
  by_cases h1 : ws.length = 0 ∨ eqW (ws[0]?.getD em) preW = false ∨ fndL ws lbW = ws.length
  · rw [if_pos h1] at h; cases h
  · rw [if_neg h1] at h
    simp only [not_or] at h1
    obtain ⟨a1, a2, a3⟩ := h1
    cases ws with
    | nil => simp at a1
    | cons x r =>
      simp only [List.getElem?_cons_zero, Option.getD_some, Bool.not_eq_false] at a2
      have ex := eqW_iff.1 a2
      subst ex
      have hle := fndL_le (preW :: r) lbW
      obtain ⟨p, t, e, h2, _⟩ := fnd_split (show fndL (preW :: r) lbW < (preW :: r).length by omega)
      rw [h2] at h
      cases p with
      | nil =>
        exfalso
        simp only [List.nil_append, List.cons.injEq] at e
        exact data_ne (by simp [preW, lbW]) e.1
      | cons y f =>
        simp only [List.cons_append, List.cons.injEq] at e
        obtain ⟨rfl, rfl⟩ := e
        simp only [List.length_cons, Nat.add_sub_cancel, List.drop_succ_cons, List.drop_zero] at h
        rw [List.take_left] at h
        cases hf : rfo [] f with
        | none => rw [hf] at h; cases h
        | some al' =>
          rw [hf] at h
          dsimp only at h
          by_cases hs : shI (preW :: (f ++ lbW :: t)) (f.length + 1) = (((preW :: (f ++ lbW :: t)).length : Nat) : Int) - 1
          · rw [if_pos (by simpa using hs)] at h
            have hd : (preW :: (f ++ lbW :: t)).drop (f.length + 1 + 1) = t := by
              simp
            unfold shI at hs
            rw [hd] at hs
            cases hc : clo 1 t with
            | none => rw [hc] at hs; simp only [List.length_cons, List.length_append] at hs; omega
            | some j =>
              rw [hc] at hs
              dsimp only at hs
              obtain ⟨b, u, rfl, rfl⟩ := clo_split hc
              simp only [List.length_cons, List.length_append] at hs
              have hu : u = [] := by
                apply List.eq_nil_of_length_eq_zero; omega
              subst hu
              have hd2 : List.take ((f ++ lbW :: (b ++ [rbW])).length - (f.length + 1 + 1)) (List.drop (f.length + 1) (f ++ lbW :: (b ++ [rbW]))) = b := by
                rw [show (f ++ lbW :: (b ++ [rbW])).length - (f.length + 1 + 1) = b.length by simp only [List.length_cons, List.length_append, List.length_nil]; omega]
                simp
              rw [hd2] at h
              cases hb : rbl ((f ++ lbW :: (b ++ [rbW])).length + 1 + 1) b [] with
              | none => rw [hb] at h; cases h
              | some cl' =>
                rw [hb] at h
                cases h
                obtain ⟨k, hB, hl⟩ := rbl_sound _ _ _ _ hb
                simp only [List.length_nil, Nat.zero_add] at hl
                rw [hl]
                exact ⟨f, b, by simpa using rfo_sound hf, hB, rfl⟩
          · rw [if_neg (by simpa using hs)] at h; cases h
theorem rr_complete {ws : List ByteArray} {k : Nat} (h : Pgm ws k) : ∃ al cl, rrS ws = some (al, cl) ∧ cl.length = k := by
  obtain ⟨f, b, hf, hB, e⟩ := h
  have hl : ws.length = f.length + b.length + 3 := by rw [e]; simp only [List.length_cons, List.length_append, List.length_nil]; omega
  have hfn : fndL ws lbW = f.length + 1 := by
    rw [e, show preW :: (f ++ lbW :: (b ++ [rbW])) = (preW :: f) ++ lbW :: (b ++ [rbW]) from rfl, fnd_at]
    · rfl
    · intro x hx
      simp only [List.mem_cons] at hx
      rcases hx with rfl | hx
      · exact data_ne (by simp [preW, lbW])
      · exact fm_lb hf x hx
  obtain ⟨al, ha⟩ := rfo_complete hf
  obtain ⟨cl, hc, hcl⟩ := rbl_complete hB (f := ws.length) (by omega) []
  refine ⟨al, cl, ?_, by simpa using hcl⟩
  have d1 : (ws.drop 1).take (f.length + 1 - 1) = f := by rw [e]; simp
  have d2 : ws.drop (f.length + 1 + 1) = b ++ [rbW] := by rw [e]; simp
  have d3 : (b ++ [rbW]).take (ws.length - 1 - (f.length + 1 + 1)) = b := by
    rw [hl, show f.length + b.length + 3 - 1 - (f.length + 1 + 1) = b.length by omega, List.take_left]
  have hs : shI ws (f.length + 1) = ((ws.length : Nat) : Int) - 1 := by
    unfold shI; rw [d2, clo_blkEnd hB []]; dsimp only; omega
  unfold rrS
  rw [hfn, d1, ha, d2, d3, hs, hc, if_neg]
  · simp
  · rw [hl, e]
    simp only [List.getElem?_cons_zero, Option.getD_some, eqW_rfl]
    simp
    omega

/-! ### names -/
def one1 (c : UInt8) : ByteArray := ⟨#[c]⟩
theorem low_one {x : ByteArray} (h : lowB x = true) : x = one1 (hd0 x) := by
  obtain ⟨⟨l⟩⟩ := x
  match l, h with
  | [c], _ => rfl
theorem up_one {x : ByteArray} (h : upB x = true) : x = one1 (hd0 x) := by
  obtain ⟨⟨l⟩⟩ := x
  match l, h with
  | [c], _ => rfl
theorem fnd_plc (l : List UInt8) (c : UInt8) : fndL (l.map one1) (one1 c) = plc l c := by
  induction l with
  | nil => rfl
  | cons a l ih =>
    show (if eqW (one1 a) (one1 c) = true then 0 else fndL (l.map one1) (one1 c) + 1) = if a = c then 0 else plc l c + 1
    by_cases h : a = c
    · rw [if_pos h, if_pos (by rw [h]; exact eqW_rfl _)]
    · rw [if_neg h, if_neg, ih]
      intro e
      have := eqW_iff.1 e
      simp only [one1, ByteArray.mk.injEq, Array.mk.injEq, List.cons.injEq, and_true] at this
      exact h this
theorem add_put (l : List UInt8) (c : UInt8) : addIf true (l.map one1) (one1 c) = (put l c).map one1 := by
  have h1 := plc_le l c
  unfold addIf put amI
  rw [fnd_plc]
  simp only [List.length_map, Bool.true_and]
  by_cases h : plc l c = l.length
  · rw [if_pos h, if_pos (by rw [h]; simp)]
    simp
  · rw [if_neg h, if_neg]
    rw [if_pos (by omega)]
    simp
/-- the names that were read are the names of the words so far -/
def Inv (ws : List ByteArray) (s : PS) : Prop :=
  s.failed = false → dotB ws s.pos = false ∧ nmV ws s.pos = s.vars.map one1 ∧ nmH ws s.pos = s.hid.map one1
def Keep (ws : List ByteArray) (F : PS → PS) : Prop := ∀ s, Inv ws s → Inv ws (F s)
theorem inv_fail (ws : List ByteArray) (s : PS) : Inv ws s.fail := fun h => (by cases h)
theorem pk_of {ws : List ByteArray} {s : PS} (h : s.failed = false) : pk ws s = ws[s.pos]?.getD em := by
  unfold pk; rw [if_neg (by simp [h])]; rfl
theorem acB_pk {ws : List ByteArray} {s : PS} {k : ByteArray} (h : acB ws k s = true) : pk ws s = k := eqW_iff.1 h
theorem nm_no {ws : List ByteArray} {n : Nat} (hl : lowB (ws[n]?.getD em) = false) (hu : upB (ws[n]?.getD em) = false) : nmV ws (n + 1) = nmV ws n ∧ nmH ws (n + 1) = nmH ws n := by
  constructor
  · show addIf (lowB (ws[n]?.getD em) && !dotB ws n) _ _ = _; rw [hl]; rfl
  · show addIf (upB (ws[n]?.getD em)) _ _ = _; rw [hu]; rfl
theorem keep_adv {ws : List ByteArray} {s : PS} {k : ByteArray} (h : Inv ws s) (ha : acB ws k s = true) (hl : lowB k = false) (hu : upB k = false) (hd : k ≠ dotW) : Inv ws s.adv := by
  intro hf
  have hf' : s.failed = false := hf
  have hk := (pk_of (ws := ws) hf').symm.trans (acB_pk ha)
  obtain ⟨_, h2, h3⟩ := h hf'
  have hn := nm_no (ws := ws) (n := s.pos) (by rw [hk]; exact hl) (by rw [hk]; exact hu)
  refine ⟨?_, hn.1.trans h2, hn.2.trans h3⟩
  show eqW (ws[s.pos]?.getD em) dotW = false
  rw [hk]; exact eqW_ne hd
theorem keep_ex {ws : List ByteArray} {k : ByteArray} (hl : lowB k = false) (hu : upB k = false) (hd : k ≠ dotW) : Keep ws (exS ws k) := by
  intro s h
  unfold exS
  by_cases ha : acB ws k s = true
  · rw [if_pos ha]; exact keep_adv h ha hl hu hd
  · rw [if_neg ha]; exact inv_fail _ _
theorem keep_dot {ws : List ByteArray} {s : PS} (h : Inv ws s) (ha : acB ws kDot s = true) : Inv ws (exS ws kN s.adv) := by
  unfold exS
  by_cases hb : acB ws kN s.adv = true
  · rw [if_pos hb]
    intro hf
    have hf' : s.failed = false := hf
    have hf2 : s.adv.failed = false := hf
    have hk : ws[s.pos]?.getD em = dotW := (pk_of (ws := ws) hf').symm.trans (acB_pk ha)
    have hk2 : ws[s.pos + 1]?.getD em = nW := (pk_of (ws := ws) hf2).symm.trans (acB_pk hb)
    obtain ⟨_, h2, h3⟩ := h hf'
    have hn := nm_no (ws := ws) (n := s.pos) (by rw [hk]; rfl) (by rw [hk]; rfl)
    refine ⟨?_, ?_, ?_⟩
    · show eqW (ws[s.pos + 1]?.getD em) dotW = false
      rw [hk2]; exact eqW_ne (data_ne (by simp [nW, dotW]))
    · show addIf (lowB (ws[s.pos + 1]?.getD em) && !(eqW (ws[s.pos]?.getD em) dotW)) (nmV ws (s.pos + 1)) _ = _
      rw [hk, eqW_rfl, Bool.not_true, Bool.and_false]
      exact hn.1.trans h2
    · show addIf (upB (ws[s.pos + 1]?.getD em)) (nmH ws (s.pos + 1)) _ = _
      rw [hk2]
      exact hn.2.trans h3
  · rw [if_neg hb]; exact inv_fail _ _
theorem keep_va {ws : List ByteArray} : Keep ws (vaS ws) := by
  intro s h
  unfold vaS
  by_cases hl : lowB (pk ws s) = true
  · rw [if_pos hl]
    intro hf
    have hf' : s.failed = false := hf
    obtain ⟨h1, h2, h3⟩ := h hf'
    have hk := pk_of (ws := ws) hf'
    rw [hk] at hl
    have ho := low_one hl
    refine ⟨?_, ?_, ?_⟩
    · show eqW (ws[s.pos]?.getD em) dotW = false
      exact eqW_ne (low_ne hl rfl)
    · show addIf (lowB (ws[s.pos]?.getD em) && !dotB ws s.pos) (nmV ws s.pos) (ws[s.pos]?.getD em) = (put s.vars (hd0 (pk ws s))).map one1
      rw [h1, hl, h2, hk]
      conv => lhs; rw [ho]
      exact add_put _ _
    · show addIf (upB (ws[s.pos]?.getD em)) (nmH ws s.pos) _ = _
      rw [low_up _ hl]; exact h3
  · rw [if_neg hl]; exact inv_fail _ _
theorem keep_val {ws : List ByteArray} : Keep ws (valS ws) := by
  intro s h
  unfold valS
  by_cases ha : acB ws kNil s = true
  · rw [if_pos ha]; exact keep_adv h ha rfl rfl (data_ne (by simp [kNil, dotW]))
  · rw [if_neg ha]; exact keep_va s h
theorem keep_te {ws : List ByteArray} : Keep ws (teS ws) := by
  intro s h
  unfold teS
  by_cases hl : upB (pk ws s) = true
  · rw [if_pos hl]
    intro hf
    have hf' : s.failed = false := hf
    obtain ⟨h1, h2, h3⟩ := h hf'
    have hk := pk_of (ws := ws) hf'
    rw [hk] at hl
    have ho := up_one hl
    have hlo : lowB (ws[s.pos]?.getD em) = false := by
      cases hx : lowB (ws[s.pos]?.getD em) with
      | false => rfl
      | true => rw [low_up _ hx] at hl; cases hl
    refine ⟨?_, ?_, ?_⟩
    · show eqW (ws[s.pos]?.getD em) dotW = false
      exact eqW_ne (upB_ne hl rfl)
    · show addIf (lowB (ws[s.pos]?.getD em) && !dotB ws s.pos) (nmV ws s.pos) (ws[s.pos]?.getD em) = _
      rw [hlo]; exact h2
    · show addIf (upB (ws[s.pos]?.getD em)) (nmH ws s.pos) (ws[s.pos]?.getD em) = (put s.hid (hd0 (pk ws s))).map one1
      rw [hl, h3, hk]
      conv => lhs; rw [ho]
      exact add_put _ _
  · rw [if_neg hl]; exact keep_val s h
theorem keep_ite {ws : List ByteArray} {k : ByteArray} {A B : PS → PS} (hA : ∀ s, Inv ws s → acB ws k s = true → Inv ws (A s)) (hB : Keep ws B) : Keep ws (fun s => if acB ws k s then A s else B s) := by
  intro s h
  dsimp only
  by_cases ha : acB ws k s = true
  · rw [if_pos ha]; exact hA s h ha
  · rw [if_neg ha]; exact hB s h
theorem xOpen {ws : List ByteArray} : Keep ws (exS ws kOpen) := keep_ex rfl rfl (data_ne (by simp [kOpen, dotW]))
theorem xClose {ws : List ByteArray} : Keep ws (exS ws kClose) := keep_ex rfl rfl (data_ne (by simp [kClose, dotW]))
theorem xComma {ws : List ByteArray} : Keep ws (exS ws kComma) := keep_ex rfl rfl (data_ne (by simp [kComma, dotW]))
theorem xTo {ws : List ByteArray} : Keep ws (exS ws kTo) := keep_ex rfl rfl (data_ne (by simp [kTo, dotW]))
theorem xEq {ws : List ByteArray} : Keep ws (exS ws kEq) := keep_ex rfl rfl (data_ne (by simp [kEq, dotW]))
theorem xSemi {ws : List ByteArray} : Keep ws (exS ws kSemi) := keep_ex rfl rfl (data_ne (by simp [kSemi, dotW]))
theorem xLB {ws : List ByteArray} : Keep ws (exS ws kLB) := keep_ex rfl rfl (data_ne (by simp [kLB, dotW]))
theorem xRB {ws : List ByteArray} : Keep ws (exS ws kRB) := keep_ex rfl rfl (data_ne (by simp [kRB, dotW]))
theorem xIf {ws : List ByteArray} : Keep ws (exS ws kIf) := keep_ex rfl rfl (data_ne (by simp [kIf, dotW]))
theorem xWhile {ws : List ByteArray} : Keep ws (exS ws kWhile) := keep_ex rfl rfl (data_ne (by simp [kWhile, dotW]))
theorem xPre {ws : List ByteArray} : Keep ws (exS ws kPre) := keep_ex rfl rfl (data_ne (by simp [kPre, dotW]))
theorem keep_rel {ws : List ByteArray} : Keep ws (relS ws) :=
  keep_ite (fun _ h ha => keep_adv h ha rfl rfl (data_ne (by simp [kEq, dotW]))) (keep_ite (fun _ h ha => keep_adv h ha rfl rfl (data_ne (by simp [kNe, dotW]))) xTo)
theorem keep_li {ws : List ByteArray} : Keep ws (liS ws) := fun _ h => xClose _ (keep_te _ (xComma _ (keep_te _ (xOpen _ h))))
theorem keep_at {ws : List ByteArray} : Keep ws (atS ws) :=
  keep_ite (fun _ h ha => keep_adv h ha rfl rfl (data_ne (by simp [kEmp, dotW]))) (keep_ite (fun _ h ha => keep_li _ (keep_adv h ha rfl rfl (data_ne (by simp [kLs, dotW])))) (fun _ h => keep_te _ (keep_rel _ (keep_te _ h))))
theorem keep_foG {ws : List ByteArray} (n : Nat) : Keep ws (fun s => (foG ws n s).2) := by
  induction n with
  | zero => exact fun _ h => h
  | succ n ih =>
    intro s h
    simp only [foG]
    by_cases ha : acB ws kStar s = true
    · rw [if_pos ha]; exact ih _ (keep_at _ (keep_adv h ha rfl rfl (data_ne (by simp [kStar, dotW]))))
    · rw [if_neg ha]; exact h
theorem keep_fo {ws : List ByteArray} : Keep ws (foS ws) := fun s h => keep_foG (ws.length + 1) _ (keep_at s h)
theorem keep_coT {ws : List ByteArray} : Keep ws (coT ws) := keep_ite (fun _ h ha => keep_adv h ha rfl rfl (data_ne (by simp [kNe, dotW]))) xEq
theorem keep_co {ws : List ByteArray} : Keep ws (coS ws) := keep_ite (fun _ h ha => keep_adv h ha rfl rfl (data_ne (by simp [kStar, dotW]))) (fun _ h => keep_val _ (keep_coT _ (keep_va _ h)))
theorem keep_ts {ws : List ByteArray} : Keep ws (tsS ws) := fun s h => (show Inv ws (tsP ws s) from xClose _ (keep_co _ (xOpen _ h)))
theorem keep_as {ws : List ByteArray} : Keep ws (asS ws) := by
  refine keep_ite (fun _ h ha => keep_adv h ha rfl rfl (data_ne (by simp [kNew, dotW]))) (fun s h => ?_)
  by_cases ha : asD ws s = true
  · rw [if_pos ha]
    unfold asD at ha
    simp only [Bool.and_eq_true] at ha
    exact keep_dot (keep_val s h) ha.2
  · rw [if_neg ha]; exact keep_val s h
theorem keep_si {ws : List ByteArray} : Keep ws (siS ws) := by
  refine keep_ite (fun _ h ha => keep_adv h ha rfl rfl (data_ne (by simp [kSkip, dotW]))) (keep_ite (fun _ h ha => keep_va _ (keep_adv h ha rfl rfl (data_ne (by simp [kFree, dotW])))) (fun s h => ?_))
  by_cases ha : acB ws kDot (vaS ws s) = true
  · rw [if_pos ha]; exact keep_val _ (xEq _ (keep_dot (keep_va s h) ha))
  · rw [if_neg ha]; exact keep_as _ (xEq _ (keep_va s h))
theorem keep_sc {ws : List ByteArray} : Keep ws (scS ws) := fun s h => (show Inv ws (exS ws kSemi (siS ws s)) from xSemi _ (keep_si s h))
theorem keep_lo {ws : List ByteArray} {blk : PS → PS} (hb : Keep ws blk) : Keep ws (loS blk ws) := fun s h => (show Inv ws (loA blk ws s) from hb _ (keep_ts _ (xWhile s h)))
theorem keep_br {ws : List ByteArray} {blk : PS → PS} (hb : Keep ws blk) : Keep ws (brS blk ws) := by
  intro s h
  have h1 : Inv ws (brA blk ws s) := hb _ (keep_ts _ (xIf s h))
  unfold brS
  by_cases ha : acB ws kElse (brA blk ws s) = true
  · rw [if_pos ha]
    exact (show Inv ws (blk (brB s.nodes.length (brA blk ws s))) from hb _ (show Inv ws (brA blk ws s).adv from keep_adv h1 ha rfl rfl (data_ne (by simp [kElse, dotW]))))
  · rw [if_neg ha]; exact h1
theorem keep_cm {ws : List ByteArray} {blk : PS → PS} (hb : Keep ws blk) : Keep ws (cmB blk ws) := keep_ite (fun s h _ => keep_br hb s h) (keep_ite (fun s h _ => keep_lo hb s h) keep_sc)
theorem keep_cs {ws : List ByteArray} {c : PS → PS} (hc : Keep ws c) (n : Nat) : Keep ws (cmS c ws n) := by
  induction n with
  | zero => exact fun _ h => h
  | succ n ih =>
    intro s h
    simp only [cmS]
    split
    · exact h
    · exact ih _ (hc s h)
theorem keep_bl {ws : List ByteArray} (f : Nat) : Keep ws (blS ws f) := by
  induction f with
  | zero => exact fun _ h => h
  | succ f ih => exact fun s h => xRB _ (keep_cs (keep_cm ih) _ _ (xLB s h))
theorem keep_pr {ws : List ByteArray} : Keep ws (prS ws) := by
  intro s h
  have h1 : Inv ws (prT ws s) := (show Inv ws (blS ws (ws.length + 1) (foS ws (exS ws kPre s))) from keep_bl _ _ (keep_fo _ (xPre s h)))
  unfold prS
  split
  · exact h1
  · exact inv_fail _ _
theorem inv_ini (ws : List ByteArray) : Inv ws ini := fun _ => ⟨rfl, rfl, rfl⟩
/-- the two readers say the same of every text -/
theorem eqv_all (l : List UInt8) : Eqv l := by
  have hW : rdW l = rrW l := rfl
  by_cases h1 : 240 < l.length
  · have e1 : rdE l = 1 := by unfold rdE; rw [if_pos h1]
    exact ⟨e1.trans (rrE_long h1).symm, fun h => by rw [e1] at h; cases h⟩
  · by_cases h2 : spl l = none
    · have e1 : rdE l = 2 := by unfold rdE; rw [if_neg h1, if_pos h2]
      exact ⟨e1.trans (rrE_lex h1 h2).symm, fun h => by rw [e1] at h; cases h⟩
    · by_cases h3 : ∃ k, Pgm (rrW l) k
      · obtain ⟨k, hk⟩ := h3
        obtain ⟨hf, hn, hp⟩ := rd_some (pr_complete hk)
        obtain ⟨al, cl, hr, hcl⟩ := rr_complete hk
        have hi := keep_pr (ws := rrW l) ini (inv_ini _) hf
        rw [hp] at hi
        obtain ⟨_, hv, hh⟩ := hi
        have lv : (rdS l).vars.length = (nmV (rrW l) (rrW l).length).length := by rw [hv, List.length_map]; rfl
        have lh : (rdS l).hid.length = (nmH (rrW l) (rrW l).length).length := by rw [hh, List.length_map]; rfl
        have hr0 : rrS (rrW l) ≠ none := by rw [hr]; simp
        have hf0 : ¬ (rdS l).failed = true := by
          rw [show (rdS l).failed = false from hf]; simp
        refine ⟨?_, fun _ al' cl' hr' => ⟨lv, ?_⟩⟩
        · unfold rdE
          rw [if_neg h1, if_neg h2, if_neg hf0, lv, lh]
          by_cases h4 : 4 < (nmV (rrW l) (rrW l).length).length ∨ 8 < (nmH (rrW l) (rrW l).length).length
          · rw [if_pos h4, rrE_names h1 h2 hr0 h4]
          · rw [if_neg h4, rrE_ok h1 h2 hr0 h4]
        · rw [hr] at hr'
          cases hr'
          rw [hcl]
          exact hn
      · have hr : rrS (rrW l) = none := by
          cases hr : rrS (rrW l) with
          | none => rfl
          | some x =>
            obtain ⟨al, cl⟩ := x
            exact absurd ⟨_, rr_sound hr⟩ h3
        have hf : (rdS l).failed = true := by
          refine rd_none (ws := rrW l) (fun k hk => ?_)
          obtain ⟨j, hj, _⟩ := pr_sound hk
          exact h3 ⟨j, hj⟩
        have e1 : rdE l = 3 := by unfold rdE; rw [if_neg h1, if_neg h2, if_pos hf]
        exact ⟨e1.trans (rrE_syn h1 h2 hr).symm, fun h => by rw [e1] at h; cases h⟩
end Go.Proofs.Ytciihepbeacppaa
