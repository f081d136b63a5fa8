import Derived.Test.YtciihepbeacppaaGreatRO
import Derived.Test.YtciihepbeacppaaGreatRC
namespace Go.Proofs.YtciihepbeacppaaGreat
open Go.RowKit

theorem rsplitF_len (f : Nat) : ∀ (l : List UInt8) (L : List (List UInt8)), splitF f l = some L → (L.map List.length).sum ≤ l.length ∧ L.length ≤ l.length := by
  induction f with
  | zero =>
    intro l L h
    match l, h with
    | [], h => simp [splitF] at h; subst h; simp
    | _ :: _, h => simp [splitF] at h
  | succ f ih =>
    intro l L h
    match l, h with
    | [], h => simp [splitF] at h; subst h; simp
    | c :: r, h =>
      simp only [splitF] at h
      split at h
      · have := ih r L h; simp; omega
      · split at h
        · cases h
        · rename_i hn
          obtain ⟨L', hL', rfl⟩ := Option.map_eq_some_iff.1 h
          have := ih _ L' hL'
          have hw := wordLen_le (c :: r)
          generalize hwl : wordLen (c :: r) = n at *
          simp only [List.length_drop, List.length_cons, List.map_cons, List.sum_cons, List.length_take] at *
          omega

def preW : ByteArray := ⟨#[112, 114, 101]⟩
theorem preW_l : preW.toList = [112, 114, 101] := ByteArray.toList_eq _
def exI : Ins := ⟨⟨#[101, 120, 105, 116]⟩, em, em, em, 0, false⟩
/-- the words of a program: the formula's atoms and the instructions -/
def rrS (ws : List ByteArray) : Option (List RAt × List Ins) :=
  if ws.length = 0 ∨ eqW (ws[0]?.getD em) preW = false ∨ fndL ws lbW = ws.length then none
  else
    match rfo [] ((ws.drop 1).take (fndL ws lbW - 1)) with
    | none => none
    | some al =>
      if shI ws (fndL ws lbW) = ((ws.length : Nat) : Int) - 1 then
        match rbl (ws.length + 1) ((ws.drop (fndL ws lbW + 1)).take (ws.length - 1 - (fndL ws lbW + 1))) [] with
        | none => none
        | some cl => some (al, cl)
      else none
def rrW (l : List UInt8) : List ByteArray := ((spl l).getD []).map (fun x => ⟨x.toArray⟩)
theorem rrW_of {l : List UInt8} {ws : List ByteArray} (h : spl l = some (ws.map (·.data.toList))) : rrW l = ws := by
  unfold rrW; rw [h]
  simp only [Option.getD_some, List.map_map]
  conv => rhs; rw [← List.map_id ws]
  apply List.map_congr_left
  intro x _
  simp
/-- the reference's error; 0: it is a program -/
def rrE (l : List UInt8) : Nat :=
  if 240 < l.length then 1 else if spl l = none then 2 else if rrS (rrW l) = none then 3 else if 4 < (nmV (rrW l) (rrW l).length).length ∨ 8 < (nmH (rrW l) (rrW l).length).length then 4 else 0
theorem rrE_long {l : List UInt8} (h : 240 < l.length) : rrE l = 1 := by unfold rrE; rw [if_pos h]
theorem rrE_lex {l : List UInt8} (h : ¬ 240 < l.length) (h2 : spl l = none) : rrE l = 2 := by unfold rrE; rw [if_neg h, if_pos h2]
theorem rrE_syn {l : List UInt8} (h : ¬ 240 < l.length) (h2 : spl l ≠ none) (h3 : rrS (rrW l) = none) : rrE l = 3 := by unfold rrE; rw [if_neg h, if_neg h2, if_pos h3]
theorem rrE_names {l : List UInt8} (h : ¬ 240 < l.length) (h2 : spl l ≠ none) (h3 : rrS (rrW l) ≠ none) (h4 : 4 < (nmV (rrW l) (rrW l).length).length ∨ 8 < (nmH (rrW l) (rrW l).length).length) : rrE l = 4 := by
  unfold rrE; rw [if_neg h, if_neg h2, if_neg h3, if_pos h4]
theorem rrE_ok {l : List UInt8} (h : ¬ 240 < l.length) (h2 : spl l ≠ none) (h3 : rrS (rrW l) ≠ none) (h4 : ¬ (4 < (nmV (rrW l) (rrW l).length).length ∨ 8 < (nmH (rrW l) (rrW l).length).length)) : rrE l = 0 := by
  unfold rrE; rw [if_neg h, if_neg h2, if_neg h3, if_neg h4]
theorem rrS_none1 {ws : List ByteArray} (h : ws.length = 0 ∨ eqW (ws[0]?.getD em) preW = false ∨ fndL ws lbW = ws.length) : rrS ws = none := by unfold rrS; rw [if_pos h]
theorem rrS_none2 {ws : List ByteArray} (h : rfo [] ((ws.drop 1).take (fndL ws lbW - 1)) = none ∨ shI ws (fndL ws lbW) ≠ ((ws.length : Nat) : Int) - 1) : rrS ws = none := by
  unfold rrS; split
  · rfl
  · rcases h with h | h
    · rw [h]
    · split
      · rfl
      · rw [if_neg h]
theorem rrS_get {ws : List ByteArray} {al : List RAt} (h1 : ¬ (ws.length = 0 ∨ eqW (ws[0]?.getD em) preW = false ∨ fndL ws lbW = ws.length)) (h2 : rfo [] ((ws.drop 1).take (fndL ws lbW - 1)) = some al) (h3 : shI ws (fndL ws lbW) = ((ws.length : Nat) : Int) - 1) :
    rrS ws = (rbl (ws.length + 1) ((ws.drop (fndL ws lbW + 1)).take (ws.length - 1 - (fndL ws lbW + 1))) []).map (fun cl => (al, cl)) := by
  unfold rrS; rw [if_neg h1, h2]; dsimp only; rw [if_pos h3]
  cases rbl (ws.length + 1) ((ws.drop (fndL ws lbW + 1)).take (ws.length - 1 - (fndL ws lbW + 1))) [] <;> rfl
/-- the reference's program in memory -/
def IsR (B : Nat) (w : World) (X : Nat) (ws : List ByteArray) (al : List RAt) (cl : List Ins) : Prop :=
  ∃ vv hv pv cv : Value, w.heap[X]? = some (.cells #[vv, hv, pv, cv, .string ⟨(jn ws).toArray⟩] 54 (0, 0)) ∧ B ≤ X ∧
    w.ownsRow B 9 1 vv (nmV ws ws.length).length ((nmV ws ws.length).map Value.string) ∧ w.ownsRow B 9 1 hv (nmH ws ws.length).length ((nmH ws ws.length).map Value.string) ∧
    w.ownsRow B 139 3 pv al.length (raCells al) ∧ w.ownsRow B 100 6 cv (cl.length + 1) (insCells (cl ++ [exI]))

theorem find_lb {w : World} {v : Value} {l : List ByteArray} (h : Strs w v l) (hl : l.length ≤ 20000) (b : Nat) (hb : fndL l lbW = b) : Calls Tryz.prog 48 #[v, .int .i64 0, .string ⟨#[123]⟩] w fun e w' => e = .returned (.int .i64 b) ∧ w' = w := by
  rw [← hb]; exact find_any lbW h hl
/-- how the reference's Read comes back -/
def RrPost (s : ByteArray) (w : World) (e : Ending) (w' : World) : Prop :=
  Below w.heap.size w w' ∧ ((rrE s.data.toList ≠ 0 ∧ e = .returned (.tuple #[.pointer none, .int .i64 (rrE s.data.toList)])) ∨
    (rrE s.data.toList = 0 ∧ ∃ X al cl, rrS (rrW s.data.toList) = some (al, cl) ∧ e = .returned (.tuple #[.pointer (some ⟨X, 0, none⟩), .int .i64 0]) ∧ IsR w.heap.size w' X (rrW s.data.toList) al cl))
theorem RrPost.bad {s : ByteArray} {w w' : World} {n : Nat} (hb : Below w.heap.size w w') (h : rrE s.data.toList = n) (hn : n ≠ 0) : RrPost s w (.returned (.tuple #[.pointer none, .int .i64 n])) w' :=
  ⟨hb, Or.inl ⟨by rw [h]; exact hn, by rw [h]⟩⟩

set_option maxRecDepth 100000 in
set_option maxHeartbeats 1000000 in
theorem rread_long (s : ByteArray) (w : World) (hlong : 240 < s.size) : Calls Tryz.prog 26 #[.string s] w fun e w' => RrPost s w e w' := by
  have HE : Hid (rrE s.data.toList = 1) := hide (rrE_long (by rw [size_toList]; exact hlong))
  go_enter Tryz.func26, Tryz.ntmps26
  go_wp2_with fail
  go_ret2
  exact RrPost.bad (Below.refl _ _) (unhide HE) (by decide)

theorem rlen {l : List UInt8} {ws : List ByteArray} (h : spl l = some (ws.map (·.data.toList))) : ws.length ≤ l.length := by
  have h1 := (rsplitF_len _ _ _ h).2
  simpa using h1

set_option maxRecDepth 100000 in
set_option maxHeartbeats 1000000 in
/-- a text that cannot be cut, or whose words begin with no head -/
theorem rread_bad (s : ByteArray) (w : World) (hlong : ¬ 240 < s.size) (hbad : spl s.data.toList = none ∨ ((rrW s.data.toList).length = 0 ∨ eqW ((rrW s.data.toList)[0]?.getD em) preW = false ∨ fndL (rrW s.data.toList) lbW = (rrW s.data.toList).length)) :
    Calls Tryz.prog 26 #[.string s] w fun e w' => RrPost s w e w' := by
  have HL : Hid (¬ 240 < s.data.toList.length) := hide (by rw [size_toList]; exact hlong)
  have hd : decide ((240 : Int) < (s.size : Int)) = false := by simp; omega
  have HBAD := hide hbad
  clear hbad
  go_enter Tryz.func26, Tryz.ntmps26
  go_wp2_with fail
  refine (rsplit_any s w (by omega)).mono ?_
  rintro e w1 ⟨hbl, (⟨hnone, rfl⟩ | ⟨ws, v, hsome, hown, rfl⟩)⟩
  · have HE : Hid (rrE s.data.toList = 2) := hide (rrE_lex (unhide HL) hnone)
    clear hnone
    go_wp2_with fail
    go_ret2
    exact RrPost.bad hbl (unhide HE) (by decide)
  · have hlen := rlen hsome
    rw [size_toList] at hlen
    have HW : Hid (rrW s.data.toList = ws) := hide (rrW_of hsome)
    have hbad : ws.length = 0 ∨ eqW (ws[0]?.getD em) preW = false ∨ fndL ws lbW = ws.length := by
      have := unhide HBAD
      rw [hsome, unhide HW] at this
      simpa using this
    have HE : Hid (rrE s.data.toList = 3) := hide (rrE_syn (unhide HL) (by rw [hsome]; simp) (by rw [unhide HW]; exact rrS_none1 hbad))
    have hst := StrB.of (Strs.of_own hown)
    have hsz := hbl.size
    have HP : Hid (∀ o, RrPost s w (.returned (.tuple #[.pointer none, .int .i64 3])) (w1.alloc o)) := hide (fun o => RrPost.bad (hbl.alloc hsz o) (unhide HE) (by decide))
    obtain ⟨b, hb⟩ : ∃ b, fndL ws lbW = b := ⟨_, rfl⟩
    have HF : Hid (∀ o, Calls Tryz.prog 48 #[v, .int .i64 0, .string ⟨#[123]⟩] (w1.alloc o) fun e w' => e = .returned (.int .i64 b) ∧ w' = w1.alloc o) := hide (fun o => find_lb (hst.below ((Below.refl _ _).alloc (Nat.le_refl _) o)).str (by omega) b hb)
    have hbl2 := fndL_le ws lbW
    rw [hb] at hbl2 hbad
    have HOWN := hide hown
    have HST := hide hst
    clear hown hst hbl hsome HBAD HW HE
    cases ws with
    | nil =>
      obtain ⟨ao, cap, rfl⟩ := slice_of_own (unhide HOWN)
      simp only [List.length_nil] at *
      clear hb hbad
      go_wp2_with (go_at_call 48; refine (unhide HF _).mono ?_; rintro e w' ⟨rfl, rfl⟩)
      go_ret2
      exact unhide HP _
    | cons x r =>
      obtain ⟨g, off, n, cap, hg, rfl, hn, hncap, hm, c0, hcell⟩ := (unhide HST).open
      rw [← hn] at hbad hbl2 hlen
      have hn1 : 1 ≤ n := by rw [hn]; simp
      have c1 : ∀ o, (w1.alloc o).cell? ⟨g, off, none⟩ = some (.string x) := fun o => by rw [((Below.refl w1.heap.size w1).alloc (Nat.le_refl _) o).cell (p := ⟨g, off, none⟩) hg]; exact c0
      have hbad' : (x.toList == [112, 114, 101]) = false ∨ ((x.toList == [112, 114, 101]) = true ∧ b = n) := by
        cases hx : (x.toList == [112, 114, 101]) with
        | false => exact Or.inl rfl
        | true =>
          refine Or.inr ⟨rfl, ?_⟩
          rcases hbad with h | h | h
          · omega
          · simp only [List.getElem?_cons_zero, Option.getD_some] at h
            unfold eqW at h; rw [preW_l, hx] at h; cases h
          · exact h
      clear hbad hb hcell hn c0
      unfold maxLen at hm
      have c2 := c1 (.cells #[.slice none 0 0, .slice none 0 0, .slice none 0 0, .slice none 0 0, .string ⟨#[]⟩] 54)
      rcases hbad' with hx | ⟨hx, rfl⟩
      · clear c1
        go_wp2_with (go_at_call 48; refine (unhide HF _).mono ?_; rintro e w' ⟨rfl, rfl⟩)
        go_ret2
        exact unhide HP _
      · clear c1
        go_wp2_with (go_at_call 48; refine (unhide HF _).mono ?_; rintro e w' ⟨rfl, rfl⟩)
        go_ret2
        exact unhide HP _
end Go.Proofs.YtciihepbeacppaaGreat
