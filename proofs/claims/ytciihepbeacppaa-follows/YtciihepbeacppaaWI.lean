import Derived.Test.YtciihepbeacppaaWH
namespace Go.Proofs.Ytciihepbeacppaa
open Go.RowKit

def hd0 (u : ByteArray) : UInt8 := u.data.toList.headD 0
/-- a letter more, if it is new -/
def put (l : List UInt8) (c : UInt8) : List UInt8 := if plc l c = l.length then l ++ [c] else l
def vaI (ws : List ByteArray) (s : PS) : Nat := if lowB (pk ws s) then plc s.vars (hd0 (pk ws s)) else 0
def vaS (ws : List ByteArray) (s : PS) : PS := if lowB (pk ws s) then { s with pos := s.pos + 1, vars := put s.vars (hd0 (pk ws s)) } else s.fail

theorem hd0_at {u : ByteArray} (h : 0 < u.size) : hd0 u = u[0] := by
  obtain ⟨⟨l⟩⟩ := u
  match l, h with
  | c :: r, _ => rfl
theorem lowB_size {u : ByteArray} (h : lowB u = true) : u.size = 1 := by
  by_cases hs : u.size = 1
  · exact hs
  · rw [lowB_not u hs] at h; cases h
theorem put_le (l : List UInt8) (c : UInt8) : (put l c).length ≤ l.length + 1 := by unfold put; split <;> simp

theorem Try.infoNode : (Try.prog.info? 130).map (fun i => (i.zero, i.size, i.bytes)) = some (some (.agg #[.int .i64 0, .int .i64 0, .int .i64 0, .int .i64 0, .int .i64 0, .int .i64 0]), 6, 48) := by kernel_rfl

section
variable {B : Nat} {WV : Value} {w : World} {P : Nat} {ws : List ByteArray} {s : PS} {F : List Nat} {wv vv hv nv : Value}

theorem Fit.va (h : Fit ws s) (hp : s.pos < ws.length) (c : UInt8) : Fit ws { s with pos := s.pos + 1, vars := put s.vars c } := by
  obtain ⟨a, b, d, e⟩ := h
  have := put_le s.vars c
  simp only [Fit]; omega

theorem IsPv.readsV (h : IsPv B WV w P ws s F wv vv hv nv) : w.cell? ⟨P, 1, none⟩ = some (.int .i64 s.pos) ∧ w.cell? ⟨P, 2, none⟩ = some (.bool s.failed) ∧ w.cell? ⟨P, 3, none⟩ = some vv ∧ w.cell? ⟨P, 4, none⟩ = some hv ∧ w.cell? ⟨P, 5, none⟩ = some nv ∧ (∀ j, w.frozen? ⟨P, j, none⟩ = false) := by
  obtain ⟨hP, _⟩ := h
  obtain ⟨⟨c0, c1, c2, c3, c4, c5⟩, fz⟩ := cells6 hP
  exact ⟨c1, c2, c3, c4, c5, fz⟩

theorem own_da {e : TypeId} {v : Value} {sz n : Nat} {xs : List Value} (h : w.ownsRow B e sz v n xs) (k : Nat) (o : Obj) : ((w.drewN k).alloc o).ownsRow B e sz v n xs := World.ownsRow.alloc (w := w.drewN k) h o
theorem one_da (w : World) (k : Nat) (x : Value) (T : TypeId) : ∀ (j : Nat) (u : Value), [x][j]? = some u → ((w.drewN k).alloc (.cells #[x] T)).cell? ((⟨w.heap.size, 0, none⟩ : Addr).add j) = some u := one_new (w.drewN k) x T
theorem oneCell_u8 (n : Int) : ∀ u ∈ [Value.int .u8 n], u.oneCell' = true := by intro u hu; simp at hu; subst hu; rfl
theorem le_da {B : Nat} (h : B ≤ w.heap.size) (k : Nat) (o : Obj) : B ≤ ((w.drewN k).alloc o).heap.size := by simp; omega
theorem grown_block {w2 : World} {o : Obj} {row : Option Nat} {k : Nat} (hg : ((w.drewN k).alloc o).grownBy w2 row) (hP : P < w.heap.size) (hne : row ≠ some P) : w2.heap[P]? = w.heap[P]? := by
  rw [hg.block P (by simp; omega) (fun e => hne e.symm)]; exact Below.heap_alloc (w.drewN k) _ _ hP
theorem grown_cell {w2 : World} {o : Obj} {row : Option Nat} {k : Nat} (hg : ((w.drewN k).alloc o).grownBy w2 row) (hP : P < w.heap.size) (hne : row ≠ some P) (j : Nat) {v : Value} (h : w.cell? ⟨P, j, none⟩ = some v) : w2.cell? ⟨P, j, none⟩ = some v :=
  (World.cell?_of_block (a := ⟨P, j, none⟩) (grown_block hg hP hne)).trans h
theorem grown_frozen {w2 : World} {o : Obj} {row : Option Nat} {k : Nat} (hg : ((w.drewN k).alloc o).grownBy w2 row) (hP : P < w.heap.size) (hne : row ≠ some P) (j : Nat) {b : Bool} (h : w.frozen? ⟨P, j, none⟩ = b) : w2.frozen? ⟨P, j, none⟩ = b :=
  (World.frozen?_of_block (a := ⟨P, j, none⟩) (grown_block hg hP hne)).trans h

theorem place_quiet {n j : Nat} {v : Value} {l : List UInt8} {c : UInt8} (hj : j = plc l c) (h : w.ownsRow B 5 1 v l.length (bc l)) (hl : l.length ≤ 20000) :
    Calls Try.prog 62 #[v, .int .u8 (c.toNat : Int)] (w.drewN n) fun e w'' => e = .returned (.int .i64 j) ∧ ∃ m, w'' = w.drewN m := by
  subst hj
  exact Calls.quiet_of_same (place_any (B := B) (w := w.drewN n) c h hl)

set_option maxRecDepth 100000 in
set_option maxHeartbeats 2000000 in
theorem variable_any (h : IsQ B WV w P ws s F) :
    Calls Try.prog 68 #[.pointer (some ⟨P, 0, none⟩)] w fun e w' => e = .returned (.int .i64 (vaI ws s)) ∧ ∃ F', IsQ B WV w' P ws (vaS ws s) F' ∧ Stp F w F' w' := by
  obtain ⟨i0, hi, hz0, hz1, hz2⟩ := info_parts Try.infoByte
  have HQ := hide h
  have HK := hide (peek_any h)
  obtain ⟨wv, vv, hv, nv, hpv⟩ := h.m.named
  obtain ⟨hl, hp, hvl, hhl⟩ := h.f
  clear h
  obtain ⟨u, hu⟩ : ∃ u, u = pk ws s := ⟨_, rfl⟩
  have HU := hide hu
  rw [← hu] at HK
  clear hu
  cases hlow : lowB u with
  | false =>
    have HI : Hid (vaI ws s = 0) := hide (by unfold vaI; rw [← unhide HU, hlow]; rfl)
    have HS : Hid (vaS ws s = s.fail) := hide (by unfold vaS; rw [← unhide HU, hlow]; rfl)
    obtain ⟨c1, c2, c3, c4, c5, fz⟩ := hpv.readsV
    have f2 := fz 2
    clear c1 c3 c4 c5 fz hpv
    go_enter Try.func68, Try.ntmps68
    go_wp2_with (first | (go_at_call 53; refine (unhide HK).mono ?_; rintro e w' ⟨rfl, n, rfl⟩) | (go_at_call 70; refine (isVariable_any u _).mono ?_; rintro e w' ⟨rfl, rfl⟩))
    go_ret
    exact ⟨ret_int (by rw [unhide HI]; rfl), F, ⟨by rw [unhide HS]; exact ((unhide HQ).m.drewN n).setFailed true, by rw [unhide HS]; exact (unhide HQ).f⟩, ((Stp.refl F w).drewN n).setCell (Or.inl (unhide HQ).m.memP) _⟩
  | true =>
    have hus : 0 < u.size := by rw [lowB_size hlow]; omega
    have HI : Hid (vaI ws s = plc s.vars u[0]) := hide (by unfold vaI; rw [← unhide HU, hlow, if_pos rfl, hd0_at hus])
    have HS : Hid (vaS ws s = { s with pos := s.pos + 1, vars := put s.vars u[0] }) := hide (by unfold vaS; rw [← unhide HU, hlow, if_pos rfl, hd0_at hus])
    have hlt : s.pos < ws.length := (pk_lt (by rw [← unhide HU]; omega)).2
    have hple := plc_le s.vars u[0]
    obtain ⟨j, hj⟩ : ∃ j, j = plc s.vars u[0] := ⟨_, rfl⟩
    have HJ := hide hj
    rw [← hj] at hple
    clear hj
    obtain ⟨ao, cap, rfl, hm, _⟩ := bytes_of_own hpv.2.2.2.1
    obtain ⟨c1, c2, c3, c4, c5, fz⟩ := hpv.readsV
    have f1 := fz 1
    have HPV := hide hpv
    clear fz c2 c3 c4 c5 hpv
    go_enter Try.func68, Try.ntmps68
    go_wp2_with (first | (go_at_call 53; refine (unhide HK).mono ?_; rintro e w' ⟨rfl, n, rfl⟩) | (go_at_call 70; refine (isVariable_any u _).mono ?_; rintro e w' ⟨rfl, rfl⟩))
    have hpv1 := ((unhide HPV).drewN n).setPos (s.pos + 1)
    have hst1 : Stp F w F ((w.drewN n).setCell ⟨P, 1, none⟩ (.int .i64 ((s.pos : Int) + 1))) := ((Stp.refl F w).drewN n).setCell (Or.inl (unhide HQ).m.memP) _
    rw [show (((s.pos + 1 : Nat)) : Int) = (s.pos : Int) + 1 by omega] at hpv1
    generalize (w.drewN n).setCell ⟨P, 1, none⟩ (.int .i64 ((s.pos : Int) + 1)) = w1 at hpv1 hst1 ⊢
    clear c1 f1
    obtain ⟨_, _, c3, _, _, fz⟩ := hpv1.readsV
    have f3 := fz 3
    have hrow := hpv1.2.2.2.1
    have HR := hide hrow
    have HV1 := hide hpv1
    have HST := hide hst1
    clear fz hpv1 hst1 hrow
    have hPl : P < w1.heap.size := ((unhide HV1).is.mem P (unhide HV1).is.memP).2
    have hBs : B ≤ w1.heap.size := by have := ((unhide HV1).is.mem P (unhide HV1).is.memP).1; omega
    have HNP : Hid ((Value.slice ao s.vars.length cap).ownBlock ≠ some P) := hide (fun e => (unhide HV1).apart.1 P (by simp [e]) rfl)
    by_cases hjl : j = s.vars.length
    · have hjt : ((j : Int) == (s.vars.length : Int)) = true := by simp [hjl]
      have HJL := hide hjl
      clear hjl
      have c3a : ∀ (k : Nat) (o : Obj), ((w1.drewN k).alloc o).cell? ⟨P, 3, none⟩ = some (.slice ao s.vars.length cap) := fun k o => (World.cell?_of_block (a := ⟨P, 3, none⟩) (Below.heap_alloc (w1.drewN k) o P hPl)).trans c3
      go_quiet ((go_at_call 62; exact place_quiet (unhide HJ) (unhide HR) (by omega)))
      go_wp2_with fail
      go_region_law (refine step_app1 _ rfl (.tmp 38) (.tmp 41) 50 rfl B 5 i0 (.int .u8 0) 1 1 Try.underlying50 hi hz0 hz1 hz2 rfl (by decide) (.slice ao s.vars.length cap) s.vars.length (bc s.vars) (by simp [Act.eval]) (own_da (unhide HR) _ _) ⟨w1.heap.size, 0, none⟩ 1 [.int .u8 (u[0].toNat : Int)] (by simp [Act.eval]) rfl (one_da _ _ _ _) (oneCell_u8 _) (by omega) (by omega) (le_da hBs _ _) ?_; intro g2 cap2 w2 hown2 hgrow2 hblk2; have c3' := grown_cell hgrow2 hPl (unhide HNP) 3 c3; have f3' := grown_frozen hgrow2 hPl (unhide HNP) 3 f3; have HO2 := hide hown2; have HG2 := hide hgrow2; have HB2 := hide hblk2; clear hown2 hgrow2 hblk2)
      all_goals
        go_wp2_with fail
        go_ret
        obtain ⟨F', hI', hS'⟩ := IsPv.pushVars u[0] ((unhide HV1).drewN _) (unhide HG2) (unhide HO2) (unhide HB2)
        refine ⟨ret_int (by rw [unhide HI, ← unhide HJ]), F', ⟨?_, ?_⟩, ((unhide HST).drewN _).trans hS'⟩
        · rw [unhide HS]; unfold put; rw [if_pos (by rw [← unhide HJ]; exact unhide HJL)]; exact hI'
        · rw [unhide HS]; exact (unhide HQ).f.va hlt _
    · have hjt : ((j : Int) == (s.vars.length : Int)) = false := by simp; omega
      have HJL := hide hjl
      clear hjl
      go_quiet ((go_at_call 62; exact place_quiet (unhide HJ) (unhide HR) (by omega)))
      go_wp2_with fail
      go_ret
      refine ⟨ret_int (by rw [unhide HI, ← unhide HJ]), F, ⟨?_, ?_⟩, (unhide HST).drewN _⟩
      · rw [unhide HS]; unfold put; rw [if_neg (by rw [← unhide HJ]; exact unhide HJL)]; exact (unhide HV1).is.drewN _
      · rw [unhide HS]; exact (unhide HQ).f.va hlt _
end
end Go.Proofs.Ytciihepbeacppaa
