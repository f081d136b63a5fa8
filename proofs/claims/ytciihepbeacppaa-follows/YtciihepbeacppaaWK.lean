import Derived.Test.YtciihepbeacppaaWJ
namespace Go.Proofs.Ytciihepbeacppaa
open Go.RowKit

def teK (ws : List ByteArray) (s : PS) : Nat := if upB (pk ws s) then 2 else valK ws s
def teI (ws : List ByteArray) (s : PS) : Nat := if upB (pk ws s) then plc s.hid (hd0 (pk ws s)) else valI ws s
def teS (ws : List ByteArray) (s : PS) : PS := if upB (pk ws s) then { s with pos := s.pos + 1, hid := put s.hid (hd0 (pk ws s)) } else valS ws s

theorem upB_size {u : ByteArray} (h : upB u = true) : u.size = 1 := by
  by_cases hs : u.size = 1
  · exact hs
  · rw [upB_not u hs] at h; cases h

section
variable {B : Nat} {WV : Value} {w : World} {P : Nat} {ws : List ByteArray} {s : PS} {F : List Nat} {wv vv hv nv : Value}
theorem Fit.te (h : Fit ws s) (hp : s.pos < ws.length) (c : UInt8) : Fit ws { s with pos := s.pos + 1, hid := put s.hid c } := by
  obtain ⟨a, b, d, e⟩ := h
  have := put_le s.hid c
  simp only [Fit]; omega

set_option maxRecDepth 100000 in
set_option maxHeartbeats 2000000 in
theorem term_any (h : IsQ B WV w P ws s F) :
    Calls Try.prog 51 #[.pointer (some ⟨P, 0, none⟩)] w fun e w' => e = .returned (.agg #[.int .i64 (teK ws s), .int .i64 (teI ws s)]) ∧ ∃ F', IsQ B WV w' P ws (teS ws s) F' ∧ Stp F w F' w' := by
  obtain ⟨i0, hi, hz0, hz1, hz2⟩ := info_parts Try.infoByte
  have HQ := hide h
  obtain ⟨w0, hw0⟩ : ∃ w0, w0 = w.alloc (.cells #[.int .i64 0, .int .i64 0] 84) := ⟨_, rfl⟩
  have h0 : IsQ B WV w0 P ws s F := by rw [hw0]; exact h.alloc _
  have HS00 : Hid (Stp F w F w0) := hide (by rw [hw0]; exact (Stp.refl F w).alloc _)
  have HB0 : Hid (w0.heap[w.heap.size]? = some (.cells #[.int .i64 0, .int .i64 0] 84 (0, 0))) := hide (by rw [hw0]; exact heap_alloc_new w _)
  have HN0 : Hid (w.heap.size ∉ F) := hide (fun hm => by have := (h.m.mem _ hm).2; omega)
  have HW0 := hide hw0
  clear hw0
  have HQ0 := hide h0
  have HK := hide (peek_any h0)
  obtain ⟨wv, vv, hv, nv, hpv⟩ := h0.m.named
  obtain ⟨hl, hp, hvl, hhl⟩ := h.f
  clear h h0
  obtain ⟨u, hu⟩ : ∃ u, u = pk ws s := ⟨_, rfl⟩
  have HU := hide hu
  rw [← hu] at HK
  clear hu
  cases hlow : upB u with
  | false =>
    have HIK : Hid (teK ws s = valK ws s) := hide (by unfold teK; rw [← unhide HU, hlow]; rfl)
    have HII : Hid (teI ws s = valI ws s) := hide (by unfold teI; rw [← unhide HU, hlow]; rfl)
    have HS : Hid (teS ws s = valS ws s) := hide (by unfold teS; rw [← unhide HU, hlow]; rfl)
    clear hpv
    go_enter Try.func51, Try.ntmps51
    go_wp2_with (first | (rw [← unhide HW0]; go_at_call 53; refine (unhide HK).mono ?_; rintro e w' ⟨rfl, n, rfl⟩) | (go_at_call 61; refine (isHidden_any u _).mono ?_; rintro e w' ⟨rfl, rfl⟩))
    refine (value_any (w := w0.drewN n) ⟨(unhide HQ0).m.drewN n, (unhide HQ0).f⟩).mono ?_
    rintro e w2 ⟨rfl, F', hI3, hS3⟩
    obtain ⟨hb3, hn3, hl3⟩ := loc_keep (w0 := w0.drewN n) (unhide HB0) (unhide HN0) hS3
    obtain ⟨⟨d0, d1⟩, e0, e1⟩ := cells2 hb3
    have HI3 := hide hI3
    have HS3 := hide hS3
    clear hI3 hS3 hb3
    go_wp2_with fail
    refine bodyPost_ret (v := .agg #[.int .i64 (valK ws s), .int .i64 (valI ws s)]) (by simp [results, Try.results51, go_sem, d0, d1]) rfl ⟨by rw [unhide HIK, unhide HII], F', ?_, ?_⟩
    · rw [unhide HS]; exact ((unhide HI3).setOther hn3 _).setOther hn3 _
    · exact ((((unhide HS00).drewN n).trans (unhide HS3)).setCell (Or.inr (Nat.le_refl _)) _).setCell (Or.inr (Nat.le_refl _)) _
  | true =>
    have hus : 0 < u.size := by rw [upB_size hlow]; omega
    have HIK : Hid (teK ws s = 2) := hide (by unfold teK; rw [← unhide HU, hlow, if_pos rfl])
    have HI : Hid (teI ws s = plc s.hid u[0]) := hide (by unfold teI; rw [← unhide HU, hlow, if_pos rfl, hd0_at hus])
    have HS : Hid (teS ws s = { s with pos := s.pos + 1, hid := put s.hid u[0] }) := hide (by unfold teS; rw [← unhide HU, hlow, if_pos rfl, hd0_at hus])
    have hlt : s.pos < ws.length := (pk_lt (by rw [← unhide HU]; omega)).2
    have hple := plc_le s.hid u[0]
    obtain ⟨j, hj⟩ : ∃ j, j = plc s.hid u[0] := ⟨_, rfl⟩
    have HJ := hide hj
    rw [← hj] at hple
    clear hj
    obtain ⟨ao, cap, rfl, hm, _⟩ := bytes_of_own hpv.2.2.2.2.1
    obtain ⟨c1, c2, c3, c4, c5, fz⟩ := hpv.readsV
    have f1 := fz 1
    have HPV := hide hpv
    clear fz c2 c3 c4 c5 hpv
    go_enter Try.func51, Try.ntmps51
    go_wp2_with (first | (rw [← unhide HW0]; go_at_call 53; refine (unhide HK).mono ?_; rintro e w' ⟨rfl, n, rfl⟩) | (go_at_call 61; refine (isHidden_any u _).mono ?_; rintro e w' ⟨rfl, rfl⟩))
    have hpv1 := ((unhide HPV).drewN n).setPos (s.pos + 1)
    have hst1 : Stp F w0 F ((w0.drewN n).setCell ⟨P, 1, none⟩ (.int .i64 ((s.pos : Int) + 1))) := ((Stp.refl F w0).drewN n).setCell (Or.inl (unhide HQ).m.memP) _
    rw [show (((s.pos + 1 : Nat)) : Int) = (s.pos : Int) + 1 by omega] at hpv1
    generalize (w0.drewN n).setCell ⟨P, 1, none⟩ (.int .i64 ((s.pos : Int) + 1)) = w1 at hpv1 hst1 ⊢
    clear c1 f1
    obtain ⟨hb1, hn1, hl1⟩ := loc_keep (unhide HB0) (unhide HN0) hst1
    have HB1 := hide hb1
    clear hb1
    obtain ⟨_, _, _, c4, _, fz⟩ := hpv1.readsV
    have f4 := fz 4
    have hrow := hpv1.2.2.2.2.1
    have HR := hide hrow
    have HV1 := hide hpv1
    have HST := hide hst1
    clear fz hpv1 hst1 hrow
    have hPl : P < w1.heap.size := ((unhide HV1).is.mem P (unhide HV1).is.memP).2
    have hBs : B ≤ w1.heap.size := by have := ((unhide HV1).is.mem P (unhide HV1).is.memP).1; omega
    have HNP : Hid ((Value.slice ao s.hid.length cap).ownBlock ≠ some P) := hide (fun e => (unhide HV1).apart.1 P (by simp [e]) rfl)
    by_cases hjl : j = s.hid.length
    · have hjt : ((j : Int) == (s.hid.length : Int)) = true := by simp [hjl]
      have HJL := hide hjl
      clear hjl
      have c4a : ∀ (k : Nat) (o : Obj), ((w1.drewN k).alloc o).cell? ⟨P, 4, none⟩ = some (.slice ao s.hid.length cap) := fun k o => (World.cell?_of_block (a := ⟨P, 4, none⟩) (Below.heap_alloc (w1.drewN k) o P hPl)).trans c4
      go_quiet ((go_at_call 62; exact place_quiet (unhide HJ) (unhide HR) (by omega)))
      go_wp2_with fail
      go_region_law (refine step_app1 _ rfl (.tmp 34) (.tmp 37) 50 rfl B 5 i0 (.int .u8 0) 1 1 Try.underlying50 hi hz0 hz1 hz2 rfl (by decide) (.slice ao s.hid.length cap) s.hid.length (bc s.hid) (by simp [Act.eval]) (own_da (unhide HR) _ _) ⟨w1.heap.size, 0, none⟩ 1 [.int .u8 (u[0].toNat : Int)] (by simp [Act.eval]) rfl (one_da _ _ _ _) (oneCell_u8 _) (by omega) (by omega) (le_da hBs _ _) ?_; intro g2 cap2 w2 hown2 hgrow2 hblk2; have c4' := grown_cell hgrow2 hPl (unhide HNP) 4 c4; have f4' := grown_frozen hgrow2 hPl (unhide HNP) 4 f4; obtain ⟨F', hI', hS'⟩ := IsPv.pushHid u[0] ((unhide HV1).drewN _) hgrow2 hown2 hblk2; have HI' := hide hI'; have HS' := hide hS'; clear hown2 hgrow2 hblk2 hI' hS')
      all_goals
        obtain ⟨hb3, hn3, hl3⟩ := loc_keep (w0 := w1.drewN _) (unhide HB1) hn1 (unhide HS')
        generalize hw3 : World.setCell _ (⟨P, 4, none⟩ : Addr) _ = w3 at HI' HS' hb3 hl3 ⊢
        obtain ⟨⟨d0, d1⟩, e0, e1⟩ := cells2 hb3
        clear hb3 hw3
        go_wp2_with fail
        refine bodyPost_ret (v := .agg #[.int .i64 2, .int .i64 j]) (by simp [results, Try.results51, go_sem, d0, d1]) rfl ⟨by rw [unhide HIK, unhide HI, ← unhide HJ]; rfl, F', ⟨?_, ?_⟩, ?_⟩
        · rw [unhide HS]; unfold put; rw [if_pos (by rw [← unhide HJ]; exact unhide HJL)]; exact ((unhide HI').setOther hn3 _).setOther hn3 _
        · rw [unhide HS]; exact (unhide HQ).f.te hlt _
        · exact ((((unhide HS00).trans ((unhide HST).drewN _)).trans (unhide HS')).setCell (Or.inr (Nat.le_refl _)) _).setCell (Or.inr (Nat.le_refl _)) _
    · have hjt : ((j : Int) == (s.hid.length : Int)) = false := by simp; omega
      have HJL := hide hjl
      clear hjl
      obtain ⟨⟨d0, d1⟩, e0, e1⟩ := cells2 (unhide HB1)
      go_quiet ((go_at_call 62; exact place_quiet (unhide HJ) (unhide HR) (by omega)))
      go_wp2_with fail
      refine bodyPost_ret (v := .agg #[.int .i64 2, .int .i64 j]) (by simp [results, Try.results51, go_sem, d0, d1]) rfl ⟨by rw [unhide HIK, unhide HI, ← unhide HJ]; rfl, F, ⟨?_, ?_⟩, ?_⟩
      · rw [unhide HS]; unfold put; rw [if_neg (by rw [← unhide HJ]; exact unhide HJL)]; exact (((unhide HV1).is.drewN _).setOther hn1 _).setOther hn1 _
      · rw [unhide HS]; exact (unhide HQ).f.te hlt _
      · exact ((((unhide HS00).trans (unhide HST)).drewN _).setCell (Or.inr (Nat.le_refl _)) _).setCell (Or.inr (Nat.le_refl _)) _
end
end Go.Proofs.Ytciihepbeacppaa
