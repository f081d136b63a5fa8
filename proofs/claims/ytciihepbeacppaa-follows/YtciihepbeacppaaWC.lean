import Derived.Test.YtciihepbeacppaaWB
namespace Go.Proofs.Ytciihepbeacppaa
open Go.RowKit

/-- the words of a text; none: something in it belongs to no word -/
def splitF : Nat → List UInt8 → Option (List (List UInt8))
  | _, [] => some []
  | 0, _ :: _ => none
  | f + 1, c :: r => if c = 32 ∨ c = 10 then splitF f r else if wordLen (c :: r) = 0 then none else (splitF f ((c :: r).drop (wordLen (c :: r)))).map ((c :: r).take (wordLen (c :: r)) :: ·)
def spl (l : List UInt8) : Option (List (List UInt8)) := splitF l.length l

theorem splitF_fuel (f g : Nat) (l : List UInt8) (hf : l.length ≤ f) (hg : l.length ≤ g) : splitF f l = splitF g l := by
  induction f generalizing g l with
  | zero =>
    match l, hf with
    | [], _ => simp [splitF]
  | succ f ih =>
    match l, g, hf, hg with
    | [], _, _, _ => simp [splitF]
    | c :: r, g + 1, hf, hg =>
      simp only [splitF]
      simp only [List.length_cons] at hf hg
      split
      · exact ih g r (by omega) (by omega)
      · split
        · rfl
        · rw [ih g _ (by simp; omega) (by simp; omega)]
theorem spl_nil : spl [] = some [] := rfl
theorem spl_blank (c : UInt8) (r : List UInt8) (h : c = 32 ∨ c = 10) : spl (c :: r) = spl r := by
  simp only [spl, List.length_cons, splitF, if_pos h]
theorem spl_none (c : UInt8) (r : List UInt8) (h : ¬ (c = 32 ∨ c = 10)) (h0 : wordLen (c :: r) = 0) : spl (c :: r) = none := by
  simp only [spl, List.length_cons, splitF, if_neg h, if_pos h0]
theorem spl_word (c : UInt8) (r : List UInt8) (h : ¬ (c = 32 ∨ c = 10)) (h0 : wordLen (c :: r) ≠ 0) :
    spl (c :: r) = (spl ((c :: r).drop (wordLen (c :: r)))).map ((c :: r).take (wordLen (c :: r)) :: ·) := by
  simp only [spl, List.length_cons, splitF, if_neg h, if_neg h0]
  rw [splitF_fuel _ _ _ (by simp; omega) (Nat.le_refl _)]

theorem wordLen_le (l : List UInt8) : wordLen l ≤ l.length := by
  rw [wordLen.eq_def]
  have := lettersN_le l
  split
  · exact this
  · split
    · rename_i h
      have hl := List.length_take_le' 2 l
      rcases h with e | e <;> rw [e] at hl <;> simpa using hl
    · split
      · split <;> simp
      · simp

/-- what has been gathered, and what is left -/
def Got (l : List UInt8) (k : Nat) (ws : List ByteArray) : Prop := spl l = (spl (l.drop k)).map (ws.map (·.data.toList) ++ ·)
theorem Got.start (l : List UInt8) : Got l 0 [] := by simp [Got]
theorem Got.blank {l : List UInt8} {k : Nat} {ws : List ByteArray} (h : Got l k ws) (hk : k < l.length) (hb : l[k] = 32 ∨ l[k] = 10) : Got l (k + 1) ws := by
  unfold Got at *
  rw [h, List.drop_eq_getElem_cons hk, spl_blank _ _ hb]
theorem Got.none {l : List UInt8} {k : Nat} {ws : List ByteArray} (h : Got l k ws) (hk : k < l.length) (hb : ¬ (l[k] = 32 ∨ l[k] = 10)) (h0 : wordLen (l.drop k) = 0) : spl l = .none := by
  unfold Got at *
  rw [List.drop_eq_getElem_cons hk] at h0 h
  rw [h, spl_none _ _ hb h0]; rfl
theorem Got.word {l : List UInt8} {k n : Nat} {ws : List ByteArray} {u : ByteArray} (h : Got l k ws) (hk : k < l.length) (hb : ¬ (l[k] = 32 ∨ l[k] = 10)) (hn : wordLen (l.drop k) = n) (h0 : n ≠ 0)
    (hu : u.data.toList = (l.drop k).take n) : Got l (k + n) (ws ++ [u]) := by
  subst hn
  unfold Got at *
  rw [← List.drop_drop]
  rw [List.drop_eq_getElem_cons hk] at h h0 hu ⊢
  rw [h, spl_word _ _ hb h0, Option.map_map]
  congr 1
  funext x
  simp only [Function.comp, List.map_append, List.map_cons, List.map_nil, hu, List.append_assoc, List.singleton_append]
theorem Got.stop {l : List UInt8} {k : Nat} {ws : List ByteArray} (h : Got l k ws) (hk : l.length ≤ k) : spl l = some (ws.map (·.data.toList)) := by
  unfold Got at *
  rw [h, List.drop_eq_nil_of_le hk, spl_nil]; simp

theorem Try.infoStr : (Try.prog.info? 9).map (fun i => (i.zero, i.size, i.bytes)) = some (some (.string ⟨#[]⟩), 1, 16) := by kernel_rfl

theorem byte_at (s : ByteArray) (k : Nat) (h : k < s.size) : s.data.toList[k]'(by rw [← Lib.size_eq]; exact h) = s[k] := rfl
theorem u8_eq (c : UInt8) (n : Nat) (hn : n < 256) : (((c.toNat : Int) == (n : Int)) = true) ↔ c = UInt8.ofNat n := by
  rw [beq_iff_eq]
  constructor
  · intro h
    have : c.toNat = n := by omega
    rw [← this]; simp
  · rintro rfl
    simp; omega

/-- the one element that an append first lays in a block of its own -/
theorem one_new (w : World) (x : Value) (T : TypeId) : ∀ (j : Nat) (u : Value), [x][j]? = some u → (w.alloc (.cells #[x] T)).cell? ((⟨w.heap.size, 0, none⟩ : Addr).add j) = some u := by
  intro j u hj
  match j, hj with
  | 0, hj => simp at hj; subst hj; simp [Addr.add]
theorem app_one {W w' w1 : World} {e : TypeId} {v v' x : Value} {n : Nat} {xs : List Value} {o : Obj} (hown : w'.ownsRow W.heap.size e 1 v n xs) (hbl : Below W.heap.size W w')
    (hown' : w1.ownsRow W.heap.size e 1 v' (n + 1) (xs ++ [x])) (hg : (w'.alloc o).grownBy w1 v.ownBlock) : w1.ownsRow W.heap.size e 1 v' (n + 1) (xs ++ [x]) ∧ Below W.heap.size W w1 :=
  ⟨hown', (hbl.alloc hbl.size o).grown hg (by have := hbl.size; simp; omega) (fun k hk => (hown.lt k hk).1)⟩

set_option maxRecDepth 100000 in
set_option maxHeartbeats 1000000 in
theorem wsplit_any (s : ByteArray) (w : World) (hs : s.size ≤ 20000) :
    Calls Try.prog 40 #[.string s] w fun e w' => Below w.heap.size w w' ∧
      ((spl s.data.toList = none ∧ e = .returned (.tuple #[.slice none 0 0, .bool false])) ∨
       ∃ (ws : List ByteArray) (v : Value), spl s.data.toList = some (ws.map (·.data.toList)) ∧ w'.ownsRow w.heap.size 9 1 v ws.length (ws.map Value.string) ∧ e = .returned (.tuple #[v, .bool true])) := by
  obtain ⟨i0, hi, hz0, hz1, hz2⟩ := info_parts Try.infoStr
  go_enter Try.func40, Try.ntmps40
  go_wp2_with fail
  go_loopw [4, 5] (fun v i wr => ∃ (k : Nat) (ws : List ByteArray), k ≤ s.size ∧ ws.length ≤ k ∧ i = .int .i64 k ∧ wr.ownsRow w.heap.size 9 1 v ws.length (ws.map Value.string) ∧ Below w.heap.size w wr ∧ Hid (Got s.data.toList k ws)) (fun _ i _ => s.size - (intOf i).toNat)
  case atStart => exact ⟨0, [], Nat.zero_le _, Nat.le_refl _, rfl, World.ownsRow_nil _ _ _ _, Below.refl _ _, Got.start _⟩
  case round =>
    obtain ⟨k, ws, hk, hwk, rfl, hown, hbl, hgot⟩ := hrel
    have hsz := hbl.size
    by_cases hlt : k < s.size
    · by_cases h1 : ((s[k].toNat : Int) == 32) = true
      · go_wp2_with fail
        go_roundw
        case rel => exact ⟨k + 1, ws, by omega, by omega, by go_num, hown, hbl, hgot.out.blank (by rw [← Lib.size_eq]; exact hlt) (Or.inl ((u8_eq _ 32 (by omega)).1 h1))⟩
        case measure => simp [intOf]; omega
      · have h1f : ((s[k].toNat : Int) == 32) = false := by simpa using h1
        by_cases h2 : ((s[k].toNat : Int) == 10) = true
        · clear h1
          go_wp2_with fail
          go_roundw
          case rel => exact ⟨k + 1, ws, by omega, by omega, by go_num, hown, hbl, hgot.out.blank (by rw [← Lib.size_eq]; exact hlt) (Or.inr ((u8_eq _ 10 (by omega)).1 h2))⟩
          case measure => simp [intOf]; omega
        · have h2f : ((s[k].toNat : Int) == 10) = false := by simpa using h2
          have HB : Hid (¬ (s.data.toList[k]'(by rw [← Lib.size_eq]; exact hlt) = 32 ∨ s.data.toList[k]'(by rw [← Lib.size_eq]; exact hlt) = 10)) := by
            rintro (e | e)
            · exact h1 ((u8_eq _ 32 (by omega)).2 e)
            · exact h2 ((u8_eq _ 10 (by omega)).2 e)
          clear h1 h2
          have hex : (s.extract k s.size).data.toList = s.data.toList.drop k := by
            rw [Lib.extract_data]; exact List.take_of_length_le (by rw [List.length_drop, ← Lib.size_eq]; omega)
          have HEX := hide hex
          clear hex
          have hle := wordLen_le (s.extract k s.size).data.toList
          rw [unhide HEX, List.length_drop, ← Lib.size_eq] at hle
          obtain ⟨n, hn⟩ : ∃ n, n = wordLen (s.extract k s.size).data.toList := ⟨_, rfl⟩
          have HN : Hid (wordLen (s.data.toList.drop k) = n) := by rw [← unhide HEX]; exact hn.symm
          rw [unhide HN] at hle
          have hc := fun (wx : World) => (length_any (s.extract k s.size) wx (by simp; omega))
          rw [← hn] at hc
          clear hn
          have HC := hide hc
          clear hc
          by_cases hz : n = 0
          · subst hz
            go_wp2_with (go_at_call 49; refine (unhide HC _).mono ?_; rintro e w' ⟨rfl, rfl⟩)
            go_ret2
            exact ⟨hbl, Or.inl ⟨hgot.out.none (by rw [← Lib.size_eq]; exact hlt) HB.out HN.out, rfl⟩⟩
          · have hzf : ((n : Int) == 0) = false := by simpa using hz
            have hkn : k + n ≤ s.size := by omega
            have hnp : 0 < n := by omega
            clear hz hle
            go_wp2_with (first | (go_at_call 49; refine (unhide HC _).mono ?_; rintro e w' ⟨rfl, rfl⟩) | (at_builtin; refine wpList_append_own _ rfl _ _ 28 rfl w.heap.size 9 i0 (.string ⟨#[]⟩) 1 16 Try.underlying28 hi hz0 hz1 hz2 rfl (by decide) _ _ _ rfl (hown.alloc _) ⟨_, 0, none⟩ 1 1 [.string (s.extract k (k + n))] rfl rfl ?c1 ?c2 ?c3 ?c4 ?c5 ?_))
            case c1 => exact one_new _ _ _
            case c2 => intro u hu; simp at hu; subst hu; rfl
            case c3 => unfold maxLen; omega
            case c4 => omega
            case c5 => simp; omega
            intro v' w1 hown' hgrow _
            have R := app_one hown hbl hown' hgrow
            clear hown' hgrow hown hbl
            go_wp2_with fail
            go_roundw
            case rel => exact ⟨k + n, ws ++ [s.extract k (k + n)], by omega, by simp; omega, by go_num, by simpa using R.1, R.2, hgot.out.word (by rw [← Lib.size_eq]; exact hlt) HB.out HN.out (by simpa using hzf) (by rw [Lib.extract_data]; congr 1; omega)⟩
            case measure => simp [intOf]; omega
    · have hd : decide ((k : Int) < (s.size : Int)) = false := by simp; omega
      go_wp2_with fail
      go_ret2
      exact ⟨hbl, Or.inr ⟨ws, _, hgot.out.stop (by rw [← Lib.size_eq]; omega), hown, rfl⟩⟩

end Go.Proofs.Ytciihepbeacppaa
