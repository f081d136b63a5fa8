import Derived.Test.YtciihepbeacppaaGreatM02
import Derived.Test.YtciihepbeacppaaGreatRG
import Derived.Test.YtciihepbeacppaaGreatM07
import Derived.Test.YtciihepbeacppaaGreatM03
import Derived.Laws.AppendOwnNone
import Derived.Laws.CopyOwn
namespace Go.Proofs.YtciihepbeacppaaGreat
open Go.RowKit
def dotB (l : List ByteArray) : Nat → Bool
 | 0=>false
 | k + 1=>eqW (l[k]?.getD em) dotW
def addIf (c : Bool) (v : List ByteArray) (x : ByteArray) : List ByteArray:=if c && decide (amI v x < 0) then v ++ [x] else v
def nmV (l : List ByteArray) : Nat → List ByteArray
 | 0=>[]
 | k + 1=>addIf (lowB (l[k]?.getD em) && !dotB l k) (nmV l k) (l[k]?.getD em)
def nmH (l : List ByteArray) : Nat → List ByteArray
 | 0=>[]
 | k + 1=>addIf (upB (l[k]?.getD em)) (nmH l k) (l[k]?.getD em)
theorem addIf_yes {c : Bool} {v : List ByteArray} {x : ByteArray} (h : c = true) (h2 : amI v x < 0) : addIf c v x = v ++ [x]:=by unfold addIf; rw [if_pos (by simp [h,h2])]
theorem addIf_no1 {c : Bool} {v : List ByteArray} {x : ByteArray} (h : c = false) : addIf c v x = v:=by unfold addIf; rw [if_neg (by simp [h])]
theorem addIf_no2 {c : Bool} {v : List ByteArray} {x : ByteArray} (h2 : ¬ amI v x < 0) : addIf c v x = v:=by unfold addIf; rw [if_neg (by simp; omega)]
theorem addIf_len (c : Bool) (v : List ByteArray) (x : ByteArray) : (addIf c v x).length ≤ v.length + 1:=by unfold addIf; split <;> simp
theorem nmV_len (l : List ByteArray) (k : Nat) : (nmV l k).length ≤ k:=by
 induction k with
 | zero=>simp [nmV]
 | succ k ih=>have:=addIf_len (lowB (l[k]?.getD em) && !dotB l k) (nmV l k) (l[k]?.getD em); simp only [nmV]; omega
theorem nmH_len (l : List ByteArray) (k : Nat) : (nmH l k).length ≤ k:=by
 induction k with
 | zero=>simp [nmH]
 | succ k ih=>have:=addIf_len (upB (l[k]?.getD em)) (nmH l k) (l[k]?.getD em); simp only [nmH]; omega
theorem low_up (x : ByteArray) (h : lowB x = true) : upB x = false:=by
 obtain ⟨c,rfl⟩:=one_of_size x (by
  by_cases hs : x.size = 1
  ·exact hs
  ·rw [lowB_not x hs] at h; cases h)
 rw [lowB_one] at h
 rw [upB_one]
 simp only [smallB,greatB] at *
 simp at h ⊢
 omega
theorem oneCell_strJ (x : ByteArray) : ∀ u ∈ [Value.string x],u.oneCell' = true:=by intro u hu; simp at hu; subst hu; rfl
structure Nm (w wr : World) (l : List ByteArray) (k : Nat) (v h : Value) : Prop where
 rv : wr.ownsRow w.heap.size 9 1 v (nmV l k).length ((nmV l k).map Value.string)
 rh : wr.ownsRow w.heap.size 9 1 h (nmH l k).length ((nmH l k).map Value.string)
 ap : ∀ b,v.ownBlock = some b → h.ownBlock ≠ some b
 bl : Below w.heap.size w wr
theorem Nm.same {w wr : World} {l : List ByteArray} {k : Nat} {v h : Value} (n : Nm w wr l k v h) (h1 : nmV l (k + 1) = nmV l k) (h2 : nmH l (k + 1) = nmH l k) : Nm w wr l (k + 1) v h:=⟨by rw [h1]; exact n.rv,by rw [h2]; exact n.rh,n.ap,n.bl⟩
theorem Nm.addV {w wr w1 : World} {l : List ByteArray} {k : Nat} {v h : Value} {x : ByteArray} {o : Obj} {g cap : Nat} (n : Nm w wr l k v h) (h1 : nmV l (k + 1) = nmV l k ++ [x]) (h2 : nmH l (k + 1) = nmH l k)
  (hown : w1.ownsRow w.heap.size 9 1 (.slice (some ⟨g,0,none⟩) ((nmV l k).length + 1) cap) ((nmV l k).length + 1) ((nmV l k).map Value.string ++ [.string x])) (hg : (wr.alloc o).grownBy w1 v.ownBlock) (hb : some g = v.ownBlock ∨ g = wr.heap.size + 1) :
  Nm w w1 l (k + 1) (.slice (some ⟨g,0,none⟩) ((nmV l k).length + 1) cap) h:=by
 have hsz:=n.bl.size
 refine ⟨own_cast hown (by rw [h1]; simp) (by rw [h1]; simp),?_,?_,?_⟩
 ·rw [h2]
  exact (n.rh.alloc o).kept hg (by
   cases hh : h.ownBlock with
   | none=>exact Or.inl rfl
   | some b=>exact Or.inr (fun e=>n.ap b e.symm hh))
 ·intro b hb' hh
  simp [Value.ownBlock] at hb'
  subst hb'
  rcases hb with e | e
  ·exact n.ap g e.symm hh
  ·have:=(n.rh.lt g hh).2; omega
 ·exact (n.bl.alloc hsz o).grown hg (by simp; omega) (fun k hk=>(n.rv.lt k hk).1)
theorem Nm.addH {w wr w1 : World} {l : List ByteArray} {k : Nat} {v h : Value} {x : ByteArray} {o : Obj} {g cap : Nat} (n : Nm w wr l k v h) (h1 : nmV l (k + 1) = nmV l k) (h2 : nmH l (k + 1) = nmH l k ++ [x])
  (hown : w1.ownsRow w.heap.size 9 1 (.slice (some ⟨g,0,none⟩) ((nmH l k).length + 1) cap) ((nmH l k).length + 1) ((nmH l k).map Value.string ++ [.string x])) (hg : (wr.alloc o).grownBy w1 h.ownBlock) (hb : some g = h.ownBlock ∨ g = wr.heap.size + 1) :
  Nm w w1 l (k + 1) v (.slice (some ⟨g,0,none⟩) ((nmH l k).length + 1) cap):=by
 have hsz:=n.bl.size
 refine ⟨?_,own_cast hown (by rw [h2]; simp) (by rw [h2]; simp),?_,?_⟩
 ·rw [h1]
  exact (n.rv.alloc o).kept hg (by
   cases hh : v.ownBlock with
   | none=>exact Or.inl rfl
   | some b=>exact Or.inr (fun e=>n.ap b hh e.symm))
 ·intro b hv' hh
  simp [Value.ownBlock] at hh
  subst hh
  rcases hb with e | e
  ·exact n.ap g hv' e.symm
  ·have:=(n.rv.lt g hv').2; omega
 ·exact (n.bl.alloc hsz o).grown hg (by simp; omega) (fun k hk=>(n.rh.lt k hk).1)
set_option maxRecDepth 100000 in
set_option maxHeartbeats 4000000 in
theorem names_any {w : World} {v : Value} {l : List ByteArray} (h : Strs w v l) (hl : l.length ≤ 20000) :
  Calls Tryz.prog 52 #[v,.slice none 0 0,.slice none 0 0] w fun e w'=>∃ vv hv,e = .returned (.tuple #[vv,hv]) ∧ Nm w w' l l.length vv hv:=by
 obtain ⟨i0,hi,hz0,hz1,hz2⟩:=info_parts Tryz.infoStr
 obtain ⟨ao,cap,rfl,hn,hm,hc⟩:=h
 have HC:=hide hc
 clear hc
 unfold maxLen at hm
 go_enter Tryz.func52,Tryz.ntmps52
 go_wp2_with fail
 go_loopw [1,2,8] (fun vv hv i wr=>∃ k : Nat,k ≤ l.length ∧ i = .int .i64 k ∧ Hid (Nm w wr l k vv hv)) (fun _ _ i _=>l.length - (intOf i).toNat)
 case atStart=>exact ⟨0,Nat.zero_le _,rfl,⟨World.ownsRow_nil _ _ _ _,World.ownsRow_nil _ _ _ _,(fun b hb=>by simp [Value.ownBlock] at hb),Below.refl _ _⟩⟩
 case round =>
  obtain ⟨k,hk,rfl,hnm⟩:=hrel
  have hsz:=(uh hnm).bl.size
  by_cases hlt : k < l.length
  ·obtain ⟨g,off,hao,hcell⟩:=uh HC (by intro h; rw [h] at hlt; simp at hlt)
   have hvl:=nmV_len l k
   have hhl:=nmH_len l k
   have hcx : wr.cell? ⟨g,off + k,none⟩ = some (.string l[k]):=by
    rw [(uh hnm).bl.cell (World.block_lt_of_cell? w _ (hcell k hlt))]; exact hcell k hlt
   have hgx : l[k]?.getD em = l[k]:=by simp [hlt]
   rw [hao]
   cases k with
   | zero =>
    clear hcell
    rw [Nat.add_zero] at hcx
    cases hlo : lowB l[0] with
    | true =>
     have hup:=low_up l[0] hlo
     have hdt : dotB l 0 = false:=rfl
     by_cases hol : amI (nmV l (0)) l[0] < 0
     ·skip
      have HV1 : Hid (nmV l (0 + 1) = nmV l (0) ++ [l[0]]):=hide (by show addIf _ _ _ = _; rw [hgx]; exact addIf_yes (by simp [hlo,hdt]) hol)
      have HH1 : Hid (nmH l (0 + 1) = nmH l (0)):=hide (by show addIf _ _ _ = _; rw [hgx]; exact addIf_no1 hup)
      clear hgx
      go_wp2_with (first | (go_at_call 75; refine (lower_any _ _).mono ?_; rintro e w' ⟨rfl,rfl⟩) | (go_at_call 76; refine (upper_any _ _).mono ?_; rintro e w' ⟨rfl,rfl⟩))
      refine (among_any _ (Strs.of_own (uh hnm).rv) (by omega)).mono ?_
      rintro e w' ⟨rfl,rfl⟩
      go_wp2_with fail
      refine (among_any _ (Strs.of_own (uh hnm).rh) (by omega)).mono ?_
      rintro e w' ⟨rfl,rfl⟩
      go_wp2_with (at_builtin; refine wpList_app1 _ rfl (.tmp 61) (.tmp 66) 50 rfl w.heap.size 9 i0 (.string ⟨#[]⟩) 1 16 Tryz.underlying50 hi hz0 hz1 hz2 rfl (by decide) _ (nmV l (0)).length ((nmV l (0)).map Value.string) rfl ((uh hnm).rv.alloc _) ⟨_,0,none⟩ 1 [.string l[0]] rfl rfl (one_new _ _ _) (oneCell_strJ _) (by omega) (by omega) (by simp; omega) ?_)
      intro g2 cap2 w1 hown2 hgrow2 hblk2
      have HNM:=hide ((uh hnm).addV (uh HV1) (uh HH1) hown2 hgrow2 (by simpa using hblk2))
      clear hown2 hgrow2 hblk2
      go_wp2_with fail
      go_roundw
      case rel=>exact ⟨0 + 1,by omega,by go_num,HNM⟩
      case measure=>simp [intOf]; omega
     ·skip
      exact absurd (show amI [] l[0] < 0 by simp [amI]) hol
    | false =>
     cases hup : upB l[0] with
     | true =>
      by_cases hkn : amI (nmH l (0)) l[0] < 0
      ·skip
       have HV1 : Hid (nmV l (0 + 1) = nmV l (0)):=hide (by show addIf _ _ _ = _; rw [hgx]; exact addIf_no1 (by simp [hlo]))
       have HH1 : Hid (nmH l (0 + 1) = nmH l (0) ++ [l[0]]):=hide (by show addIf _ _ _ = _; rw [hgx]; exact addIf_yes hup hkn)
       clear hgx
       go_wp2_with (first | (go_at_call 75; refine (lower_any _ _).mono ?_; rintro e w' ⟨rfl,rfl⟩) | (go_at_call 76; refine (upper_any _ _).mono ?_; rintro e w' ⟨rfl,rfl⟩))
       refine (among_any _ (Strs.of_own (uh hnm).rv) (by omega)).mono ?_
       rintro e w' ⟨rfl,rfl⟩
       go_wp2_with fail
       refine (among_any _ (Strs.of_own (uh hnm).rh) (by omega)).mono ?_
       rintro e w' ⟨rfl,rfl⟩
       go_wp2_with (at_builtin; refine wpList_app1 _ rfl (.tmp 73) (.tmp 78) 50 rfl w.heap.size 9 i0 (.string ⟨#[]⟩) 1 16 Tryz.underlying50 hi hz0 hz1 hz2 rfl (by decide) _ (nmH l (0)).length ((nmH l (0)).map Value.string) rfl ((uh hnm).rh.alloc _) ⟨_,0,none⟩ 1 [.string l[0]] rfl rfl (one_new _ _ _) (oneCell_strJ _) (by omega) (by omega) (by simp; omega) ?_)
       intro g2 cap2 w1 hown2 hgrow2 hblk2
       have HNM:=hide ((uh hnm).addH (uh HV1) (uh HH1) hown2 hgrow2 (by simpa using hblk2))
       clear hown2 hgrow2 hblk2
       go_wp2_with fail
       go_roundw
       case rel=>exact ⟨0 + 1,by omega,by go_num,HNM⟩
       case measure=>simp [intOf]; omega
      ·skip
       exact absurd (show amI [] l[0] < 0 by simp [amI]) hkn
     | false =>
      have HV1 : Hid (nmV l (0 + 1) = nmV l (0)):=hide (by show addIf _ _ _ = _; rw [hgx]; exact addIf_no1 (by simp [hlo]))
      have HH1 : Hid (nmH l (0 + 1) = nmH l (0)):=hide (by show addIf _ _ _ = _; rw [hgx]; exact addIf_no1 hup)
      clear hgx
      go_wp2_with (first | (go_at_call 75; refine (lower_any _ _).mono ?_; rintro e w' ⟨rfl,rfl⟩) | (go_at_call 76; refine (upper_any _ _).mono ?_; rintro e w' ⟨rfl,rfl⟩))
      refine (among_any _ (Strs.of_own (uh hnm).rv) (by omega)).mono ?_
      rintro e w' ⟨rfl,rfl⟩
      go_wp2_with fail
      refine (among_any _ (Strs.of_own (uh hnm).rh) (by omega)).mono ?_
      rintro e w' ⟨rfl,rfl⟩
      go_wp2_with fail
      go_roundw
      case rel=>exact ⟨0 + 1,by omega,by go_num,hide ((uh hnm).same (uh HV1) (uh HH1))⟩
      case measure=>simp [intOf]; omega
   | succ k' =>
    have hlp : k' < l.length:=by omega
    have hcp : wr.cell? ⟨g,off + k',none⟩ = some (.string l[k']):=by
     rw [(uh hnm).bl.cell (World.block_lt_of_cell? w _ (hcell k' hlp))]; exact hcell k' hlp
    have hgp : l[k']?.getD em = l[k']:=by simp [hlp]
    clear hcell
    cases hlo : lowB l[k' + 1] with
    | true =>
     have hup:=low_up l[k' + 1] hlo
     cases hdo : (l[k'].toList == [46]) with
     | true =>
      have hdt : dotB l (k' + 1) = true:=by simp only [dotB,hgp,eqW,dotW_l,hdo]
      have HV1 : Hid (nmV l (k' + 1 + 1) = nmV l (k' + 1)):=hide (by show addIf _ _ _ = _; rw [hgx]; exact addIf_no1 (by simp [hdt]))
      have HH1 : Hid (nmH l (k' + 1 + 1) = nmH l (k' + 1)):=hide (by show addIf _ _ _ = _; rw [hgx]; exact addIf_no1 hup)
      clear hgx
      go_wp2_with (first | (go_at_call 75; refine (lower_any _ _).mono ?_; rintro e w' ⟨rfl,rfl⟩) | (go_at_call 76; refine (upper_any _ _).mono ?_; rintro e w' ⟨rfl,rfl⟩))
      refine (among_any _ (Strs.of_own (uh hnm).rv) (by omega)).mono ?_
      rintro e w' ⟨rfl,rfl⟩
      go_wp2_with fail
      refine (among_any _ (Strs.of_own (uh hnm).rh) (by omega)).mono ?_
      rintro e w' ⟨rfl,rfl⟩
      go_wp2_with fail
      go_roundw
      case rel=>exact ⟨k' + 1 + 1,by omega,by go_num,hide ((uh hnm).same (uh HV1) (uh HH1))⟩
      case measure=>simp [intOf]; omega
     | false =>
      have hdt : dotB l (k' + 1) = false:=by simp only [dotB,hgp,eqW,dotW_l,hdo]
      by_cases hol : amI (nmV l (k' + 1)) l[k' + 1] < 0
      ·skip
       have HV1 : Hid (nmV l (k' + 1 + 1) = nmV l (k' + 1) ++ [l[k' + 1]]):=hide (by show addIf _ _ _ = _; rw [hgx]; exact addIf_yes (by simp [hlo,hdt]) hol)
       have HH1 : Hid (nmH l (k' + 1 + 1) = nmH l (k' + 1)):=hide (by show addIf _ _ _ = _; rw [hgx]; exact addIf_no1 hup)
       clear hgx
       go_wp2_with (first | (go_at_call 75; refine (lower_any _ _).mono ?_; rintro e w' ⟨rfl,rfl⟩) | (go_at_call 76; refine (upper_any _ _).mono ?_; rintro e w' ⟨rfl,rfl⟩))
       refine (among_any _ (Strs.of_own (uh hnm).rv) (by omega)).mono ?_
       rintro e w' ⟨rfl,rfl⟩
       go_wp2_with fail
       refine (among_any _ (Strs.of_own (uh hnm).rh) (by omega)).mono ?_
       rintro e w' ⟨rfl,rfl⟩
       go_wp2_with (at_builtin; refine wpList_app1 _ rfl (.tmp 61) (.tmp 66) 50 rfl w.heap.size 9 i0 (.string ⟨#[]⟩) 1 16 Tryz.underlying50 hi hz0 hz1 hz2 rfl (by decide) _ (nmV l (k' + 1)).length ((nmV l (k' + 1)).map Value.string) rfl ((uh hnm).rv.alloc _) ⟨_,0,none⟩ 1 [.string l[k' + 1]] rfl rfl (one_new _ _ _) (oneCell_strJ _) (by omega) (by omega) (by simp; omega) ?_)
       intro g2 cap2 w1 hown2 hgrow2 hblk2
       have HNM:=hide ((uh hnm).addV (uh HV1) (uh HH1) hown2 hgrow2 (by simpa using hblk2))
       clear hown2 hgrow2 hblk2
       go_wp2_with fail
       go_roundw
       case rel=>exact ⟨k' + 1 + 1,by omega,by go_num,HNM⟩
       case measure=>simp [intOf]; omega
      ·skip
       have HV1 : Hid (nmV l (k' + 1 + 1) = nmV l (k' + 1)):=hide (by show addIf _ _ _ = _; rw [hgx]; exact addIf_no2 hol)
       have HH1 : Hid (nmH l (k' + 1 + 1) = nmH l (k' + 1)):=hide (by show addIf _ _ _ = _; rw [hgx]; exact addIf_no1 hup)
       clear hgx
       go_wp2_with (first | (go_at_call 75; refine (lower_any _ _).mono ?_; rintro e w' ⟨rfl,rfl⟩) | (go_at_call 76; refine (upper_any _ _).mono ?_; rintro e w' ⟨rfl,rfl⟩))
       refine (among_any _ (Strs.of_own (uh hnm).rv) (by omega)).mono ?_
       rintro e w' ⟨rfl,rfl⟩
       go_wp2_with fail
       refine (among_any _ (Strs.of_own (uh hnm).rh) (by omega)).mono ?_
       rintro e w' ⟨rfl,rfl⟩
       go_wp2_with fail
       go_roundw
       case rel=>exact ⟨k' + 1 + 1,by omega,by go_num,hide ((uh hnm).same (uh HV1) (uh HH1))⟩
       case measure=>simp [intOf]; omega
    | false =>
     cases hup : upB l[k' + 1] with
     | true =>
      by_cases hkn : amI (nmH l (k' + 1)) l[k' + 1] < 0
      ·skip
       have HV1 : Hid (nmV l (k' + 1 + 1) = nmV l (k' + 1)):=hide (by show addIf _ _ _ = _; rw [hgx]; exact addIf_no1 (by simp [hlo]))
       have HH1 : Hid (nmH l (k' + 1 + 1) = nmH l (k' + 1) ++ [l[k' + 1]]):=hide (by show addIf _ _ _ = _; rw [hgx]; exact addIf_yes hup hkn)
       clear hgx
       go_wp2_with (first | (go_at_call 75; refine (lower_any _ _).mono ?_; rintro e w' ⟨rfl,rfl⟩) | (go_at_call 76; refine (upper_any _ _).mono ?_; rintro e w' ⟨rfl,rfl⟩))
       refine (among_any _ (Strs.of_own (uh hnm).rv) (by omega)).mono ?_
       rintro e w' ⟨rfl,rfl⟩
       go_wp2_with fail
       refine (among_any _ (Strs.of_own (uh hnm).rh) (by omega)).mono ?_
       rintro e w' ⟨rfl,rfl⟩
       go_wp2_with (at_builtin; refine wpList_app1 _ rfl (.tmp 73) (.tmp 78) 50 rfl w.heap.size 9 i0 (.string ⟨#[]⟩) 1 16 Tryz.underlying50 hi hz0 hz1 hz2 rfl (by decide) _ (nmH l (k' + 1)).length ((nmH l (k' + 1)).map Value.string) rfl ((uh hnm).rh.alloc _) ⟨_,0,none⟩ 1 [.string l[k' + 1]] rfl rfl (one_new _ _ _) (oneCell_strJ _) (by omega) (by omega) (by simp; omega) ?_)
       intro g2 cap2 w1 hown2 hgrow2 hblk2
       have HNM:=hide ((uh hnm).addH (uh HV1) (uh HH1) hown2 hgrow2 (by simpa using hblk2))
       clear hown2 hgrow2 hblk2
       go_wp2_with fail
       go_roundw
       case rel=>exact ⟨k' + 1 + 1,by omega,by go_num,HNM⟩
       case measure=>simp [intOf]; omega
      ·skip
       have HV1 : Hid (nmV l (k' + 1 + 1) = nmV l (k' + 1)):=hide (by show addIf _ _ _ = _; rw [hgx]; exact addIf_no1 (by simp [hlo]))
       have HH1 : Hid (nmH l (k' + 1 + 1) = nmH l (k' + 1)):=hide (by show addIf _ _ _ = _; rw [hgx]; exact addIf_no2 hkn)
       clear hgx
       go_wp2_with (first | (go_at_call 75; refine (lower_any _ _).mono ?_; rintro e w' ⟨rfl,rfl⟩) | (go_at_call 76; refine (upper_any _ _).mono ?_; rintro e w' ⟨rfl,rfl⟩))
       refine (among_any _ (Strs.of_own (uh hnm).rv) (by omega)).mono ?_
       rintro e w' ⟨rfl,rfl⟩
       go_wp2_with fail
       refine (among_any _ (Strs.of_own (uh hnm).rh) (by omega)).mono ?_
       rintro e w' ⟨rfl,rfl⟩
       go_wp2_with fail
       go_roundw
       case rel=>exact ⟨k' + 1 + 1,by omega,by go_num,hide ((uh hnm).same (uh HV1) (uh HH1))⟩
       case measure=>simp [intOf]; omega
     | false =>
      have HV1 : Hid (nmV l (k' + 1 + 1) = nmV l (k' + 1)):=hide (by show addIf _ _ _ = _; rw [hgx]; exact addIf_no1 (by simp [hlo]))
      have HH1 : Hid (nmH l (k' + 1 + 1) = nmH l (k' + 1)):=hide (by show addIf _ _ _ = _; rw [hgx]; exact addIf_no1 hup)
      clear hgx
      go_wp2_with (first | (go_at_call 75; refine (lower_any _ _).mono ?_; rintro e w' ⟨rfl,rfl⟩) | (go_at_call 76; refine (upper_any _ _).mono ?_; rintro e w' ⟨rfl,rfl⟩))
      refine (among_any _ (Strs.of_own (uh hnm).rv) (by omega)).mono ?_
      rintro e w' ⟨rfl,rfl⟩
      go_wp2_with fail
      refine (among_any _ (Strs.of_own (uh hnm).rh) (by omega)).mono ?_
      rintro e w' ⟨rfl,rfl⟩
      go_wp2_with fail
      go_roundw
      case rel=>exact ⟨k' + 1 + 1,by omega,by go_num,hide ((uh hnm).same (uh HV1) (uh HH1))⟩
      case measure=>simp [intOf]; omega
  ·have hd : decide ((k : Int) < (l.length : Int)) = false:=by simp; omega
   obtain rfl : k = l.length:=by omega
   go_wp2_with fail
   go_ret2
   exact ⟨_,_,rfl,uh hnm⟩
def ifW : ByteArray:=⟨#[105,102]⟩
def whW : ByteArray:=⟨#[119,104,105,108,101]⟩
def seW : ByteArray:=⟨#[59]⟩
theorem ifW_l : ifW.toList = [105,102]:=ByteArray.toList_eq _
theorem whW_l : whW.toList = [119,104,105,108,101]:=ByteArray.toList_eq _
theorem seW_l : seW.toList = [59]:=ByteArray.toList_eq _
def insCells (l : List Ins) : List Value:=l.flatMap Ins.cells
theorem insCells_snoc (l : List Ins) (a : Ins) : insCells (l ++ [a]) = insCells l ++ a.cells:=by simp [insCells]
theorem Ins.one (a : Ins) : ∀ u ∈ a.cells,u.oneCell' = true:=by
 intro u hu; simp [Ins.cells] at hu; rcases hu with rfl | rfl | rfl | rfl | rfl | rfl <;> rfl
theorem Tryz.infoIns : (Tryz.prog.info? 100).map (fun i=>(i.zero,i.size,i.bytes)) = some (some (.agg #[.string ⟨#[]⟩,.string ⟨#[]⟩,.string ⟨#[]⟩,.string ⟨#[]⟩,.int .i64 0,.bool false]),6,80):=by kernel_rfl
def StrB (B : Nat) (w : World) (v : Value) (l : List ByteArray) : Prop :=
 ∃ ao cap,v = .slice ao l.length cap ∧ l.length ≤ cap ∧ cap ≤ maxLen ∧ (l ≠ [] → ∃ g off,g < B ∧ ao = some ⟨g,off,none⟩ ∧ ∀ j,(h : j < l.length) → w.cell? ⟨g,off + j,none⟩ = some (.string l[j]))
theorem StrB.str {B : Nat} {w : World} {v : Value} {l : List ByteArray} (h : StrB B w v l) : Strs w v l:=by
 obtain ⟨ao,cap,hv,hn,hm,hc⟩:=h
 exact ⟨ao,cap,hv,hn,hm,fun hne=>by obtain ⟨g,off,_,h1,h2⟩:=hc hne; exact ⟨g,off,h1,h2⟩⟩
theorem StrB.of {w : World} {v : Value} {l : List ByteArray} (h : Strs w v l) : StrB w.heap.size w v l:=by
 obtain ⟨ao,cap,hv,hn,hm,hc⟩:=h
 refine ⟨ao,cap,hv,hn,hm,fun hne=>?_⟩
 obtain ⟨g,off,h1,h2⟩:=hc hne
 have h0 : 0 < l.length:=by cases l with | nil=>exact absurd rfl hne | cons _ _=>simp
 exact ⟨g,off,World.block_lt_of_cell? w _ (h2 0 h0),h1,h2⟩
theorem StrB.below {B : Nat} {w w' : World} {v : Value} {l : List ByteArray} (h : StrB B w v l) (hb : Below B w w') : StrB B w' v l:=by
 obtain ⟨ao,cap,hv,hn,hm,hc⟩:=h
 refine ⟨ao,cap,hv,hn,hm,fun hne=>?_⟩
 obtain ⟨g,off,hg,h1,h2⟩:=hc hne
 exact ⟨g,off,hg,h1,fun j hj=>by rw [hb.cell (p:=⟨g,off + j,none⟩) hg]; exact h2 j hj⟩
theorem StrB.part {B : Nat} {w : World} {v : Value} {l : List ByteArray} (h : StrB B w v l) {ao : Option Addr} {n cap : Nat} (hv : v = .slice ao n cap) (i j : Nat) (hij : i ≤ j) (hj : j ≤ l.length) (a : Option Addr)
  (ha : ∀ g off,ao = some ⟨g,off,none⟩ → i < cap → a = some ⟨g,off + i,none⟩) : StrB B w (.slice a (j - i) (cap - i)) ((l.drop i).take (j - i)):=by
 obtain ⟨ao',cap',hv',hn,hm,hc⟩:=h
 rw [hv] at hv'
 simp only [Value.slice.injEq] at hv'
 obtain ⟨rfl,rfl,rfl⟩:=hv'
 have hlen : ((l.drop i).take (j - i)).length = j - i:=by simp; omega
 refine ⟨a,cap - i,by rw [hlen],by rw [hlen]; omega,by omega,fun hne=>?_⟩
 have hij' : i < j:=by
  rcases Nat.lt_or_ge i j with h | h
  ·exact h
  ·exact absurd (List.eq_nil_of_length_eq_zero (by rw [hlen]; omega)) hne
 obtain ⟨g,off,hg,hao,hcell⟩:=hc (by intro e; rw [e] at hj; simp at hj; omega)
 refine ⟨g,off + i,hg,ha g off hao (by omega),fun k hk=>?_⟩
 rw [hlen] at hk
 have:=hcell (i + k) (by omega)
 rw [Nat.add_assoc,this]
 simp
def setTo (k n : Nat) (c : List Ins) : List Ins:=c.modify k (fun x=>{ x with to:=n })
def opP : ByteArray:=⟨#[40]⟩
def elW : ByteArray:=⟨#[101,108,115,101]⟩
def goW : ByteArray:=⟨#[103,111,116,111]⟩
def gt (n : Nat) : Ins:=⟨goW,em,em,em,n,false⟩
def rcH (l : List ByteArray) : Option (Nat × Nat) :=
 if l.length < 2 ∨ eqW (l[1]?.getD em) opP = false ∨ l.length ≤ fndL l clW + 1 ∨ eqW (l[fndL l clW + 1]?.getD em) lbW = false then none
 else if rcB ((l.drop 2).take (fndL l clW - 2)) = false ∨ shI l (fndL l clW + 1) < 0 then none else some (fndL l clW,(shI l (fndL l clW + 1)).toNat)
def rct (blk : List ByteArray → List Ins → Option (List Ins)) (l : List ByteArray) (c : List Ins) : Option (List Ins × Nat) :=
 match rcH l with
 | none=>none
 | some (b,e) =>
  let hd:=eqW (l[0]?.getD em) whW
  match blk ((l.drop (b + 2)).take (e - (b + 2))) (c ++ [{ rcI ((l.drop 2).take (b - 2)) with head:=hd }]) with
  | none=>none
  | some c2 =>
   if hd then some (setTo c.length (c2.length + 1) (c2 ++ [gt c.length]),e + 1)
   else if decide (e + 1 < l.length) && eqW (l[e + 1]?.getD em) elW then
    if l.length ≤ e + 2 ∨ eqW (l[e + 2]?.getD em) lbW = false then none
    else if shI l (e + 2) < 0 then none
    else
     match blk ((l.drop (e + 3)).take ((shI l (e + 2)).toNat - (e + 3))) (setTo c.length (c2.length + 1) (c2 ++ [gt 0])) with
     | none=>none
     | some c7=>some (setTo c2.length c7.length c7,(shI l (e + 2)).toNat + 1)
   else some (setTo c.length c2.length c2,e + 1)
def rbs (ctl : List ByteArray → List Ins → Option (List Ins × Nat)) : Nat → List ByteArray → List Ins → Option (List Ins)
 | 0,_,_=>none
 | _ + 1,[],c=>some c
 | m + 1,x :: r,c =>
  if eqW x ifW || eqW x whW then
   match ctl (x :: r) c with
   | some (c',n)=>rbs ctl m ((x :: r).drop n) c'
   | none=>none
  else if fndL (x :: r) seW = (x :: r).length then none
  else
   match rsI ((x :: r).take (fndL (x :: r) seW)) with
   | some i=>rbs ctl m ((x :: r).drop (fndL (x :: r) seW + 1)) (c ++ [i])
   | none=>none
def rbl : Nat → List ByteArray → List Ins → Option (List Ins)
 | 0,_,_=>none
 | f + 1,l,c=>rbs (rct (rbl f)) (l.length + 1) l c
def CtPost (B : Nat) (w : World) (c : Value) (cl : List Ins) (len : Nat) (res : Option (List Ins × Nat)) (e : Ending) (w' : World) : Prop :=
 ∃ (c' : Value) (cl' : List Ins) (n : Nat) (ok : Bool),e = .returned (.tuple #[c',.int .i64 n,.bool ok]) ∧ w'.ownsRow B 100 6 c' cl'.length (insCells cl') ∧ Stp c.ownBlock.toList w c'.ownBlock.toList w' ∧ cl.length ≤ cl'.length ∧
   ((ok = false ∧ res = none ∧ cl'.length ≤ cl.length + 2 * len) ∨ (ok = true ∧ res = some (cl',n) ∧ 1 ≤ n ∧ n ≤ len ∧ cl'.length ≤ cl.length + 2 * n))
def CtlOK (B : Nat) (ctl : List ByteArray → List Ins → Option (List Ins × Nat)) (f : Nat) : Prop :=
 ∀ (w : World) (v c : Value) (l : List ByteArray) (cl : List Ins),StrB B w v l → B ≤ w.heap.size → w.ownsRow B 100 6 c cl.length (insCells cl) → l.length ≤ f → cl.length + 2 * l.length ≤ 2000 → (eqW (l[0]?.getD em) ifW || eqW (l[0]?.getD em) whW) = true →
  Calls Tryz.prog 73 #[v,c] w fun e w'=>CtPost B w c cl l.length (ctl l cl) e w'
def BkPost (B : Nat) (w : World) (c : Value) (cl : List Ins) (len : Nat) (res : Option (List Ins)) (e : Ending) (w' : World) : Prop :=
 ∃ (c' : Value) (cl' : List Ins) (ok : Bool),e = .returned (.tuple #[c',.bool ok]) ∧ w'.ownsRow B 100 6 c' cl'.length (insCells cl') ∧ Stp c.ownBlock.toList w c'.ownBlock.toList w' ∧ cl.length ≤ cl'.length ∧ cl'.length ≤ cl.length + 2 * len ∧
   ((ok = false ∧ res = none) ∨ (ok = true ∧ res = some cl'))
def RblOK (B : Nat) (blk : List ByteArray → List Ins → Option (List Ins)) (f : Nat) : Prop :=
 ∀ (w : World) (v c : Value) (l : List ByteArray) (cl : List Ins),StrB B w v l → B ≤ w.heap.size → w.ownsRow B 100 6 c cl.length (insCells cl) → l.length < f → cl.length + 2 * l.length ≤ 2000 →
  Calls Tryz.prog 51 #[v,c] w fun e w'=>BkPost B w c cl l.length (blk l cl) e w'
def Lst (w : World) (v : Value) (sz n : Nat) (xs : List Value) : Prop :=
 xs.length = n * sz ∧ n ≤ 40000 ∧ ((v = .slice none 0 0 ∧ n = 0) ∨ ∃ g off cap,v = .slice (some ⟨g,off,none⟩) n cap ∧ n ≤ cap ∧ cap ≤ maxLen ∧ ∀ j u,xs[j]? = some u → w.cell? ⟨g,off + j,none⟩ = some u)
theorem Lst.below {w w' : World} {v : Value} {sz n : Nat} {xs : List Value} (h : Lst w v sz n xs) (hb : Below w.heap.size w w') : Lst w' v sz n xs:=by
 obtain ⟨h1,h2,h3⟩:=h
 refine ⟨h1,h2,?_⟩
 rcases h3 with h3 | ⟨g,off,cap,hv,hn,hm,hc⟩
 ·exact Or.inl h3
 ·exact Or.inr ⟨g,off,cap,hv,hn,hm,fun j u hj=>by rw [hb.cell (World.block_lt_of_cell? w _ (hc j u hj))]; exact hc j u hj⟩
theorem Lst.of_own {w : World} {B : Nat} {e : TypeId} {v : Value} {sz n : Nat} {xs : List Value} (h : w.ownsRow B e sz v n xs) (hn : n ≤ 40000) : Lst w v sz n xs:=by
 have hcs:=fun g hg=>h.cells (g:=g) hg
 refine ⟨h.1,hn,?_⟩
 rcases h.2 with ⟨rfl,h0⟩ | ⟨g,cap,cur,rfl,_,_,hn,hm,_,_⟩
 ·exact Or.inl ⟨rfl,h0⟩
 ·refine Or.inr ⟨g,0,cap,rfl,hn,hm,fun j u hj=>?_⟩
  have:=hcs g rfl j u hj
  rw [show (⟨g,0,none⟩ : Addr).add j = ⟨g,0 + j,none⟩ by unfold Addr.add; split <;> simp_all] at this
  exact this
theorem Lst.strs {w : World} {v : Value} {l : List ByteArray} (h : Lst w v 1 l.length (l.map Value.string)) : Strs w v l:=by
 obtain ⟨h1,h2,h3⟩:=h
 rcases h3 with ⟨rfl,h0⟩ | ⟨g,off,cap,hv,hn,hm,hc⟩
 ·have : l = []:=List.eq_nil_of_length_eq_zero h0
  subst this
  exact ⟨_,_,rfl,Nat.le_refl _,by simp,fun h=>absurd rfl h⟩
 ·exact ⟨_,_,hv,hn,hm,fun _=>⟨g,off,rfl,fun j hj=>hc j (.string l[j]) (by simp [hj])⟩⟩
theorem below_box (w : World) (o : Obj) : Below w.heap.size w (w.alloc o):=(Below.refl _ _).alloc (Nat.le_refl _) o
def ints (l : List Int) : List Value:=l.map (Value.int .i64)
theorem ints_len (l : List Int) : (ints l).length = l.length:=by simp [ints]
def evA (ns : List ByteArray) (vs : List Int) (n : ByteArray) : Option Int:=if eqW n nilW = true then some 0 else if fndL ns n < ns.length then some (vs.getD (fndL ns n) 0) else none
set_option maxRecDepth 100000 in
set_option maxHeartbeats 1000000 in
theorem hvalue_any {w : World} {nv vv : Value} {ns : List ByteArray} {vs : List Int} (n : ByteArray) (h1 : Lst w nv 1 ns.length (ns.map Value.string)) (h2 : Lst w vv 1 vs.length (ints vs)) (hl : ns.length = vs.length) :
  Calls Tryz.prog 168 #[.agg #[nv,vv],.string n] w fun e w'=>e = .returned (.tuple #[.int .i64 ((evA ns vs n).getD 0),.bool (evA ns vs n).isSome]) ∧ Below w.heap.size w w':=by
 have hlen:=h1.2.1
 by_cases hn : eqW n nilW = true
 ·have HE : Hid (evA ns vs n = some 0):=hide (by unfold evA; rw [if_pos hn])
  have hb : (n.toList == [110,105,108]) = true:=by rw [← nilW_l]; exact hn
  clear h1 h2 hn
  go_enter Tryz.func168,Tryz.ntmps168
  go_wp2_with fail
  go_ret2
  exact ⟨by rw [uh HE]; rfl,by repeat (first | exact Below.refl _ _ | apply Below.drew | (refine Below.alloc ?_ (Nat.le_refl _) _))⟩
 ·have hb : (n.toList == [110,105,108]) = false:=by rw [← nilW_l]; exact Bool.eq_false_iff.2 hn
  have HS:=hide h1.strs
  by_cases hf : fndL ns n < ns.length
  ·obtain ⟨i,hi⟩ : ∃ i,i = fndL ns n:=⟨_,rfl⟩
   have HE : Hid (evA ns vs n = some (vs.getD i 0)):=hide (by unfold evA; rw [if_neg hn,if_pos hf,hi])
   have HA : Hid (amI ns n = (i : Int)):=hide (by unfold amI; rw [if_pos hf,hi])
   rw [← hi] at hf
   obtain ⟨g,off,cap,rfl,hn2,hm,hc⟩:=h2.2.2.resolve_left (fun h=>by omega)
   have hcx:=hc i (.int .i64 (vs.getD i 0)) (by
    have : i < vs.length:=by omega
    simp [ints,this])
   have hcy:=(below_box w (.cells #[nv,.slice (some ⟨g,off,none⟩) vs.length cap] 211)).cell (World.block_lt_of_cell? w _ hcx)
   rw [hcx] at hcy
   clear h1 h2 hn hi hc hcx
   go_enter Tryz.func168,Tryz.ntmps168
   go_wp2_with fail
   refine (among_any n ((uh HS).below (below_box _ _)) (by omega)).mono ?_
   rintro e w1 ⟨rfl,rfl⟩
   rw [uh HA]
   have hi0 : decide ((i : Int) < 0) = false:=by simp
   go_wp2_with fail
   go_ret2
   exact ⟨by rw [uh HE]; rfl,below_box _ _⟩
  ·have HE : Hid (evA ns vs n = none):=hide (by unfold evA; rw [if_neg hn,if_neg hf])
   have ha : amI ns n = -1:=by unfold amI; rw [if_neg hf]
   have HA:=hide ha
   clear h1 h2 hn hf ha
   go_enter Tryz.func168,Tryz.ntmps168
   go_wp2_with fail
   refine (among_any n ((uh HS).below (below_box _ _)) (by omega)).mono ?_
   rintro e w1 ⟨rfl,rfl⟩
   rw [uh HA]
   go_wp2_with fail
   go_ret2
   exact ⟨by rw [uh HE]; rfl,below_box _ _⟩
def bools (l : List Bool) : List Value:=l.map Value.bool
def clP (ad : List Int) (fr : List Bool) (a : Int) : Nat → Bool:=fun k=>fr.getD k false && ad.getD k 0 == a
def hCl (ad : List Int) (fr : List Bool) (a : Int) : Nat:=((List.range ad.length).find? (clP ad fr a)).getD ad.length
def hClI (ad : List Int) (fr : List Bool) (a : Int) : Int:=if hCl ad fr a < ad.length then (hCl ad fr a : Int) else -1
theorem hCl_hit {ad : List Int} {fr : List Bool} {a : Int} {k : Nat} (hk : k < ad.length) (hn : ∀ j,j < k → clP ad fr a j = false) (h : clP ad fr a k = true) : hCl ad fr a = k:=by
 unfold hCl
 have : (List.range ad.length).find? (clP ad fr a) = some k:=by
  rw [List.find?_range_eq_some]
  exact ⟨h,by simpa using hk,fun j hj=>by simp [hn j hj]⟩
 rw [this]; rfl
theorem hCl_miss {ad : List Int} {fr : List Bool} {a : Int} (hn : ∀ j,j < ad.length → clP ad fr a j = false) : hCl ad fr a = ad.length:=by
 unfold hCl
 have : (List.range ad.length).find? (clP ad fr a) = none:=by
  rw [List.find?_range_eq_none]
  exact fun j hj=>by simp [hn j hj]
 rw [this]; rfl
def HpA (w : World) (X : Nat) (ad nx : List Int) : Prop :=
 ∃ av xv,w.cell? ⟨X,2,none⟩ = some av ∧ w.cell? ⟨X,3,none⟩ = some xv ∧ Lst w av 1 ad.length (ints ad) ∧ Lst w xv 1 nx.length (ints nx)
theorem HpA.below {w w' : World} {X : Nat} {ad nx : List Int} (h : HpA w X ad nx) (hb : Below w.heap.size w w') : HpA w' X ad nx:=by
 obtain ⟨av,xv,h1,h2,h3,h4⟩:=h
 exact ⟨av,xv,by rw [hb.cell (World.block_lt_of_cell? w _ h1)]; exact h1,by rw [hb.cell (World.block_lt_of_cell? w _ h2)]; exact h2,h3.below hb,h4.below hb⟩
theorem Lst.get {w : World} {v : Value} {n : Nat} {xs : List Value} (h : Lst w v 1 n xs) (hn : 0 < n) : ∃ g off cap,v = .slice (some ⟨g,off,none⟩) n cap ∧ n ≤ cap ∧ cap ≤ maxLen ∧ ∀ j u,xs[j]? = some u → w.cell? ⟨g,off + j,none⟩ = some u :=
 h.2.2.resolve_left (fun e=>by omega)
theorem Lst.slice {w : World} {v : Value} {sz n : Nat} {xs : List Value} (h : Lst w v sz n xs) : ∃ ao cap,v = .slice ao n cap:=by
 rcases h.2.2 with ⟨rfl,rfl⟩ | ⟨g,off,cap,rfl,_⟩
 ·exact ⟨_,_,rfl⟩
 ·exact ⟨_,_,rfl⟩
theorem ints_get {l : List Int} {k : Nat} (h : k < l.length) : (ints l)[k]? = some (.int .i64 (l.getD k 0)):=by simp [ints,h]
theorem bools_get {l : List Bool} {k : Nat} (h : k < l.length) : (bools l)[k]? = some (.bool (l.getD k false)):=by simp [bools,h]
set_option maxRecDepth 100000 in
set_option maxHeartbeats 1000000 in
theorem hcell_any {w : World} {X : Nat} {ad nx : List Int} {fv : Value} {fr : List Bool} (a : Int) (hH : HpA w X ad nx) (hF : Lst w fv 1 fr.length (bools fr)) (hl : fr.length = ad.length) :
  Calls Tryz.prog 194 #[.pointer (some ⟨X,0,none⟩),.int .i64 a,fv] w fun e w'=>e = .returned (.int .i64 (hClI ad fr a)) ∧ w' = w:=by
 obtain ⟨av,xv,c2,c3,hA,-⟩:=hH
 have hle:=hA.2.1
 have HF:=hide hF
 have HA:=hide hA
 obtain ⟨ao,acap,rfl⟩:=hA.slice
 obtain ⟨fo,fcap,rfl⟩:=hF.slice
 clear hA hF c3
 go_enter Tryz.func194,Tryz.ntmps194
 go_wp2_with fail
 go_loop [7] (fun i=>∃ k : Nat,k ≤ ad.length ∧ i = .int .i64 k ∧ Hid (∀ j,j < k → clP ad fr a j = false)) (fun i=>ad.length - (intOf i).toNat)
 case atStart=>exact ⟨0,Nat.zero_le _,rfl,fun _ h=>absurd h (by omega)⟩
 case round =>
  obtain ⟨k,hk,rfl,hall⟩:=hrel
  by_cases hlt : k < ad.length
  ·obtain ⟨g,off,cap,hv,-,-,hc⟩:=(uh HA).get (by omega)
   obtain ⟨g2,off2,cap2,hv2,hn2,hm2,hc2⟩:=(uh HF).get (by omega)
   simp only [Value.slice.injEq,true_and] at hv hv2
   obtain ⟨rfl,rfl⟩:=hv
   obtain ⟨rfl,rfl⟩:=hv2
   have x1:=hc k _ (ints_get hlt)
   have hlt2 : k < fr.length:=by omega
   have x2:=hc2 k _ (bools_get hlt2)
   clear hc hc2
   cases hf : fr.getD k false with
   | false =>
    have HP : Hid (clP ad fr a k = false):=hide (by unfold clP; rw [hf]; rfl)
    rw [hf] at x2
    clear hf
    go_wp2_with fail
    go_round
    case rel=>exact ⟨k + 1,by omega,by go_num,fun j hj=>by
     by_cases e : j = k
     ·rw [e]; exact uh HP
     ·exact hall.out j (by omega)⟩
    case measure=>simp [intOf]; omega
   | true =>
    rw [hf] at x2
    obtain ⟨q,hq⟩ : ∃ q,q = ad.getD k 0:=⟨_,rfl⟩
    rw [← hq] at x1
    have HQ:=hide hq
    clear hq
    cases he : (q == a) with
    | true =>
     have HP : Hid (clP ad fr a k = true):=hide (by unfold clP; rw [hf,← uh HQ,he]; rfl)
     clear hf
     go_wp2_with fail
     go_ret
     exact ⟨ret_int (by unfold hClI; rw [hCl_hit hlt hall.out (uh HP),if_pos hlt]),rfl⟩
    | false =>
     have HP : Hid (clP ad fr a k = false):=hide (by unfold clP; rw [hf,← uh HQ,he]; rfl)
     clear hf
     go_wp2_with fail
     go_round
     case rel=>exact ⟨k + 1,by omega,by go_num,fun j hj=>by
      by_cases e : j = k
      ·rw [e]; exact uh HP
      ·exact hall.out j (by omega)⟩
     case measure=>simp [intOf]; omega
  ·have hd : decide ((k : Int) < (ad.length : Int)) = false:=by simp; omega
   go_wp2_with fail
   go_ret
   exact ⟨ret_int (by unfold hClI; rw [hCl_miss (fun j hj=>hall.out j (by omega)),if_neg (by omega)]),rfl⟩
theorem own_heap {w : World} {B : Nat} {e : TypeId} {n g : Nat} {xs : List Value} (h : w.ownsRow B e 1 (.slice (some ⟨g,0,none⟩) n n) n xs) : w.heap[g]? = some (.cells xs.toArray e (0,0)) ∧ xs.length = n:=by
 have h1:=h.1
 rcases h.2 with ⟨h0,_⟩ | ⟨g',cap,cur,hv,_,hg,_,_,hs,ht⟩
 ·cases h0
 ·simp only [Value.slice.injEq,Option.some.injEq,Addr.mk.injEq,true_and,and_true] at hv
  obtain ⟨rfl,rfl⟩:=hv
  have : cur.toList = xs:=by
   rw [← ht,List.take_of_length_le]
   simp only [Array.length_toList,hs]; omega
  rw [hg,← this]
  exact ⟨by simp,by simp only [Array.length_toList,hs]; omega⟩
theorem heap_own {w : World} {B : Nat} {e : TypeId} {n g : Nat} {xs : List Value} (h : w.heap[g]? = some (.cells xs.toArray e (0,0))) (hl : xs.length = n) (hB : B ≤ g) (hm : n ≤ maxLen) : w.ownsRow B e 1 (.slice (some ⟨g,0,none⟩) n n) n xs :=
 ⟨by omega,Or.inr ⟨g,n,xs.toArray,rfl,hB,h,Nat.le_refl _,hm,by simp [hl],by simp [← hl]⟩⟩
theorem bools_len (l : List Bool) : (bools l).length = l.length:=by simp [bools]
theorem bools_one (l : List Bool) : ∀ u ∈ bools l,u.oneCell' = true:=by
 intro u hu; simp only [bools,List.mem_map] at hu; obtain ⟨b,_,rfl⟩:=hu; rfl
theorem Tryz.sizeBool : (Tryz.prog.info? 4).map (·.size) = some 1:=by kernel_rfl
set_option maxRecDepth 100000 in
set_option maxHeartbeats 1000000 in
theorem without_any {w : World} {fv : Value} {fr : List Bool} (k : Nat) (hk : k < fr.length) (hF : Lst w fv 1 fr.length (bools fr)) :
  Calls Tryz.prog 195 #[fv,.int .i64 k] w fun e w'=>∃ v,e = .returned v ∧ Lst w' v 1 fr.length (bools (fr.set k false)) ∧ Below w.heap.size w w':=by
 obtain ⟨i0,hi,hz0,hz1,hz2⟩:=info_parts Tryz.infoBool
 have hle:=hF.2.1
 have HF:=hide hF
 obtain ⟨n,hn⟩ : ∃ n,n = fr.length:=⟨_,rfl⟩
 obtain ⟨g,off,cap,rfl,hnc,hm,hc⟩:=hF.get (by omega)
 rw [← hn] at hk hle hnc ⊢
 have HN:=hide hn
 clear hF hn hc
 unfold maxLen at hm
 go_enter Tryz.func195,Tryz.ntmps195
 go_wp2_with (at_make; refine wpList_make_full _ rfl _ _ 200 rfl w.heap.size 4 i0 (.bool false) 1 Tryz.underlying200 hi hz0 hz1 .i64 .i64 _ _ n rfl rfl rfl rfl ?b2 ?b3 ?b4 ?_)
 case b2=>rw [hz2]; omega
 case b3=>unfold maxLen; omega
 case b4=>simp
 intro w1 hown1 hgrow1
 have hb1 : Below w.heap.size w w1:=(Below.refl _ _).grown hgrow1 (Nat.le_refl _) (fun k h=>by cases h)
 obtain ⟨hg1,hl1⟩:=own_heap hown1
 have HG1:=hide hg1
 have HL1:=hide hl1
 have HB1:=hide hb1
 have HC : Hid (∀ j v,(bools fr)[j]? = some v → w1.cell? ⟨g,off + j,none⟩ = some v):=hide (fun j v hj=>by
  obtain ⟨g',off',cap',hv',-,-,hc⟩:=(uh HF).get (by rw [← uh HN]; omega)
  simp only [Value.slice.injEq,Option.some.injEq,Addr.mk.injEq,and_true] at hv'
  obtain ⟨⟨rfl,rfl⟩,-,-⟩:=hv'
  rw [hb1.cell (World.block_lt_of_cell? w _ (hc j v hj))]; exact hc j v hj)
 clear hown1 hgrow1 hg1 hl1 hb1
 go_wp2_with (refine wpList_copy_splice rfl (.tmp 9) (.tmp 10) 200 200 rfl 4 Tryz.underlying200 Tryz.sizeBool (some ⟨w.heap.size,0,none⟩) (some ⟨g,off,none⟩) n n n cap rfl rfl w.heap.size 0 _ 4 (uh HG1) (bools fr) ?c1 ?c2 ?c3 (bools_one fr) w.heap.size w (uh HB1) (Nat.le_refl _) ?_)
 case c1=>rw [bools_len,← uh HN]; simp
 case c2=>exact fun _=>uh HC
 case c3=>rw [uh HL1,bools_len,← uh HN]; simp
 intro w2 hg2 hb2
 have e2 : splice (madeCells #[Value.bool false] n).toList 0 (bools fr) = bools fr:=by
  have h1:=uh HL1
  unfold splice
  rw [List.take_zero,List.nil_append,List.drop_eq_nil_of_le (by rw [h1,bools_len,← uh HN]; omega),List.append_nil]
 have HO2 : Hid (w2.ownsRow w.heap.size 4 1 (.slice (some ⟨w.heap.size,0,none⟩) n n) n (bools fr)):=hide (heap_own (by have:=uh hg2; rwa [e2] at this) (by rw [bools_len,← uh HN]) (Nat.le_refl _) (by unfold maxLen; omega))
 obtain ⟨d1,d2⟩:=rown_cell (uh HO2) (bools_get (l:=fr) (k:=k) (by rw [← uh HN]; exact hk))
 have HB2:=hide hb2
 clear hg2 hb2 e2
 go_wp2_with fail
 go_ret
 refine ⟨_,rfl,?_,(uh HB2).setCell (p:=⟨w.heap.size,k,none⟩) (Nat.le_refl _) _⟩
 have h3:=rown_set (j:=k) (uh HO2) (.bool false)
 have e3 : (bools fr).set k (.bool false) = bools (fr.set k false):=by simp [bools,List.map_set]
 rw [e3] at h3
 exact Lst.of_own h3 (by omega)
section
variable {P : Program} {w : World}
theorem wpList_app_lst {ops : Array Oper} {rest : List Oper} {o : Oper} {a : Act} {Q : Exit → Act → World → Prop}
  (hg : o.guard = none) (s x : Operand) (t : TypeId) (hop : o.op = Op.call { callee:=Callee.builtin Builtin.append,args:=#[s,x],argTypes:=#[t,t] })
  (base : Nat) (e : TypeId) (i : TypeInfo) (z : Value) (size bytes : Nat) (ht : P.underlying t = some (.slice e)) (hi : P.info? e = some i) (hz : i.zero = some z)
  (hsize : i.size = size) (hby : i.bytes = bytes) (hzs : z.cells.size = size) (hsz : 0 < size)
  (v : Value) (n : Nat) (xs : List Value) (hs : a.eval s = v) (hown : w.ownsRow base e size v n xs)
  (xv : Value) (m : Nat) (news : List Value) (hx : a.eval x = xv) (hL : Lst w xv size m news) (h1 : ∀ u ∈ news,u.oneCell' = true)
  (h63 : n + m ≤ 1000000) (hb : bytes ≤ 1000) (hbase : base ≤ w.heap.size)
  (hK : ∀ v' w',w'.ownsRow base e size v' (n + m) (xs ++ news) → w.grownBy w' v.ownBlock → wpList P ops Q rest (a.put o.dst v') w') :
  wpList P ops Q (o :: rest) a w:=by
 have hbytes : (n + m) * bytes ≤ 140737488355328:=Nat.le_trans (Nat.mul_le_mul h63 hb) (by decide)
 obtain ⟨hl,_,(⟨rfl,rfl⟩ | ⟨g,off,cap,rfl,hn,hm,hc⟩)⟩:=hL
 ·have : news = []:=List.eq_nil_of_length_eq_zero (by omega)
  subst this
  refine wpList_append_own_none hg s x t hop base e i size ht hi v n xs hs hown hx ?_
  exact hK v w (by simpa using hown) ⟨rfl,rfl,rfl,Nat.le_refl _,fun _ _ _=>rfl⟩
 ·refine wpList_append_own w hg s x t hop base e i z size bytes ht hi hz hsize hby hzs hsz v n xs hs hown ⟨g,off,none⟩ m cap news hx hl (fun j u hj=>?_) h1 (by unfold maxLen; omega) hbytes hbase (fun v' w' r1 r2 _=>hK v' w' r1 r2)
  rw [show (⟨g,off,none⟩ : Addr).add j = ⟨g,off + j,none⟩ by unfold Addr.add; split <;> simp_all]
  exact hc j u hj
end
theorem strs_one (l : List ByteArray) : ∀ u ∈ l.map Value.string,u.oneCell' = true:=by
 intro u hu; simp only [List.mem_map] at hu; obtain ⟨b,_,rfl⟩:=hu; rfl
theorem ints_one (l : List Int) : ∀ u ∈ ints l,u.oneCell' = true:=by
 intro u hu; simp only [ints,List.mem_map] at hu; obtain ⟨b,_,rfl⟩:=hu; rfl
theorem Tryz.infoInt : (Tryz.prog.info? 3).map (fun i=>(i.zero,i.size,i.bytes)) = some (some (.int .i64 0),1,8):=by kernel_rfl
theorem below_box3 (w : World) (a b c : Obj) : Below w.heap.size w (((w.alloc a).alloc b).alloc c):=(((Below.refl _ _).alloc (Nat.le_refl _) a).alloc (by simp) b).alloc (by simp; omega) c
theorem box3_size (w : World) (a b c : Obj) : (((w.alloc a).alloc b).alloc c).heap.size = w.heap.size + 3:=by simp
theorem cellsE2 {w : World} {r : Nat} {a b : Value} {T : TypeId} (h : w.heap[r]? = some (.cells #[a,b] T (0,0))) : w.cell? ⟨r,0,none⟩ = some a ∧ w.cell? ⟨r,1,none⟩ = some b ∧ w.frozen? ⟨r,0,none⟩ = false ∧ w.frozen? ⟨r,1,none⟩ = false:=by
 refine ⟨?_,?_,?_,?_⟩ <;> simp [World.cell?,World.frozen?,h]
theorem own_setH {w : World} {B : Nat} {e : TypeId} {sz n r j : Nat} {v : Value} {xs : List Value} (h : w.ownsRow B e sz v n xs) (hr : r < B) (u : Value) : (w.setCell ⟨r,j,none⟩ u).ownsRow B e sz v n xs :=
 ownsRow_of_eq h (fun k hk=>Below.heap_setCell _ _ _ _ (by have:=(h.lt k hk).1; show k ≠ r; omega))
theorem own_keptH {w w' : World} {B : Nat} {e : TypeId} {sz n : Nat} {v : Value} {xs : List Value} {row : Option Nat} (h : w.ownsRow B e sz v n xs) (hg : w.grownBy w' row) (hr : ∀ k,v.ownBlock = some k → row ≠ some k) : w'.ownsRow B e sz v n xs :=
 h.kept hg (by cases hv : v.ownBlock with
  | none=>exact Or.inl rfl
  | some k=>exact Or.inr (fun e=>hr k hv e.symm))
theorem one_newS (w : World) (p : Addr) (y x : Value) (T : TypeId) : ∀ (j : Nat) (u : Value),[x][j]? = some u → ((w.setCell p y).alloc (.cells #[x] T)).cell? ((⟨w.heap.size,0,none⟩ : Addr).add j) = some u:=by
 have h:=one_new (w.setCell p y) x T
 have e : (w.setCell p y).heap.size = w.heap.size:=by simp [World.setCell]
 rwa [e] at h
theorem own_lowH {w : World} {B B' : Nat} {e : TypeId} {sz n : Nat} {v : Value} {xs : List Value} (h : w.ownsRow B e sz v n xs) (hb : B' ≤ B) : w.ownsRow B' e sz v n xs:=by
 refine ⟨h.1,?_⟩
 rcases h.2 with h0 | ⟨g,cap,cur,hv,hB,hr⟩
 ·exact .inl h0
 ·exact .inr ⟨g,cap,cur,hv,Nat.le_trans hb hB,hr⟩
structure WI (w wr : World) (nv vv x y : Value) : Prop where
 b0 : wr.heap[w.heap.size]? = some (.cells #[nv,vv] 211 (0,0))
 b1 : wr.heap[w.heap.size + 1]? = some (.cells #[.slice none 0 0,.slice none 0 0] 211 (0,0))
 b2 : wr.heap[w.heap.size + 2]? = some (.cells #[x,y] 211 (0,0))
 bl : Below w.heap.size w wr
 sz : w.heap.size + 3 ≤ wr.heap.size
theorem WI.start (w : World) (nv vv : Value) : WI w (((w.alloc (.cells #[nv,vv] 211)).alloc (.cells #[.slice none 0 0,.slice none 0 0] 211)).alloc (.cells #[.slice none 0 0,.slice none 0 0] 211)) nv vv (.slice none 0 0) (.slice none 0 0):=by
 refine ⟨?_,?_,?_,below_box3 _ _ _ _,by rw [box3_size]; exact Nat.le_refl _⟩
 ·rw [Below.heap_alloc _ _ _ (by simp; omega),Below.heap_alloc _ _ _ (by simp)]; exact heap_alloc_new w _
 ·rw [Below.heap_alloc _ _ _ (by simp)]
  have:=heap_alloc_new (w.alloc (.cells #[nv,vv] 211)) (.cells #[.slice none 0 0,.slice none 0 0] 211)
  simpa using this
 ·have:=heap_alloc_new ((w.alloc (.cells #[nv,vv] 211)).alloc (.cells #[.slice none 0 0,.slice none 0 0] 211)) (.cells #[.slice none 0 0,.slice none 0 0] 211)
  simpa using this
theorem WI.grown {w wr wr' : World} {nv vv x y : Value} {row : Option Nat} (h : WI w wr nv vv x y) (hg : wr.grownBy wr' row) (hr : ∀ k,row = some k → w.heap.size + 3 ≤ k) : WI w wr' nv vv x y:=by
 have hs:=h.sz
 have hk : ∀ k,k < w.heap.size + 3 → wr'.heap[k]? = wr.heap[k]?:=fun k hk=>hg.block k (by omega) (fun e=>by have:=hr k e.symm; omega)
 exact ⟨by rw [hk _ (by omega)]; exact h.b0,by rw [hk _ (by omega)]; exact h.b1,by rw [hk _ (by omega)]; exact h.b2,h.bl.grown hg (by omega) (fun k e=>by have:=hr k e; omega),by have:=hg.size; omega⟩
theorem WI.alloc {w wr : World} {nv vv x y : Value} (h : WI w wr nv vv x y) (o : Obj) : WI w (wr.alloc o) nv vv x y:=by
 have hs:=h.sz
 exact ⟨by rw [Below.heap_alloc _ _ _ (by omega)]; exact h.b0,by rw [Below.heap_alloc _ _ _ (by omega)]; exact h.b1,by rw [Below.heap_alloc _ _ _ (by omega)]; exact h.b2,h.bl.alloc (by omega) _,by simp; omega⟩
theorem WI.set0 {w wr : World} {nv vv x y : Value} (h : WI w wr nv vv x y) (u : Value) : WI w (wr.setCell ⟨w.heap.size + 2,0,none⟩ u) nv vv u y :=
 ⟨by rw [Below.heap_setCell _ _ _ _ (by simp)]; exact h.b0,by rw [Below.heap_setCell _ _ _ _ (by simp)]; exact h.b1,set6 h.b2 _,h.bl.setCell (p:=⟨w.heap.size + 2,0,none⟩) (by simp) _,by simpa [World.setCell] using h.sz⟩
theorem WI.set1 {w wr : World} {nv vv x y : Value} (h : WI w wr nv vv x y) (u : Value) : WI w (wr.setCell ⟨w.heap.size + 2,1,none⟩ u) nv vv x u :=
 ⟨by rw [Below.heap_setCell _ _ _ _ (by simp)]; exact h.b0,by rw [Below.heap_setCell _ _ _ _ (by simp)]; exact h.b1,set6 h.b2 _,h.bl.setCell (p:=⟨w.heap.size + 2,1,none⟩) (by simp) _,by simpa [World.setCell] using h.sz⟩
set_option maxRecDepth 100000 in
set_option maxHeartbeats 4000000 in
theorem with_any {w : World} {nv vv : Value} {ns : List ByteArray} {vs : List Int} (n : ByteArray) (v : Int) (h1 : Lst w nv 1 ns.length (ns.map Value.string)) (h2 : Lst w vv 1 vs.length (ints vs)) (hl : ns.length < 19000) (hv : vs.length < 19000) :
  Calls Tryz.prog 163 #[.agg #[nv,vv],.string n,.int .i64 v] w fun e w'=>∃ nv' vv',e = .returned (.agg #[nv',vv']) ∧ w'.ownsRow w.heap.size 9 1 nv' (ns ++ [n]).length ((ns ++ [n]).map Value.string) ∧ w'.ownsRow w.heap.size 3 1 vv' (vs ++ [v]).length (ints (vs ++ [v])) ∧ Below w.heap.size w w':=by
 obtain ⟨i0,hi,hz0,hz1,hz2⟩:=info_parts Tryz.infoStr
 obtain ⟨j0,hj,hy0,hy1,hy2⟩:=info_parts Tryz.infoInt
 have H1:=hide h1
 have H2:=hide h2
 obtain ⟨na,nc,rfl⟩:=h1.slice
 obtain ⟨va,vc,rfl⟩:=h2.slice
 clear h1 h2
 go_enter Tryz.func163,Tryz.ntmps163
 go_wp2_with (at_builtin; refine wpList_app_lst rfl (.tmp 9) (.tmp 11) 50 rfl (w.heap.size + 3) 9 i0 _ 1 16 Tryz.underlying50 hi hz0 hz1 hz2 rfl (by decide) _ 0 [] rfl (World.ownsRow_nil _ _ _ _) _ _ _ rfl ((uh H1).below (below_box3 _ _ _ _)) (strs_one ns) (by omega) (by decide) (by simp) ?_)
 intro v1 w1 hown1 hgrow1
 have hw1:=(WI.start w _ _).grown hgrow1 (fun k e=>by cases e)
 obtain ⟨a1,c1,hv1⟩:=slice_of_own hown1
 subst hv1
 have HO1:=hide hown1
 have HW1:=hide hw1
 obtain ⟨x0,x1,-,-⟩:=cellsE2 hw1.b0
 obtain ⟨y0,y1,g0,g1⟩:=cellsE2 hw1.b2
 have hz1s:=hw1.sz
 clear hown1 hgrow1 hw1
 go_wp2_with (at_builtin; refine wpList_app_lst rfl (.tmp 15) (.tmp 17) 29 rfl w1.heap.size 3 j0 _ 1 8 Tryz.underlying29 hj hy0 hy1 hy2 rfl (by decide) _ 0 [] rfl (World.ownsRow_nil _ _ _ _) _ _ _ rfl ((uh H2).below ((uh HW1).set0 _).bl) (ints_one vs) (by omega) (by decide) (by simp) ?_)
 intro v2 w2 hown2 hgrow2
 have hw2:=((uh HW1).set0 _).grown hgrow2 (fun k e=>by cases e)
 have ho1:=own_keptH (own_setH (r:=w.heap.size + 2) (j:=0) (uh HO1) (by omega) _) hgrow2 (fun k _ e=>by cases e)
 obtain ⟨a2,c2,hv2⟩:=slice_of_own hown2
 subst hv2
 have hap : ∀ k,(Value.slice a1 ns.length c1).ownBlock = some k → k < w1.heap.size:=fun k e=>((uh HO1).lt k e).2
 have hz2s : w1.heap.size ≤ w2.heap.size:=by simpa [World.setCell] using hgrow2.size
 have HO1b:=hide ho1
 have HO2:=hide hown2
 have HW2:=hide hw2
 have HAP:=hide hap
 clear x0 x1 y0 y1 g0 g1
 obtain ⟨x0,x1,-,-⟩:=cellsE2 hw2.b0
 obtain ⟨y0,y1,g0,g1⟩:=cellsE2 hw2.b2
 clear ho1 hown2 hw2 hap hgrow2
 go_wp2_with (at_builtin; refine wpList_app1 _ rfl (.tmp 21) (.tmp 23) 50 rfl (w.heap.size + 3) 9 i0 (.string ⟨#[]⟩) 1 16 Tryz.underlying50 hi hz0 hz1 hz2 rfl (by decide) _ ns.length (ns.map Value.string) rfl ((own_setH (r:=w.heap.size + 2) (j:=1) (uh HO1b) (by omega) _).alloc _) ⟨_,0,none⟩ 1 [.string n] rfl rfl (one_newS _ _ _ _ _) (oneCell_strJ _) (by omega) (by omega) (by simp; omega) ?_)
 intro g3 c3 w3 hown3 hgrow3 hblk3
 have hw3:=(((uh HW2).set1 _).alloc _).grown hgrow3 (fun k e=>((uh HO1b).lt k e).1)
 have ho2:=own_keptH ((own_setH (r:=w.heap.size + 2) (j:=1) (uh HO2) (by omega) _).alloc _) hgrow3 (fun k hk e=>by
  have h1:=uh HAP k e
  have h2:=((uh HO2).lt k hk).1
  omega)
 have hne : ∀ k,(Value.slice a2 vs.length c2).ownBlock = some k → k ≠ g3:=fun k hk e=>by
  have h2:=(uh HO2).lt k hk
  rcases hblk3 with h | h
  ·have h1:=uh HAP g3 h.symm
   omega
  ·omega
 have hz3s : w2.heap.size ≤ w3.heap.size:=by have:=hgrow3.size; simp [World.setCell] at this; omega
 have HO3:=hide hown3
 have HO2b:=hide ho2
 have HW3:=hide hw3
 have HNE:=hide hne
 clear x0 x1 y0 y1 g0 g1
 obtain ⟨x0,x1,-,-⟩:=cellsE2 hw3.b0
 obtain ⟨y0,y1,g0,g1⟩:=cellsE2 hw3.b2
 clear hown3 hw3 ho2 hne hgrow3 hblk3
 go_wp2_with (at_builtin; refine wpList_app1 _ rfl (.tmp 27) (.tmp 29) 29 rfl w1.heap.size 3 j0 (.int .i64 0) 1 8 Tryz.underlying29 hj hy0 hy1 hy2 rfl (by decide) _ vs.length (ints vs) rfl ((own_setH (r:=w.heap.size + 2) (j:=0) (uh HO2b) (by omega) _).alloc _) ⟨_,0,none⟩ 1 [.int .i64 v] rfl rfl (one_newS _ _ _ _ _) (ints_one [v]) (by omega) (by omega) (by simp; omega) ?_)
 intro g4 c4 w4 hown4 hgrow4 hblk4
 have hw4:=(((uh HW3).set0 _).alloc _).grown hgrow4 (fun k e=>by have:=((uh HO2b).lt k e).1; omega)
 have ho3:=own_keptH ((own_setH (r:=w.heap.size + 2) (j:=0) (uh HO3) (by omega) _).alloc _) hgrow4 (fun k hk e=>by
  have h1:=uh HNE k e
  simp [Value.ownBlock] at hk
  omega)
 have HO4:=hide hown4
 have HO3b:=hide ho3
 have HW4:=hide hw4
 clear x0 x1 y0 y1 g0 g1
 obtain ⟨y0,y1,g0,g1⟩:=cellsE2 hw4.b2
 obtain ⟨r0,r1,p0,p1⟩:=cellsE2 hw4.b1
 clear hown4 hw4 ho3 hgrow4 hblk4
 go_wp2_with fail
 have hs3:=(uh HW4).sz
 have e1 : (ns ++ [n]).map Value.string = ns.map Value.string ++ [Value.string n]:=by simp
 have e2 : ints (vs ++ [v]) = ints vs ++ [Value.int .i64 v]:=by simp [ints]
 refine bodyPost_ret (v:=.agg #[.slice (some ⟨g3,0,none⟩) (ns.length + 1) c3,.slice (some ⟨g4,0,none⟩) (vs.length + 1) c4]) (by simp [results,Tryz.results163,go_sem,r0,r1]) rfl ⟨_,_,rfl,?_,?_,?_⟩
 ·rw [e1,List.length_append,List.length_singleton]
  exact own_lowH (own_setH (own_setH (own_setH (uh HO3b) (by omega) _) (by omega) _) (by omega) _) (by omega)
 ·rw [e2,List.length_append,List.length_singleton]
  exact own_lowH (own_setH (own_setH (own_setH (uh HO4) (by omega) _) (by omega) _) (by omega) _) (by omega)
 ·exact (((uh HW4).bl.setCell (p:=⟨w.heap.size + 2,1,none⟩) (by simp) _).setCell (p:=⟨w.heap.size + 1,0,none⟩) (by simp) _).setCell (p:=⟨w.heap.size + 1,1,none⟩) (by simp) _
end Go.Proofs.YtciihepbeacppaaGreat
