import Derived.Test.YtciihepbeacppaaGreatM00
import Derived.Deep.LoopGhost
namespace Go.Proofs.YtciihepbeacppaaGreat
open Go.RowKit
def eqW (a b : ByteArray) : Bool:=a.toList == b.toList
def nilW : ByteArray:=⟨#[110,105,108]⟩
def nameB (u : ByteArray) : Bool:=eqW u nilW || lowB u || upB u
set_option maxHeartbeats 400000 in
theorem name_any (s : ByteArray) (w : World) :
  Calls Tryz.prog 125 #[.string s] w fun e w'=>e = .returned (.bool (nameB s)) ∧ w' = w:=by
 have hk : nilW.toList = [110,105,108]:=ByteArray.toList_eq _
 cases hn : (s.toList == [110,105,108]) with
 | true =>
  have HN : Hid (nameB s = true):=hide (by unfold nameB eqW; rw [hk,hn]; rfl)
  clear hk
  go_enter Tryz.func125,Tryz.ntmps125
  go_wp2_with (first | (go_at_call 75; refine (lower_any _ _).mono ?_; rintro e w' ⟨rfl,rfl⟩) | (go_at_call 76; refine (upper_any _ _).mono ?_; rintro e w' ⟨rfl,rfl⟩))
  go_ret
  exact ⟨ret_bool (uh HN).symm,rfl⟩
 | false =>
  have HN : Hid (nameB s = (lowB s || upB s)):=hide (by unfold nameB eqW; rw [hk,hn]; simp)
  clear hk
  cases hl : lowB s with
  | true =>
   rw [hl] at HN
   go_enter Tryz.func125,Tryz.ntmps125
   go_wp2_with (first | (go_at_call 75; refine (lower_any _ _).mono ?_; rintro e w' ⟨rfl,rfl⟩) | (go_at_call 76; refine (upper_any _ _).mono ?_; rintro e w' ⟨rfl,rfl⟩))
   go_ret
   exact ⟨ret_bool (uh HN).symm,rfl⟩
  | false =>
   rw [hl] at HN
   go_enter Tryz.func125,Tryz.ntmps125
   go_wp2_with (first | (go_at_call 75; refine (lower_any _ _).mono ?_; rintro e w' ⟨rfl,rfl⟩) | (go_at_call 76; refine (upper_any _ _).mono ?_; rintro e w' ⟨rfl,rfl⟩))
   go_ret
   exact ⟨ret_bool (uh HN).symm,rfl⟩
def fndL : List ByteArray → ByteArray → Nat
 | [],_=>0
 | x :: r,k=>if eqW x k then 0 else fndL r k + 1
theorem fndL_le (l : List ByteArray) (c : ByteArray) : fndL l c ≤ l.length:=by
 induction l with
 | nil=>simp [fndL]
 | cons x r ih=>simp only [fndL]; split <;> simp <;> omega
theorem fndL_hit (l : List ByteArray) (c : ByteArray) (k : Nat) (hk : k < l.length) (hn : ∀ j,(hj : j < l.length) → j < k → eqW l[j] c = false) (h : eqW l[k] c = true) : fndL l c = k:=by
 induction l generalizing k with
 | nil=>simp at hk
 | cons x r ih =>
  cases k with
  | zero=>simp only [List.getElem_cons_zero] at h; simp [fndL,h]
  | succ k =>
   have h0 : eqW x c = false:=hn 0 (by simp) (by omega)
   simp only [fndL,h0]
   rw [ih k (by simpa using hk) (fun j hj hjk=>hn (j + 1) (by simpa using hj) (by omega)) (by simpa using h)]
   simp
theorem fndL_miss (l : List ByteArray) (c : ByteArray) (hn : ∀ j,(hj : j < l.length) → eqW l[j] c = false) : fndL l c = l.length:=by
 induction l with
 | nil=>rfl
 | cons x r ih =>
  have h0 : eqW x c = false:=hn 0 (by simp)
  simp only [fndL,h0,List.length_cons]
  rw [ih (fun j hj=>hn (j + 1) (by simpa using hj))]
  simp
set_option maxRecDepth 100000 in
set_option maxHeartbeats 1000000 in
theorem find_any {w : World} {v : Value} {l : List ByteArray} (c : ByteArray) (h : Strs w v l) (_hl : l.length ≤ 20000) :
  Calls Tryz.prog 48 #[v,.int .i64 0,.string c] w fun e w'=>e = .returned (.int .i64 (fndL l c)) ∧ w' = w:=by
 obtain ⟨ao,cap,rfl,hn,hm,hc⟩:=h
 have HC:=hide hc
 clear hc
 unfold maxLen at hm
 go_enter Tryz.func48,Tryz.ntmps48
 go_wp2_with fail
 go_loop [1] (fun i=>∃ k : Nat,k ≤ l.length ∧ i = .int .i64 k ∧ Hid (∀ j,(hj : j < l.length) → j < k → eqW l[j] c = false)) (fun i=>l.length - (intOf i).toNat)
 case atStart=>exact ⟨0,Nat.zero_le _,rfl,fun _ _ h=>absurd h (by omega)⟩
 case round =>
  obtain ⟨k,hk,rfl,hall⟩:=hrel
  by_cases hlt : k < l.length
  ·obtain ⟨g,off,hao,hcell⟩:=uh HC (by intro h; rw [h] at hlt; simp at hlt)
   have hcx:=hcell k hlt
   clear hcell
   rw [hao]
   cases he : (l[k].toList == c.toList) with
   | true =>
    go_wp2_with fail
    go_ret
    exact ⟨ret_int (by rw [fndL_hit l c k hlt hall.out he]),rfl⟩
   | false =>
    go_wp2_with fail
    go_round
    case rel =>
     refine ⟨k + 1,by omega,by go_num,fun j hj hjk=>?_⟩
     by_cases hjk' : j = k
     ·subst hjk'; exact he
     ·exact hall.out j hj (by omega)
    case measure=>simp [intOf]; omega
  ·have hd : decide ((k : Int) < (l.length : Int)) = false:=by simp; omega
   go_wp2_with fail
   go_ret
   exact ⟨ret_int (by rw [fndL_miss l c (fun j hj=>hall.out j hj (by omega))]; omega),rfl⟩
def amI (l : List ByteArray) (c : ByteArray) : Int:=if fndL l c < l.length then fndL l c else -1
set_option maxRecDepth 100000 in
set_option maxHeartbeats 1000000 in
theorem among_any {w : World} {v : Value} {l : List ByteArray} (c : ByteArray) (h : Strs w v l) (_hl : l.length ≤ 40000) :
  Calls Tryz.prog 77 #[v,.string c] w fun e w'=>e = .returned (.int .i64 (amI l c)) ∧ w' = w:=by
 obtain ⟨ao,cap,rfl,hn,hm,hc⟩:=h
 have HC:=hide hc
 clear hc
 unfold maxLen at hm
 go_enter Tryz.func77,Tryz.ntmps77
 go_wp2_with fail
 go_loop [5] (fun i=>∃ k : Nat,k ≤ l.length ∧ i = .int .i64 k ∧ Hid (∀ j,(hj : j < l.length) → j < k → eqW l[j] c = false)) (fun i=>l.length - (intOf i).toNat)
 case atStart=>exact ⟨0,Nat.zero_le _,rfl,fun _ _ h=>absurd h (by omega)⟩
 case round =>
  obtain ⟨k,hk,rfl,hall⟩:=hrel
  by_cases hlt : k < l.length
  ·obtain ⟨g,off,hao,hcell⟩:=uh HC (by intro h; rw [h] at hlt; simp at hlt)
   have hcx:=hcell k hlt
   clear hcell
   rw [hao]
   cases he : (l[k].toList == c.toList) with
   | true =>
    go_wp2_with fail
    go_ret
    exact ⟨ret_int (by unfold amI; rw [fndL_hit l c k hlt hall.out he,if_pos hlt]),rfl⟩
   | false =>
    go_wp2_with fail
    go_round
    case rel =>
     refine ⟨k + 1,by omega,by go_num,fun j hj hjk=>?_⟩
     by_cases hjk' : j = k
     ·subst hjk'; exact he
     ·exact hall.out j hj (by omega)
    case measure=>simp [intOf]; omega
  ·have hd : decide ((k : Int) < (l.length : Int)) = false:=by simp; omega
   go_wp2_with fail
   go_ret
   exact ⟨ret_int (by unfold amI; rw [fndL_miss l c (fun j hj=>hall.out j hj (by omega)),if_neg (by omega)]),rfl⟩
def lbW : ByteArray:=⟨#[123]⟩
def rbW : ByteArray:=⟨#[125]⟩
def clo : Nat → List ByteArray → Option Nat
 | _,[]=>none
 | d,x :: r=>if eqW x lbW then (clo (d + 1) r).map (· + 1) else if eqW x rbW then (if d = 1 then some 0 else (clo (d - 1) r).map (· + 1)) else (clo d r).map (· + 1)
def shI (l : List ByteArray) (i : Nat) : Int:=match clo 1 (l.drop (i + 1)) with | some j=>(i + 1 + j : Nat) | none=>-1
theorem clo_cons {l : List ByteArray} {k : Nat} (hk : k < l.length) (d : Nat) : clo d (l.drop k) = if eqW l[k] lbW then (clo (d + 1) (l.drop (k + 1))).map (· + 1) else if eqW l[k] rbW then (if d = 1 then some 0 else (clo (d - 1) (l.drop (k + 1))).map (· + 1)) else (clo d (l.drop (k + 1))).map (· + 1):=by
 rw [List.drop_eq_getElem_cons hk]; rfl
theorem map_add (o : Option Nat) (k i : Nat) (h : i ≤ k) : (o.map (· + 1)).map (· + (k - i)) = o.map (· + (k + 1 - i)):=by
 cases o with
 | none=>rfl
 | some x=>simp only [Option.map_some]; congr 1; omega
theorem clo_open {l : List ByteArray} {i k d : Nat} (hk : k < l.length) (hi : i + 1 ≤ k) (h1 : eqW l[k] lbW = true) (h : clo 1 (l.drop (i + 1)) = (clo d (l.drop k)).map (· + (k - (i + 1)))) :
  clo 1 (l.drop (i + 1)) = (clo (d + 1) (l.drop (k + 1))).map (· + (k + 1 - (i + 1))):=by
 rw [h,clo_cons hk,if_pos h1,map_add _ _ _ hi]
theorem clo_shut {l : List ByteArray} {i k d : Nat} (hk : k < l.length) (hi : i + 1 ≤ k) (hd : ¬ d = 1) (h1 : eqW l[k] lbW = false) (h2 : eqW l[k] rbW = true) (h : clo 1 (l.drop (i + 1)) = (clo d (l.drop k)).map (· + (k - (i + 1)))) :
  clo 1 (l.drop (i + 1)) = (clo (d - 1) (l.drop (k + 1))).map (· + (k + 1 - (i + 1))):=by
 rw [h,clo_cons hk,if_neg (by simp [h1]),if_pos h2,if_neg hd,map_add _ _ _ hi]
theorem clo_else {l : List ByteArray} {i k d : Nat} (hk : k < l.length) (hi : i + 1 ≤ k) (h1 : eqW l[k] lbW = false) (h2 : eqW l[k] rbW = false) (h : clo 1 (l.drop (i + 1)) = (clo d (l.drop k)).map (· + (k - (i + 1)))) :
  clo 1 (l.drop (i + 1)) = (clo d (l.drop (k + 1))).map (· + (k + 1 - (i + 1))):=by
 rw [h,clo_cons hk,if_neg (by simp [h1]),if_neg (by simp [h2]),map_add _ _ _ hi]
theorem clo_end {l : List ByteArray} {i k : Nat} (hk : k < l.length) (hi : i + 1 ≤ k) (h1 : eqW l[k] lbW = false) (h2 : eqW l[k] rbW = true) (h : clo 1 (l.drop (i + 1)) = (clo 1 (l.drop k)).map (· + (k - (i + 1)))) :
  shI l i = (k : Int):=by
 unfold shI
 rw [h,clo_cons hk,if_neg (by simp [h1]),if_pos h2,if_pos rfl]
 simp only [Option.map_some]
 omega
set_option maxRecDepth 100000 in
set_option maxHeartbeats 2000000 in
theorem shut_any {w : World} {v : Value} {l : List ByteArray} (i : Nat) (h : Strs w v l) (_hl : l.length ≤ 20000) (hi : i < l.length) (hb : eqW l[i] lbW = true) :
  Calls Tryz.prog 49 #[v,.int .i64 (i : Int)] w fun e w'=>e = .returned (.int .i64 (shI l i)) ∧ w' = w:=by
 obtain ⟨ao,cap,rfl,hn,hm,hc⟩:=h
 have HC:=hide hc
 clear hc
 unfold maxLen at hm
 have kl : lbW.toList = [123]:=ByteArray.toList_eq _
 have kr : rbW.toList = [125]:=ByteArray.toList_eq _
 have HB:=hide hb
 clear hb
 have HKL:=hide kl
 have HKR:=hide kr
 clear kl kr
 go_enter Tryz.func49,Tryz.ntmps49
 go_wp2_with fail
 go_loop [5,6] (fun o j=>∃ (k d : Nat),k ≤ l.length ∧ j = .int .i64 k ∧ o = .int .i64 d ∧ d ≤ k ∧ ((k = i ∧ d = 0) ∨ (i + 1 ≤ k ∧ 1 ≤ d ∧ Hid (clo 1 (l.drop (i + 1)) = (clo d (l.drop k)).map (· + (k - (i + 1))))))) (fun _ j=>l.length - (intOf j).toNat)
 case atStart=>exact ⟨i,0,by omega,rfl,rfl,by omega,Or.inl ⟨rfl,rfl⟩⟩
 case round =>
  obtain ⟨k,d,hk,rfl,rfl,hdk,hcase⟩:=hrel
  by_cases hlt : k < l.length
  ·obtain ⟨g,off,hao,hcell⟩:=uh HC (by intro h; rw [h] at hlt; simp at hlt)
   have hcx:=hcell k hlt
   clear hcell
   rw [hao]
   rcases hcase with ⟨rfl,rfl⟩ | ⟨hki,hd1,heq⟩
   ·have hx : (l[k].toList == [123]) = true:=by rw [← uh HKL]; exact uh HB
    have hy : (l[k].toList == [125]) = false:=by
     have e : l[k].toList = [123]:=by simpa using hx
     rw [e]; rfl
    go_wp2_with fail
    go_round
    case rel=>exact ⟨k + 1,1,by omega,by go_num,by go_num,by omega,Or.inr ⟨by omega,by omega,hide (by simp)⟩⟩
    case measure=>simp [intOf]; omega
   ·cases hx : (l[k].toList == [123]) with
    | true =>
     have hy : (l[k].toList == [125]) = false:=by
      have e : l[k].toList = [123]:=by simpa using hx
      rw [e]; rfl
     have hne : (((d : Int) + 1) == 0) = false:=by simp; omega
     have HE : Hid (clo 1 (l.drop (i + 1)) = (clo (d + 1) (l.drop (k + 1))).map (· + (k + 1 - (i + 1)))):=hide (clo_open hlt hki (by unfold eqW; rw [uh HKL]; exact hx) (uh heq))
     clear heq
     go_wp2_with fail
     go_round
     case rel=>exact ⟨k + 1,d + 1,by omega,by go_num,by go_num,by omega,Or.inr ⟨by omega,by omega,HE⟩⟩
     case measure=>simp [intOf]; omega
    | false =>
     cases hy : (l[k].toList == [125]) with
     | true =>
      by_cases hd2 : d = 1
      ·subst hd2
       have HE : Hid (shI l i = (k : Int)):=hide (clo_end hlt hki (by unfold eqW; rw [uh HKL]; exact hx) (by unfold eqW; rw [uh HKR]; exact hy) (uh heq))
       clear heq
       go_wp2_with fail
       go_ret
       exact ⟨ret_int (uh HE).symm,rfl⟩
      ·have hne : (((d : Int) - 1) == 0) = false:=by simp; omega
       have HE : Hid (clo 1 (l.drop (i + 1)) = (clo (d - 1) (l.drop (k + 1))).map (· + (k + 1 - (i + 1)))):=hide (clo_shut hlt hki hd2 (by unfold eqW; rw [uh HKL]; exact hx) (by unfold eqW; rw [uh HKR]; exact hy) (uh heq))
       clear heq
       go_wp2_with fail
       go_round
       case rel=>exact ⟨k + 1,d - 1,by omega,by go_num,by congr 1; omega,by omega,Or.inr ⟨by omega,by omega,HE⟩⟩
       case measure=>simp [intOf]; omega
     | false =>
      have hne : (((d : Int)) == 0) = false:=by simp; omega
      have HE : Hid (clo 1 (l.drop (i + 1)) = (clo d (l.drop (k + 1))).map (· + (k + 1 - (i + 1)))):=hide (clo_else hlt hki (by unfold eqW; rw [uh HKL]; exact hx) (by unfold eqW; rw [uh HKR]; exact hy) (uh heq))
      clear heq
      go_wp2_with fail
      go_round
      case rel=>exact ⟨k + 1,d,by omega,by go_num,rfl,by omega,Or.inr ⟨by omega,by omega,HE⟩⟩
      case measure=>simp [intOf]; omega
  ·have hd : decide ((k : Int) < (l.length : Int)) = false:=by simp; omega
   have HE : Hid (shI l i = -1):=hide (by
    rcases hcase with ⟨h1,_⟩ | ⟨hki,hd1,heq⟩
    ·omega
    ·unfold shI; rw [uh heq,List.drop_eq_nil_of_le (by omega)]; rfl)
   clear hcase
   go_wp2_with fail
   go_ret
   exact ⟨ret_int (uh HE).symm,rfl⟩
theorem ext_one (u : ByteArray) (k : Nat) (h : k < u.size) : u.extract k (k + 1) = ⟨#[u[k]]⟩:=by
 rw [Lib.extract_eq]
 have hl : k < u.data.toList.length:=by rw [size_toList]; exact h
 rw [List.drop_eq_getElem_cons hl]
 simp only [Nat.add_sub_cancel_left,List.take_succ_cons,List.take_zero]
 rfl
def conB (S : ByteArray) (c : UInt8) : Bool:=S.data.toList.contains c
set_option maxRecDepth 100000 in
set_option maxHeartbeats 1000000 in
theorem has_any (S : ByteArray) (c : UInt8) (w : World) (hS : S.size ≤ 1000) :
  Calls Tryz.prog 71 #[.string S,.string ⟨#[c]⟩] w fun e w'=>e = .returned (.bool (conB S c)) ∧ w' = w:=by
 go_enter Tryz.func71,Tryz.ntmps71
 go_wp2_with fail
 go_loop [5] (fun i=>∃ k : Nat,k ≤ S.size ∧ i = .int .i64 k ∧ Hid (∀ j,(hj : j < S.data.toList.length) → j < k → S.data.toList[j] ≠ c)) (fun i=>S.size - (intOf i).toNat)
 case atStart=>exact ⟨0,Nat.zero_le _,rfl,fun _ _ h=>absurd h (by omega)⟩
 case round =>
  obtain ⟨k,hk,rfl,hall⟩:=hrel
  by_cases hlt : k < S.size
  ·have hlt' : k < S.data.toList.length:=by rw [size_toList]; exact hlt
   have HX : Hid ((S.extract k (k + 1)).toList = [S.data.toList[k]]):=hide (by rw [ext_one S k hlt,ByteArray.toList_eq]; rfl)
   have kc : (⟨#[c]⟩ : ByteArray).toList = [c]:=ByteArray.toList_eq _
   cases he : ((S.extract k (k + 1)).toList == [c]) with
   | true =>
    go_wp2_with fail
    go_ret
    refine ⟨ret_bool ?_,rfl⟩
    rw [uh HX] at he
    have : S.data.toList[k] = c:=by simpa using he
    rw [eq_comm,conB,List.contains_iff_mem,← this]
    exact List.getElem_mem _
   | false =>
    go_wp2_with fail
    go_round
    case rel =>
     refine ⟨k + 1,by omega,by go_num,fun j hj hjk=>?_⟩
     by_cases hjk' : j = k
     ·subst hjk'; intro e; rw [uh HX,e] at he; simp at he
     ·exact hall.out j hj (by omega)
    case measure=>simp [intOf]; omega
  ·have hd : decide ((k : Int) + 1 ≤ (S.size : Int)) = false:=by simp; omega
   go_wp2_with fail
   go_ret
   refine ⟨ret_bool ?_,rfl⟩
   rw [eq_comm,conB,← Bool.not_eq_true,List.contains_iff_mem]
   intro hm
   obtain ⟨j,hj,e⟩:=List.getElem_of_mem hm
   exact hall.out j hj (by rw [size_toList] at hj; omega) e
def lettersS : ByteArray:=⟨#[97,98,99,100,101,102,103,104,105,106,107,108,109,110,111,112,113,114,115,116,117,118,119,120,121,122,65,66,67,68,69,70,71,72,73,74,75,76,77,78,79,80,81,82,83,84,85,86,87,88,89,90]⟩
def signsS : ByteArray:=⟨#[61,42,40,41,44,59,123,125,46]⟩
theorem all_u8 (p : UInt8 → Bool) (h : ∀ n,n < 256 → p (UInt8.ofNat n) = true) (c : UInt8) : p c = true:=by
 have:=h c.toNat (by have:=c.toNat_lt; omega)
 simpa using this
theorem letters_has (c : UInt8) : conB lettersS c = letB c:=by
 have:=all_u8 (fun c=>conB lettersS c == letB c) (by decide +kernel) c
 simpa using this
theorem signs_has (c : UInt8) : conB signsS c = signB c.toNat:=by
 have:=all_u8 (fun c=>conB signsS c == signB c.toNat) (by decide +kernel) c
 simpa using this
theorem hasL_any (c : UInt8) (w : World) : Calls Tryz.prog 71 #[.string ⟨#[97,98,99,100,101,102,103,104,105,106,107,108,109,110,111,112,113,114,115,116,117,118,119,120,121,122,65,66,67,68,69,70,71,72,73,74,75,76,77,78,79,80,81,82,83,84,85,86,87,88,89,90]⟩,.string ⟨#[c]⟩] w fun e w'=>e = .returned (.bool (letB c)) ∧ w' = w:=by
 have:=has_any lettersS c w (by decide)
 rw [letters_has] at this
 exact this
theorem hasS_any (c : UInt8) (w : World) : Calls Tryz.prog 71 #[.string ⟨#[61,42,40,41,44,59,123,125,46]⟩,.string ⟨#[c]⟩] w fun e w'=>e = .returned (.bool (signB c.toNat)) ∧ w' = w:=by
 have:=has_any signsS c w (by decide)
 rw [signs_has] at this
 exact this
def Got2 (l : List UInt8) (u : ByteArray) (ws : List ByteArray) : Prop:=spl l = (spl u.data.toList).map (ws.map (·.data.toList) ++ ·)
theorem Got2.stop {l : List UInt8} {u : ByteArray} {ws : List ByteArray} (h : Got2 l u ws) (hu : u.size = 0) : spl l = some (ws.map (·.data.toList)):=by
 unfold Got2 at h
 have : u.data.toList = []:=List.eq_nil_of_length_eq_zero (by rw [size_toList]; exact hu)
 rw [h,this,spl_nil]; simp
theorem Got2.cons {u : ByteArray} (hu : 0 < u.size) : u.data.toList = u[0] :: u.data.toList.drop 1:=by
 have:=List.drop_eq_getElem_cons (l:=u.data.toList) (i:=0) (by rw [size_toList]; exact hu)
 rw [List.drop_zero] at this
 exact this
theorem Got2.blank {l : List UInt8} {u : ByteArray} {ws : List ByteArray} (h : Got2 l u ws) (hu : 0 < u.size) (hb : u[0] = 32 ∨ u[0] = 10) : Got2 l (u.extract 1 u.size) ws:=by
 unfold Got2 at *
 rw [h,Got2.cons hu,spl_blank _ _ hb,Lib.extract_data,List.take_of_length_le (by rw [List.length_drop,size_toList]; omega)]
theorem Got2.none {l : List UInt8} {u : ByteArray} {ws : List ByteArray} (h : Got2 l u ws) (hu : 0 < u.size) (hb : ¬ (u[0] = 32 ∨ u[0] = 10)) (h0 : wordLen u.data.toList = 0) : spl l = .none:=by
 unfold Got2 at *
 rw [Got2.cons hu] at h0 h
 rw [h,spl_none _ _ hb h0]; rfl
theorem Got2.word {l : List UInt8} {u : ByteArray} {ws : List ByteArray} {n : Nat} (h : Got2 l u ws) (hu : 0 < u.size) (hb : ¬ (u[0] = 32 ∨ u[0] = 10)) (hn : wordLen u.data.toList = n) (h0 : n ≠ 0) : Got2 l (u.extract n u.size) (ws ++ [u.extract 0 n]):=by
 subst hn
 unfold Got2 at *
 have e1 : (u.extract (wordLen u.data.toList) u.size).data.toList = u.data.toList.drop (wordLen u.data.toList):=by
  rw [Lib.extract_data,List.take_of_length_le (by rw [List.length_drop,size_toList]; omega)]
 have e2 : (u.extract 0 (wordLen u.data.toList)).data.toList = u.data.toList.take (wordLen u.data.toList):=by
  rw [Lib.extract_data]; simp
 have e3 : spl u.data.toList = (spl (u.data.toList.drop (wordLen u.data.toList))).map (u.data.toList.take (wordLen u.data.toList) :: ·):=by
  have:=spl_word u[0] (u.data.toList.drop 1) hb (by rw [← Got2.cons hu]; exact h0)
  rw [← Got2.cons hu] at this
  exact this
 rw [h,e1,e3,Option.map_map]
 congr 1
 funext x
 simp only [Function.comp,List.map_append,List.map_cons,List.map_nil,e2,List.append_assoc,List.singleton_append]
theorem not_blank_let {c : UInt8} (h : letB c = true) : ¬ (c = 32 ∨ c = 10):=by
 rintro (rfl | rfl) <;> exact absurd h (by decide)
theorem lettersN_pos {u : ByteArray} (hu : 0 < u.size) (h : 0 < lettersN u.data.toList) : letB u[0] = true:=by
 rw [Got2.cons hu] at h
 cases hl : letB u[0] with
 | true=>rfl
 | false=>simp [lettersN,hl] at h
structure Ins where
 op : ByteArray
 x : ByteArray
 y : ByteArray
 cond : ByteArray
 to : Nat
 head : Bool
def Ins.cells (i : Ins) : List Value:=[.string i.op,.string i.x,.string i.y,.string i.cond,.int .i64 i.to,.bool i.head]
def em : ByteArray:=⟨#[]⟩
def insZ : Ins:=⟨em,em,em,em,0,false⟩
def testW : ByteArray:=⟨#[116,101,115,116]⟩
def starW : ByteArray:=⟨#[42]⟩
def eqSW : ByteArray:=⟨#[61]⟩
def neSW : ByteArray:=⟨#[33,61]⟩
def rcB (l : List ByteArray) : Bool:=match l with
 | [a]=>eqW a starW
 | [a,b,c]=>lowB a && (lowB c || eqW c nilW) && (eqW b eqSW || eqW b neSW)
 | _=>false
def rcI (l : List ByteArray) : Ins:=match l with
 | [a,b,c]=>⟨testW,a,c,b,0,false⟩
 | _=>⟨testW,em,em,starW,0,false⟩
theorem nilW_l : nilW.toList = [110,105,108]:=ByteArray.toList_eq _
theorem starW_l : starW.toList = [42]:=ByteArray.toList_eq _
theorem eqSW_l : eqSW.toList = [61]:=ByteArray.toList_eq _
theorem neSW_l : neSW.toList = [33,61]:=ByteArray.toList_eq _
theorem cells6s {w : World} {r : Nat} {a b c d e f : Value} {T : TypeId} (h : w.heap[r]? = some (.cells #[a,b,c,d,e,f] T (0,0))) :
  w.cell? ⟨r,0,none⟩ = some a ∧ w.cell? ⟨r,1,none⟩ = some b ∧ w.cell? ⟨r,2,none⟩ = some c ∧ w.cell? ⟨r,3,none⟩ = some d ∧ w.cell? ⟨r,4,none⟩ = some e ∧ w.cell? ⟨r,5,none⟩ = some f:=by
 refine ⟨?_,?_,?_,?_,?_,?_⟩ <;> simp [World.cell?,h]
set_option maxRecDepth 100000 in
set_option maxHeartbeats 2000000 in
theorem cond_three (a b c : ByteArray) (g off cap : Nat) (w : World) (hg : g < w.heap.size) (c0 : w.cell? ⟨g,off,none⟩ = some (.string a)) (c1 : w.cell? ⟨g,off + 1,none⟩ = some (.string b)) (c2 : w.cell? ⟨g,off + 2,none⟩ = some (.string c)) (bb : Bool)
  (hcase : (bb = false ∧ lowB a = false) ∨ (bb = false ∧ lowB a = true ∧ lowB c = false ∧ (c.toList == [110,105,108]) = false) ∨
   (lowB a = true ∧ lowB c = true ∧ ((bb = true ∧ (b.toList == [61]) = true) ∨ (bb = true ∧ (b.toList == [61]) = false ∧ (b.toList == [33,61]) = true) ∨ (bb = false ∧ (b.toList == [61]) = false ∧ (b.toList == [33,61]) = false))) ∨
   (lowB a = true ∧ lowB c = false ∧ (c.toList == [110,105,108]) = true ∧ ((bb = true ∧ (b.toList == [61]) = true) ∨ (bb = true ∧ (b.toList == [61]) = false ∧ (b.toList == [33,61]) = true) ∨ (bb = false ∧ (b.toList == [61]) = false ∧ (b.toList == [33,61]) = false)))) :
  Calls Tryz.prog 126 #[.slice (some ⟨g,off,none⟩) 3 cap] w fun e w'=>e = .returned (.tuple #[.agg #[.string ⟨#[116,101,115,116]⟩,.string a,.string c,.string b,.int .i64 0,.bool false],.bool bb]) ∧ Below w.heap.size w w':=by
 rcases hcase with ⟨rfl,h1⟩ | ⟨rfl,h1,h2,h3⟩ | ⟨h1,h2,(⟨rfl,h4⟩ | ⟨rfl,h4,h5⟩ | ⟨rfl,h4,h5⟩)⟩ | ⟨h1,h2,h3,(⟨rfl,h4⟩ | ⟨rfl,h4,h5⟩ | ⟨rfl,h4,h5⟩)⟩
 all_goals
  go_enter Tryz.func126,Tryz.ntmps126
  go_wp2_with (go_at_call 75; refine (lower_any _ _).mono ?_; rintro e w' ⟨rfl,rfl⟩)
  go_region
  go_wp2_with fail
  exact bodyPost_ret (v:=.tuple #[.agg #[.string ⟨#[116,101,115,116]⟩,.string a,.string c,.string b,.int .i64 0,.bool false],.bool _]) (by simp [results,Tryz.results126,go_sem]) rfl ⟨rfl,by repeat (first | exact Below.refl _ _ | apply Below.drew | (refine Below.alloc ?_ (Nat.le_refl _) _))⟩
set_option maxRecDepth 100000 in
set_option maxHeartbeats 2000000 in
theorem cond_one (a : ByteArray) (g off cap : Nat) (w : World) (hg : g < w.heap.size) (c0 : w.cell? ⟨g,off,none⟩ = some (.string a)) (h : (a.toList == [42]) = true) :
  Calls Tryz.prog 126 #[.slice (some ⟨g,off,none⟩) 1 cap] w fun e w'=>e = .returned (.tuple #[.agg #[.string ⟨#[116,101,115,116]⟩,.string ⟨#[]⟩,.string ⟨#[]⟩,.string ⟨#[42]⟩,.int .i64 0,.bool false],.bool true]) ∧ Below w.heap.size w w':=by
 go_enter Tryz.func126,Tryz.ntmps126
 go_wp2_with fail
 exact bodyPost_ret (v:=.tuple #[.agg #[.string ⟨#[116,101,115,116]⟩,.string ⟨#[]⟩,.string ⟨#[]⟩,.string ⟨#[42]⟩,.int .i64 0,.bool false],.bool true]) (by simp [results,Tryz.results126,go_sem]) rfl ⟨rfl,by repeat (first | exact Below.refl _ _ | apply Below.drew | (refine Below.alloc ?_ (Nat.le_refl _) _))⟩
set_option maxRecDepth 100000 in
set_option maxHeartbeats 2000000 in
theorem cond_oneF (a : ByteArray) (g off cap : Nat) (w : World) (hg : g < w.heap.size) (c0 : w.cell? ⟨g,off,none⟩ = some (.string a)) (h : (a.toList == [42]) = false) :
  Calls Tryz.prog 126 #[.slice (some ⟨g,off,none⟩) 1 cap] w fun e w'=>e = .returned (.tuple #[.agg #[.string ⟨#[]⟩,.string ⟨#[]⟩,.string ⟨#[]⟩,.string ⟨#[]⟩,.int .i64 0,.bool false],.bool false]) ∧ Below w.heap.size w w':=by
 go_enter Tryz.func126,Tryz.ntmps126
 go_wp2_with fail
 exact bodyPost_ret (v:=.tuple #[.agg #[.string ⟨#[]⟩,.string ⟨#[]⟩,.string ⟨#[]⟩,.string ⟨#[]⟩,.int .i64 0,.bool false],.bool false]) (by simp [results,Tryz.results126,go_sem]) rfl ⟨rfl,by repeat (first | exact Below.refl _ _ | apply Below.drew | (refine Below.alloc ?_ (Nat.le_refl _) _))⟩
set_option maxRecDepth 100000 in
set_option maxHeartbeats 2000000 in
theorem cond_other (ao : Option Addr) (n cap : Nat) (w : World) (h1 : ((n : Int) == 1) = false) (h3 : ((n : Int) != 3) = true) :
  Calls Tryz.prog 126 #[.slice ao n cap] w fun e w'=>e = .returned (.tuple #[.agg #[.string ⟨#[]⟩,.string ⟨#[]⟩,.string ⟨#[]⟩,.string ⟨#[]⟩,.int .i64 0,.bool false],.bool false]) ∧ Below w.heap.size w w':=by
 go_enter Tryz.func126,Tryz.ntmps126
 go_wp2_with fail
 exact bodyPost_ret (v:=.tuple #[.agg #[.string ⟨#[]⟩,.string ⟨#[]⟩,.string ⟨#[]⟩,.string ⟨#[]⟩,.int .i64 0,.bool false],.bool false]) (by simp [results,Tryz.results126,go_sem]) rfl ⟨rfl,by repeat (first | exact Below.refl _ _ | apply Below.drew | (refine Below.alloc ?_ (Nat.le_refl _) _))⟩
theorem Strs.open1 {w : World} {v : Value} {a : ByteArray} (h : Strs w v [a]) : ∃ g off cap,v = .slice (some ⟨g,off,none⟩) 1 cap ∧ g < w.heap.size ∧ w.cell? ⟨g,off,none⟩ = some (.string a):=by
 obtain ⟨ao,cap,rfl,hn,hm,hc⟩:=h
 obtain ⟨g,off,rfl,hcell⟩:=hc (by simp)
 have h0:=hcell 0 (by simp)
 exact ⟨g,off,cap,rfl,World.block_lt_of_cell? w _ h0,h0⟩
theorem Strs.open3 {w : World} {v : Value} {a b c : ByteArray} (h : Strs w v [a,b,c]) : ∃ g off cap,v = .slice (some ⟨g,off,none⟩) 3 cap ∧ g < w.heap.size ∧ w.cell? ⟨g,off,none⟩ = some (.string a) ∧ w.cell? ⟨g,off + 1,none⟩ = some (.string b) ∧ w.cell? ⟨g,off + 2,none⟩ = some (.string c):=by
 obtain ⟨ao,cap,rfl,hn,hm,hc⟩:=h
 obtain ⟨g,off,rfl,hcell⟩:=hc (by simp)
 have h0:=hcell 0 (by simp)
 exact ⟨g,off,cap,rfl,World.block_lt_of_cell? w _ h0,h0,hcell 1 (by simp),hcell 2 (by simp)⟩
theorem rcond_any {w : World} {v : Value} {l : List ByteArray} (h : Strs w v l) :
  Calls Tryz.prog 126 #[v] w fun e w'=>(∃ i : Ins,e = .returned (.tuple #[.agg i.cells.toArray,.bool (rcB l)]) ∧ (rcB l = true → i = rcI l)) ∧ Below w.heap.size w w':=by
 match l,h with
 | [a],h =>
  obtain ⟨g,off,cap,rfl,hg,c0⟩:=h.open1
  have hb : rcB [a] = (a.toList == [42]):=by simp only [rcB,eqW,starW_l]
  cases ha : (a.toList == [42]) with
  | true =>
   refine (cond_one a g off cap w hg c0 ha).mono ?_
   rintro e w' ⟨rfl,hbl⟩
   exact ⟨⟨⟨testW,em,em,starW,0,false⟩,by rw [hb,ha]; rfl,fun _=>rfl⟩,hbl⟩
  | false =>
   refine (cond_oneF a g off cap w hg c0 ha).mono ?_
   rintro e w' ⟨rfl,hbl⟩
   exact ⟨⟨insZ,by rw [hb,ha]; rfl,fun h=>by rw [hb,ha] at h; cases h⟩,hbl⟩
 | [a,b,c],h =>
  obtain ⟨g,off,cap,rfl,hg,c0,c1,c2⟩:=h.open3
  have hb : rcB [a,b,c] = (lowB a && (lowB c || c.toList == [110,105,108]) && (b.toList == [61] || b.toList == [33,61])):=by simp only [rcB,eqW,nilW_l,eqSW_l,neSW_l]
  refine (cond_three a b c g off cap w hg c0 c1 c2 (rcB [a,b,c]) ?_).mono ?_
  ·rw [hb]
   cases lowB a <;> cases lowB c <;> cases (c.toList == [110,105,108]) <;> cases (b.toList == [61]) <;> cases (b.toList == [33,61]) <;> simp
  ·rintro e w' ⟨rfl,hbl⟩
   exact ⟨⟨⟨testW,a,c,b,0,false⟩,rfl,fun _=>rfl⟩,hbl⟩
 | [],h =>
  obtain ⟨ao,cap,rfl,_⟩:=h
  refine (cond_other ao 0 cap w rfl rfl).mono ?_
  rintro e w' ⟨rfl,hbl⟩
  exact ⟨⟨insZ,rfl,fun h=>by cases h⟩,hbl⟩
 | [a,b],h =>
  obtain ⟨ao,cap,rfl,_⟩:=h
  refine (cond_other ao 2 cap w rfl rfl).mono ?_
  rintro e w' ⟨rfl,hbl⟩
  exact ⟨⟨insZ,rfl,fun h=>by cases h⟩,hbl⟩
 | a :: b :: c :: d :: r,h =>
  obtain ⟨ao,cap,rfl,_⟩:=h
  refine (cond_other ao _ cap w (by simp; omega) (by simp; omega)).mono ?_
  rintro e w' ⟨rfl,hbl⟩
  exact ⟨⟨insZ,rfl,fun h=>by cases h⟩,hbl⟩
structure RAt where
 k : ByteArray
 a : ByteArray
 b : ByteArray
def RAt.cells (i : RAt) : List Value:=[.string i.k,.string i.a,.string i.b]
def empW : ByteArray:=⟨#[101,109,112]⟩
def lsW : ByteArray:=⟨#[108,115]⟩
def toW : ByteArray:=⟨#[45,62]⟩
def opW : ByteArray:=⟨#[40]⟩
def cmW : ByteArray:=⟨#[44]⟩
def clW : ByteArray:=⟨#[41]⟩
theorem empW_l : empW.toList = [101,109,112]:=ByteArray.toList_eq _
theorem lsW_l : lsW.toList = [108,115]:=ByteArray.toList_eq _
theorem toW_l : toW.toList = [45,62]:=ByteArray.toList_eq _
theorem opW_l : opW.toList = [40]:=ByteArray.toList_eq _
theorem cmW_l : cmW.toList = [44]:=ByteArray.toList_eq _
theorem clW_l : clW.toList = [41]:=ByteArray.toList_eq _
def raB (l : List ByteArray) : Bool:=match l with
 | [a]=>eqW a empW
 | [a,b,c]=>nameB a && nameB c && (eqW b eqSW || eqW b neSW || eqW b toW)
 | [a,b,c,d,e,f]=>eqW a lsW && eqW b opW && eqW d cmW && eqW f clW && (nameB c && nameB e)
 | _=>false
def raE (l : List ByteArray) : Bool:=match l with | [_]=>true | _=>false
def raA (l : List ByteArray) : RAt:=match l with
 | [a,b,c]=>⟨b,a,c⟩
 | [_,_,c,_,e,_]=>⟨lsW,c,e⟩
 | _=>⟨em,em,em⟩
set_option maxRecDepth 100000 in
set_option maxHeartbeats 2000000 in
theorem atom_one (a : ByteArray) (g off cap : Nat) (w : World) (hg : g < w.heap.size) (c0 : w.cell? ⟨g,off,none⟩ = some (.string a)) (h : (a.toList == [101,109,112]) = true) :
  Calls Tryz.prog 72 #[.slice (some ⟨g,off,none⟩) 1 cap] w fun e w'=>e = .returned (.tuple #[.agg #[.string ⟨#[]⟩,.string ⟨#[]⟩,.string ⟨#[]⟩],.bool true,.bool true]) ∧ Below w.heap.size w w':=by
 go_enter Tryz.func72,Tryz.ntmps72
 go_wp2_with fail
 exact bodyPost_ret (v:=.tuple #[.agg #[.string ⟨#[]⟩,.string ⟨#[]⟩,.string ⟨#[]⟩],.bool true,.bool true]) (by simp [results,Tryz.results72,go_sem]) rfl ⟨rfl,by repeat (first | exact Below.refl _ _ | apply Below.drew | (refine Below.alloc ?_ (Nat.le_refl _) _))⟩
set_option maxRecDepth 100000 in
set_option maxHeartbeats 2000000 in
theorem atom_oneF (a : ByteArray) (g off cap : Nat) (w : World) (hg : g < w.heap.size) (c0 : w.cell? ⟨g,off,none⟩ = some (.string a)) (h : (a.toList == [101,109,112]) = false) :
  Calls Tryz.prog 72 #[.slice (some ⟨g,off,none⟩) 1 cap] w fun e w'=>e = .returned (.tuple #[.agg #[.string ⟨#[]⟩,.string ⟨#[]⟩,.string ⟨#[]⟩],.bool false,.bool false]) ∧ Below w.heap.size w w':=by
 go_enter Tryz.func72,Tryz.ntmps72
 go_wp2_with fail
 exact bodyPost_ret (v:=.tuple #[.agg #[.string ⟨#[]⟩,.string ⟨#[]⟩,.string ⟨#[]⟩],.bool false,.bool false]) (by simp [results,Tryz.results72,go_sem]) rfl ⟨rfl,by repeat (first | exact Below.refl _ _ | apply Below.drew | (refine Below.alloc ?_ (Nat.le_refl _) _))⟩
set_option maxRecDepth 100000 in
set_option maxHeartbeats 2000000 in
theorem atom_other (ao : Option Addr) (n cap : Nat) (w : World) (h1 : ((n : Int) == 1) = false) (h3 : ((n : Int) == 3) = false) (h6 : ((n : Int) == 6) = false) :
  Calls Tryz.prog 72 #[.slice ao n cap] w fun e w'=>e = .returned (.tuple #[.agg #[.string ⟨#[]⟩,.string ⟨#[]⟩,.string ⟨#[]⟩],.bool false,.bool false]) ∧ Below w.heap.size w w':=by
 go_enter Tryz.func72,Tryz.ntmps72
 go_wp2_with fail
 exact bodyPost_ret (v:=.tuple #[.agg #[.string ⟨#[]⟩,.string ⟨#[]⟩,.string ⟨#[]⟩],.bool false,.bool false]) (by simp [results,Tryz.results72,go_sem]) rfl ⟨rfl,by repeat (first | exact Below.refl _ _ | apply Below.drew | (refine Below.alloc ?_ (Nat.le_refl _) _))⟩
set_option maxRecDepth 100000 in
set_option maxHeartbeats 4000000 in
theorem atom_three (a b c : ByteArray) (g off cap : Nat) (w : World) (hg : g < w.heap.size) (c0 : w.cell? ⟨g,off,none⟩ = some (.string a)) (c1 : w.cell? ⟨g,off + 1,none⟩ = some (.string b)) (c2 : w.cell? ⟨g,off + 2,none⟩ = some (.string c)) (x y z : Bool)
  (hx : nameB a = x) (hy : nameB c = y)
  (hz : (z = true ∧ (b.toList == [61]) = true) ∨ (z = true ∧ (b.toList == [61]) = false ∧ (b.toList == [33,61]) = true) ∨ (z = true ∧ (b.toList == [61]) = false ∧ (b.toList == [33,61]) = false ∧ (b.toList == [45,62]) = true) ∨ (z = false ∧ (b.toList == [61]) = false ∧ (b.toList == [33,61]) = false ∧ (b.toList == [45,62]) = false)) :
  Calls Tryz.prog 72 #[.slice (some ⟨g,off,none⟩) 3 cap] w fun e w'=>e = .returned (.tuple #[.agg #[.string b,.string a,.string c],.bool false,.bool (x && y && z)]) ∧ Below w.heap.size w w':=by
 rcases hz with ⟨rfl,h4⟩ | ⟨rfl,h4,h5⟩ | ⟨rfl,h4,h5,h6⟩ | ⟨rfl,h4,h5,h6⟩ <;> cases x <;> cases y
 all_goals
  go_enter Tryz.func72,Tryz.ntmps72
  go_wp2_with (go_at_call 125; refine (name_any _ _).mono ?_; rintro e w' ⟨rfl,rfl⟩)
  go_region
  go_wp2_with fail
  exact bodyPost_ret (v:=.tuple #[.agg #[.string b,.string a,.string c],.bool false,.bool _]) (by simp [results,Tryz.results72,go_sem]) rfl ⟨rfl,by repeat (first | exact Below.refl _ _ | apply Below.drew | (refine Below.alloc ?_ (Nat.le_refl _) _))⟩
set_option maxRecDepth 100000 in
set_option maxHeartbeats 4000000 in
theorem atom_six (a b c d e f : ByteArray) (g off cap : Nat) (w : World) (hg : g < w.heap.size) (c0 : w.cell? ⟨g,off,none⟩ = some (.string a)) (c1 : w.cell? ⟨g,off + 1,none⟩ = some (.string b)) (c2 : w.cell? ⟨g,off + 2,none⟩ = some (.string c)) (c3 : w.cell? ⟨g,off + 3,none⟩ = some (.string d)) (c4 : w.cell? ⟨g,off + 4,none⟩ = some (.string e)) (c5 : w.cell? ⟨g,off + 5,none⟩ = some (.string f)) (x y : Bool)
  (hx : nameB c = x) (hy : nameB e = y) (h0 : (a.toList == [108,115]) = true) (h1 : (b.toList == [40]) = true) (h2 : (d.toList == [44]) = true) (h3 : (f.toList == [41]) = true) :
  Calls Tryz.prog 72 #[.slice (some ⟨g,off,none⟩) 6 cap] w fun e' w'=>e' = .returned (.tuple #[.agg #[.string ⟨#[108,115]⟩,.string c,.string e],.bool false,.bool (x && y)]) ∧ Below w.heap.size w w':=by
 cases x <;> cases y
 all_goals
  go_enter Tryz.func72,Tryz.ntmps72
  go_wp2_with (go_at_call 125; refine (name_any _ _).mono ?_; rintro e w' ⟨rfl,rfl⟩)
  go_region
  go_wp2_with fail
  exact bodyPost_ret (v:=.tuple #[.agg #[.string ⟨#[108,115]⟩,.string c,.string e],.bool false,.bool _]) (by simp [results,Tryz.results72,go_sem]) rfl ⟨rfl,by repeat (first | exact Below.refl _ _ | apply Below.drew | (refine Below.alloc ?_ (Nat.le_refl _) _))⟩
set_option maxRecDepth 100000 in
set_option maxHeartbeats 4000000 in
theorem atom_sixF (a b d f : ByteArray) (g off cap : Nat) (w : World) (hg : g < w.heap.size) (c0 : w.cell? ⟨g,off,none⟩ = some (.string a)) (c1 : w.cell? ⟨g,off + 1,none⟩ = some (.string b)) (c3 : w.cell? ⟨g,off + 3,none⟩ = some (.string d)) (c5 : w.cell? ⟨g,off + 5,none⟩ = some (.string f))
  (hc : (a.toList == [108,115]) = false ∨ ((a.toList == [108,115]) = true ∧ (b.toList == [40]) = false) ∨ ((a.toList == [108,115]) = true ∧ (b.toList == [40]) = true ∧ (d.toList == [44]) = false) ∨ ((a.toList == [108,115]) = true ∧ (b.toList == [40]) = true ∧ (d.toList == [44]) = true ∧ (f.toList == [41]) = false)) :
  Calls Tryz.prog 72 #[.slice (some ⟨g,off,none⟩) 6 cap] w fun e' w'=>e' = .returned (.tuple #[.agg #[.string ⟨#[]⟩,.string ⟨#[]⟩,.string ⟨#[]⟩],.bool false,.bool false]) ∧ Below w.heap.size w w':=by
 rcases hc with h0 | ⟨h0,h1⟩ | ⟨h0,h1,h2⟩ | ⟨h0,h1,h2,h3⟩
 all_goals
  go_enter Tryz.func72,Tryz.ntmps72
  go_wp2_with fail
  exact bodyPost_ret (v:=.tuple #[.agg #[.string ⟨#[]⟩,.string ⟨#[]⟩,.string ⟨#[]⟩],.bool false,.bool false]) (by simp [results,Tryz.results72,go_sem]) rfl ⟨rfl,by repeat (first | exact Below.refl _ _ | apply Below.drew | (refine Below.alloc ?_ (Nat.le_refl _) _))⟩
theorem Strs.open6 {w : World} {v : Value} {a b c d e f : ByteArray} (h : Strs w v [a,b,c,d,e,f]) : ∃ g off cap,v = .slice (some ⟨g,off,none⟩) 6 cap ∧ g < w.heap.size ∧ w.cell? ⟨g,off,none⟩ = some (.string a) ∧ w.cell? ⟨g,off + 1,none⟩ = some (.string b) ∧ w.cell? ⟨g,off + 2,none⟩ = some (.string c) ∧ w.cell? ⟨g,off + 3,none⟩ = some (.string d) ∧ w.cell? ⟨g,off + 4,none⟩ = some (.string e) ∧ w.cell? ⟨g,off + 5,none⟩ = some (.string f):=by
 obtain ⟨ao,cap,rfl,hn,hm,hc⟩:=h
 obtain ⟨g,off,rfl,hcell⟩:=hc (by simp)
 have h0:=hcell 0 (by simp)
 exact ⟨g,off,cap,rfl,World.block_lt_of_cell? w _ h0,h0,hcell 1 (by simp),hcell 2 (by simp),hcell 3 (by simp),hcell 4 (by simp),hcell 5 (by simp)⟩
theorem ratom_any {w : World} {v : Value} {l : List ByteArray} (h : Strs w v l) :
  Calls Tryz.prog 72 #[v] w fun e w'=>(∃ (i : RAt) (m : Bool),e = .returned (.tuple #[.agg i.cells.toArray,.bool m,.bool (raB l)]) ∧ (raB l = true → i = raA l ∧ m = raE l)) ∧ Below w.heap.size w w':=by
 match l,h with
 | [a],h =>
  obtain ⟨g,off,cap,rfl,hg,c0⟩:=h.open1
  have hb : raB [a] = (a.toList == [101,109,112]):=by simp only [raB,eqW,empW_l]
  cases ha : (a.toList == [101,109,112]) with
  | true =>
   refine (atom_one a g off cap w hg c0 ha).mono ?_
   rintro e w' ⟨rfl,hbl⟩
   exact ⟨⟨⟨em,em,em⟩,true,by rw [hb,ha]; rfl,fun _=>⟨rfl,rfl⟩⟩,hbl⟩
  | false =>
   refine (atom_oneF a g off cap w hg c0 ha).mono ?_
   rintro e w' ⟨rfl,hbl⟩
   exact ⟨⟨⟨em,em,em⟩,false,by rw [hb,ha]; rfl,fun h=>by rw [hb,ha] at h; cases h⟩,hbl⟩
 | [a,b,c],h =>
  obtain ⟨g,off,cap,rfl,hg,c0,c1,c2⟩:=h.open3
  have hb : raB [a,b,c] = (nameB a && nameB c && (b.toList == [61] || b.toList == [33,61] || b.toList == [45,62])):=by simp only [raB,eqW,eqSW_l,neSW_l,toW_l]
  refine (atom_three a b c g off cap w hg c0 c1 c2 (nameB a) (nameB c) (b.toList == [61] || b.toList == [33,61] || b.toList == [45,62]) rfl rfl ?_).mono ?_
  ·cases (b.toList == [61]) <;> cases (b.toList == [33,61]) <;> cases (b.toList == [45,62]) <;> simp
  ·rintro e w' ⟨rfl,hbl⟩
   exact ⟨⟨⟨b,a,c⟩,false,by rw [hb]; rfl,fun _=>⟨rfl,rfl⟩⟩,hbl⟩
 | [a,b,c,d,e,f],h =>
  obtain ⟨g,off,cap,rfl,hg,c0,c1,c2,c3,c4,c5⟩:=h.open6
  have hb : raB [a,b,c,d,e,f] = (a.toList == [108,115] && b.toList == [40] && d.toList == [44] && f.toList == [41] && (nameB c && nameB e)):=by simp only [raB,eqW,lsW_l,opW_l,cmW_l,clW_l]
  cases h0 : (a.toList == [108,115]) with
  | false =>
   refine (atom_sixF a b d f g off cap w hg c0 c1 c3 c5 (Or.inl h0)).mono ?_
   rintro e w' ⟨rfl,hbl⟩
   exact ⟨⟨⟨em,em,em⟩,false,by rw [hb,h0]; rfl,fun h=>by rw [hb,h0] at h; cases h⟩,hbl⟩
  | true =>
   cases h1 : (b.toList == [40]) with
   | false =>
    refine (atom_sixF a b d f g off cap w hg c0 c1 c3 c5 (Or.inr (Or.inl ⟨h0,h1⟩))).mono ?_
    rintro e w' ⟨rfl,hbl⟩
    exact ⟨⟨⟨em,em,em⟩,false,by rw [hb,h0,h1]; rfl,fun h=>by rw [hb,h0,h1] at h; cases h⟩,hbl⟩
   | true =>
    cases h2 : (d.toList == [44]) with
    | false =>
     refine (atom_sixF a b d f g off cap w hg c0 c1 c3 c5 (Or.inr (Or.inr (Or.inl ⟨h0,h1,h2⟩)))).mono ?_
     rintro e w' ⟨rfl,hbl⟩
     exact ⟨⟨⟨em,em,em⟩,false,by rw [hb,h0,h1,h2]; rfl,fun h=>by rw [hb,h0,h1,h2] at h; cases h⟩,hbl⟩
    | true =>
     cases h3 : (f.toList == [41]) with
     | false =>
      refine (atom_sixF a b d f g off cap w hg c0 c1 c3 c5 (Or.inr (Or.inr (Or.inr ⟨h0,h1,h2,h3⟩)))).mono ?_
      rintro e w' ⟨rfl,hbl⟩
      exact ⟨⟨⟨em,em,em⟩,false,by rw [hb,h0,h1,h2,h3]; rfl,fun h=>by rw [hb,h0,h1,h2,h3] at h; cases h⟩,hbl⟩
     | true =>
      refine (atom_six a b c d e f g off cap w hg c0 c1 c2 c3 c4 c5 (nameB c) (nameB e) rfl rfl h0 h1 h2 h3).mono ?_
      rintro e' w' ⟨rfl,hbl⟩
      exact ⟨⟨⟨lsW,c,e⟩,false,by rw [hb,h0,h1,h2,h3]; simp; rfl,fun _=>⟨rfl,rfl⟩⟩,hbl⟩
 | [],h =>
  obtain ⟨ao,cap,rfl,_⟩:=h
  refine (atom_other ao 0 cap w rfl rfl rfl).mono ?_
  rintro e w' ⟨rfl,hbl⟩
  exact ⟨⟨⟨em,em,em⟩,false,rfl,fun h=>by cases h⟩,hbl⟩
 | [_,_],h =>
  obtain ⟨ao,cap,rfl,_⟩:=h
  refine (atom_other ao 2 cap w rfl rfl rfl).mono ?_
  rintro e w' ⟨rfl,hbl⟩
  exact ⟨⟨⟨em,em,em⟩,false,rfl,fun h=>by cases h⟩,hbl⟩
 | [_,_,_,_],h =>
  obtain ⟨ao,cap,rfl,_⟩:=h
  refine (atom_other ao 4 cap w rfl rfl rfl).mono ?_
  rintro e w' ⟨rfl,hbl⟩
  exact ⟨⟨⟨em,em,em⟩,false,rfl,fun h=>by cases h⟩,hbl⟩
 | [_,_,_,_,_],h =>
  obtain ⟨ao,cap,rfl,_⟩:=h
  refine (atom_other ao 5 cap w rfl rfl rfl).mono ?_
  rintro e w' ⟨rfl,hbl⟩
  exact ⟨⟨⟨em,em,em⟩,false,rfl,fun h=>by cases h⟩,hbl⟩
 | _ :: _ :: _ :: _ :: _ :: _ :: _ :: r,h =>
  obtain ⟨ao,cap,rfl,_⟩:=h
  refine (atom_other ao _ cap w (by simp; omega) (by simp; omega) (by simp; omega)).mono ?_
  rintro e w' ⟨rfl,hbl⟩
  exact ⟨⟨⟨em,em,em⟩,false,rfl,fun h=>by cases h⟩,hbl⟩
theorem Strs.part {w : World} {v : Value} {l : List ByteArray} (h : Strs w v l) {ao : Option Addr} {n cap : Nat} (hv : v = .slice ao n cap) (i j : Nat) (hij : i ≤ j) (hj : j ≤ l.length) (a : Option Addr)
  (ha : ∀ g off,ao = some ⟨g,off,none⟩ → i < cap → a = some ⟨g,off + i,none⟩) : Strs w (.slice a (j - i) (cap - i)) ((l.drop i).take (j - i)):=by
 obtain ⟨ao',cap',hv',hn,hm,hc⟩:=h
 rw [hv] at hv'
 simp only [Value.slice.injEq] at hv'
 obtain ⟨rfl,rfl,rfl⟩:=hv'
 have hlen : ((l.drop i).take (j - i)).length = j - i:=by simp; omega
 refine ⟨a,cap - i,by rw [hlen],by rw [hlen]; omega,by omega,fun hne=>?_⟩
 have hij' : i < j:=by
  rcases Nat.lt_or_ge i j with h | h
  ·exact h
  ·exact absurd (List.eq_nil_of_length_eq_zero (by rw [hlen]; omega)) hne
 obtain ⟨g,off,hao,hcell⟩:=hc (by intro e; rw [e] at hj; simp at hj; omega)
 refine ⟨g,off + i,ha g off hao (by omega),fun k hk=>?_⟩
 rw [hlen] at hk
 have:=hcell (i + k) (by omega)
 rw [Nat.add_assoc,this]
 simp
def raCells (l : List RAt) : List Value:=l.flatMap RAt.cells
theorem raCells_snoc (l : List RAt) (a : RAt) : raCells (l ++ [a]) = raCells l ++ a.cells:=by simp [raCells]
theorem RAt.one (a : RAt) : ∀ u ∈ a.cells,u.oneCell' = true:=by
 intro u hu; simp [RAt.cells] at hu; rcases hu with rfl | rfl | rfl <;> rfl
theorem Tryz.infoRAt : (Tryz.prog.info? 139).map (fun i=>(i.zero,i.size,i.bytes)) = some (some (.agg #[.string ⟨#[]⟩,.string ⟨#[]⟩,.string ⟨#[]⟩]),3,48):=by kernel_rfl
def pce (l : List ByteArray) : List RAt:=if raE l then [] else [raA l]
def rfo : List ByteArray → List ByteArray → Option (List RAt)
 | cur,[]=>if raB cur then some (pce cur) else none
 | cur,x :: r=>if eqW x starW then (if raB cur then (rfo [] r).map (pce cur ++ ·) else none) else rfo (cur ++ [x]) r
theorem new_cellsR (w : World) (b : Nat) (hb : b = w.heap.size) (xs : List Value) (T : TypeId) : ∀ (j : Nat) (u : Value),xs[j]? = some u → (w.alloc (.cells xs.toArray T)).cell? ((⟨b,0,none⟩ : Addr).add j) = some u:=by
 intro j u hj
 subst hb
 rw [show (⟨w.heap.size,0,none⟩ : Addr).add j = ⟨w.heap.size,j,none⟩ by unfold Addr.add; split <;> simp_all]
 rw [World.cell?_alloc_mark]
 simpa using hj
def FoAt (l : List ByteArray) (k f : Nat) (al : List RAt) : Prop :=
 (k ≤ l.length ∧ f ≤ k ∧ rfo [] l = (rfo ((l.drop f).take (k - f)) (l.drop k)).map (al ++ ·)) ∨ (k = l.length + 1 ∧ rfo [] l = some al)
theorem FoAt.start (l : List ByteArray) : FoAt l 0 0 []:=Or.inl ⟨Nat.zero_le _,Nat.le_refl _,by simp⟩
theorem FoAt.word {l : List ByteArray} {k f : Nat} {al : List RAt} (h : FoAt l k f al) (hk : k < l.length) (hx : eqW l[k] starW = false) : FoAt l (k + 1) f al:=by
 rcases h with ⟨h1,h2,h3⟩ | ⟨h1,_⟩
 ·refine Or.inl ⟨by omega,by omega,?_⟩
  rw [h3,List.drop_eq_getElem_cons hk,rfo,if_neg (by simp [hx])]
  congr 2
  rw [show k + 1 - f = (k - f) + 1 by omega,List.take_succ_eq_append_getElem (by simp; omega)]
  congr 2
  simp only [List.getElem_drop]
  congr 1
  omega
 ·omega
theorem FoAt.bad {l : List ByteArray} {k f : Nat} {al : List RAt} (h : FoAt l k f al) (hk : k ≤ l.length) (hx : (hk : k < l.length) → eqW l[k] starW = true) (hb : raB ((l.drop f).take (k - f)) = false) : rfo [] l = none:=by
 rcases h with ⟨h1,h2,h3⟩ | ⟨h1,_⟩
 ·rw [h3]
  by_cases hlt : k < l.length
  ·rw [List.drop_eq_getElem_cons hlt,rfo,if_pos (hx hlt),if_neg (by simp [hb])]; rfl
  ·have hdk : l.drop k = []:=List.drop_eq_nil_of_le (by omega)
   rw [hdk,rfo,if_neg (by simp [hb])]; rfl
 ·omega
theorem FoAt.good {l : List ByteArray} {k f : Nat} {al : List RAt} (h : FoAt l k f al) (hk : k ≤ l.length) (hx : (hk : k < l.length) → eqW l[k] starW = true) (hb : raB ((l.drop f).take (k - f)) = true) : FoAt l (k + 1) (k + 1) (al ++ pce ((l.drop f).take (k - f))):=by
 rcases h with ⟨h1,h2,h3⟩ | ⟨h1,_⟩
 ·by_cases hlt : k < l.length
  ·refine Or.inl ⟨by omega,by omega,?_⟩
   rw [h3,List.drop_eq_getElem_cons hlt,rfo,if_pos (hx hlt),if_pos hb,Option.map_map]
   simp only [Nat.sub_self,List.take_zero]
   congr 1
   funext x
   simp
  ·refine Or.inr ⟨by omega,?_⟩
   have hdk : l.drop k = []:=List.drop_eq_nil_of_le (by omega)
   rw [h3,hdk,rfo,if_pos hb]; rfl
 ·omega
theorem FoAt.stop {l : List ByteArray} {k f : Nat} {al : List RAt} (h : FoAt l k f al) (hk : ¬ k ≤ l.length) : rfo [] l = some al:=by
 rcases h with ⟨h1,h2,h3⟩ | ⟨_,h⟩
 ·omega
 ·exact h
theorem rowBelow2 {w w' : World} {B : Nat} {e : TypeId} {sz n : Nat} {v : Value} {xs : List Value} (h : w.ownsRow B e sz v n xs) (hb : Below w.heap.size w w') : w'.ownsRow B e sz v n xs:=by
 refine ⟨h.1,?_⟩
 rcases h.2 with hn | ⟨g,cap,cur,rfl,hB,hg,rest⟩
 ·exact .inl hn
 ·exact .inr ⟨g,cap,cur,rfl,hB,by rw [hb.block g (Array.getElem?_eq_some_iff.1 hg).1]; exact hg,rest⟩
theorem rapp {W w' w1 : World} {e : TypeId} {sz n : Nat} {v : Value} {xs : List Value} {o o' : Obj} (hown : w'.ownsRow W.heap.size e sz v n xs) (hbl : Below W.heap.size W w') (hg : ((w'.alloc o).alloc o').grownBy w1 v.ownBlock) : Below W.heap.size W w1 :=
 ((hbl.alloc hbl.size o).alloc (by have:=hbl.size; simp; omega) o').grown hg (by have:=hbl.size; simp; omega) (fun k hk=>(hown.lt k hk).1)
set_option maxRecDepth 100000 in
set_option maxHeartbeats 4000000 in
theorem rformula_some {w : World} {l : List ByteArray} {g off cap : Nat} (h : Strs w (.slice (some ⟨g,off,none⟩) l.length cap) l) (hne : l ≠ []) (hl : l.length ≤ 20000) :
  Calls Tryz.prog 50 #[.slice (some ⟨g,off,none⟩) l.length cap] w fun e w'=>Below w.heap.size w w' ∧
   ((rfo [] l = none ∧ e = .returned (.tuple #[.slice none 0 0,.bool false])) ∨ ∃ al v,rfo [] l = some al ∧ w'.ownsRow w.heap.size 139 3 v al.length (raCells al) ∧ e = .returned (.tuple #[v,.bool true])):=by
 obtain ⟨i0,hi,hz0,hz1,hz2⟩:=info_parts Tryz.infoRAt
 have HST:=hide h
 obtain ⟨ao,cap',hv,hn,hm,hc⟩:=h
 simp only [Value.slice.injEq] at hv
 obtain ⟨rfl,_,rfl⟩:=hv
 have hcell : ∀ j,(hj : j < l.length) → w.cell? ⟨g,off + j,none⟩ = some (.string l[j]):=by
  obtain ⟨g',off',hao,hcell⟩:=hc hne
  simp only [Option.some.injEq,Addr.mk.injEq] at hao
  obtain ⟨rfl,rfl,_⟩:=hao
  exact hcell
 have HC:=hide hcell
 clear hc hcell
 unfold maxLen at hm
 obtain ⟨n,hnl⟩ : ∃ n,n = l.length:=⟨_,rfl⟩
 have HNL:=hide hnl
 rw [← hnl] at hn hl HST ⊢
 clear hnl hne
 go_enter Tryz.func50,Tryz.ntmps50
 go_wp2_with fail
 go_loopw [4,5,6] (fun out fr i wr=>∃ (k f : Nat) (al : List RAt),i = .int .i64 k ∧ fr = .int .i64 f ∧ k ≤ n + 1 ∧ f ≤ k ∧ al.length ≤ k ∧ wr.ownsRow w.heap.size 139 3 out al.length (raCells al) ∧ Below w.heap.size w wr ∧ Hid (FoAt l k f al)) (fun _ _ i _=>n + 1 - (intOf i).toNat)
 case atStart=>exact ⟨0,0,[],rfl,rfl,Nat.zero_le _,Nat.le_refl _,Nat.le_refl _,World.ownsRow_nil _ _ _ _,Below.refl _ _,FoAt.start l⟩
 case round =>
  obtain ⟨k,f,al,rfl,rfl,hkn,hfk,hak,hown,hbl,hfo⟩:=hrel
  have hsz:=hbl.size
  by_cases hle : k ≤ n
  ·by_cases hcont : ∃ hlt : k < l.length,eqW l[k] starW = false
   ·obtain ⟨hlt,hx⟩:=hcont
    have hlt' : k < n:=by rw [uh HNL]; exact hlt
    have hcx : wr.cell? ⟨g,off + k,none⟩ = some (.string l[k]):=by
     rw [hbl.cell (World.block_lt_of_cell? w _ (uh HC k hlt))]; exact uh HC k hlt
    have hx' : (l[k].toList == [42]) = false:=by rw [← starW_l]; exact hx
    go_wp2_with fail
    go_roundw
    case rel=>exact ⟨k + 1,f,al,by go_num,rfl,by omega,by omega,by omega,hown,hbl,hfo.out.word hlt hx⟩
    case measure=>simp [intOf]; omega
   ·have HX : Hid ((hk : k < l.length) → eqW l[k] starW = true):=hide (fun hk=>by
     cases hx : eqW l[k] starW with
     | true=>rfl
     | false=>exact absurd ⟨hk,hx⟩ hcont)
    clear hcont
    have hle' : k ≤ l.length:=by rw [← uh HNL]; exact hle
    have HP : ∀ a,(f < cap → a = some ⟨g,off + f,none⟩) → Hid (Strs wr (.slice a (k - f) (cap - f)) ((l.drop f).take (k - f))):=fun a ha=>hide (((uh HST).part rfl f k hfk hle' a (fun g' off' e hlt=>by simp only [Option.some.injEq,Addr.mk.injEq] at e; obtain ⟨rfl,rfl,_⟩:=e; exact ha hlt)).below hbl)
    cases hrb : raB ((l.drop f).take (k - f)) with
    | false =>
     have HRB:=hide hrb
     have HN : Hid (rfo [] l = none):=hide (hfo.out.bad hle' (uh HX) hrb)
     clear hrb
     by_cases hlt : k < n
     ·skip
      have hltl : k < l.length:=by rw [← uh HNL]; exact hlt
      have hx' : (l[k].toList == [42]) = true:=by rw [← starW_l]; exact uh HX hltl
      have hcx : wr.cell? ⟨g,off + k,none⟩ = some (.string l[k]):=by
       rw [hbl.cell (World.block_lt_of_cell? w _ (uh HC k hltl))]; exact uh HC k hltl
      have hfc : ¬ cap = f:=by omega
      have hat:=ratom_any (uh (HP (some ⟨g,off + f,none⟩) (fun _=>rfl)))
      rw [uh HRB] at hat
      have HAT:=hide hat
      clear hat
      go_wp2_with fail
      refine (uh HAT).mono ?_
      rintro e w2 ⟨⟨⟨x,y,z⟩,m,rfl,hra⟩,hb2⟩
      have HRA:=hide hra
      have HB2:=hide hb2
      clear hra hb2
      simp only [RAt.cells]
      go_wp2_with fail
      go_ret2
      exact ⟨(hbl.trans ((uh HB2).mono hsz)).alloc (by have:=(uh HB2).size; omega) _,Or.inl ⟨uh HN,rfl⟩⟩
     ·have hd : decide ((k : Int) < (n : Int)) = false:=by simp; omega
      by_cases hfc : cap = f
      ·obtain ⟨rfl,rfl,rfl⟩ : f = k ∧ cap = k ∧ n = k:=⟨by omega,by omega,by omega⟩
       have hat:=ratom_any (w:=wr) (v:=.slice (some ⟨g,off,none⟩) 0 0) (l:=[]) ⟨_,_,rfl,Nat.le_refl _,by decide,fun h=>absurd rfl h⟩
       rw [show raB [] = false from rfl] at hat
       have HAT:=hide hat
       clear hat HP HRB
       go_wp2_with fail
       refine (uh HAT).mono ?_
       rintro e w2 ⟨⟨⟨x,y,z⟩,m,rfl,hra⟩,hb2⟩
       have HB2:=hide hb2
       clear hra hb2
       simp only [RAt.cells]
       go_wp2_with fail
       go_ret2
       exact ⟨(hbl.trans ((uh HB2).mono hsz)).alloc (by have:=(uh HB2).size; omega) _,Or.inl ⟨uh HN,rfl⟩⟩
      ·skip
       have hat:=ratom_any (uh (HP (some ⟨g,off + f,none⟩) (fun _=>rfl)))
       rw [uh HRB] at hat
       have HAT:=hide hat
       clear hat
       go_wp2_with fail
       refine (uh HAT).mono ?_
       rintro e w2 ⟨⟨⟨x,y,z⟩,m,rfl,hra⟩,hb2⟩
       have HRA:=hide hra
       have HB2:=hide hb2
       clear hra hb2
       simp only [RAt.cells]
       go_wp2_with fail
       go_ret2
       exact ⟨(hbl.trans ((uh HB2).mono hsz)).alloc (by have:=(uh HB2).size; omega) _,Or.inl ⟨uh HN,rfl⟩⟩
    | true =>
     have HRB:=hide hrb
     have HG : Hid (FoAt l (k + 1) (k + 1) (al ++ pce ((l.drop f).take (k - f)))):=hide (hfo.out.good hle' (uh HX) hrb)
     clear hrb hfo
     by_cases hlt : k < n
     ·skip
      have hltl : k < l.length:=by rw [← uh HNL]; exact hlt
      have hx' : (l[k].toList == [42]) = true:=by rw [← starW_l]; exact uh HX hltl
      have hcx : wr.cell? ⟨g,off + k,none⟩ = some (.string l[k]):=by
       rw [hbl.cell (World.block_lt_of_cell? w _ (uh HC k hltl))]; exact uh HC k hltl
      have hfc : ¬ cap = f:=by omega
      have hat:=ratom_any (uh (HP (some ⟨g,off + f,none⟩) (fun _=>rfl)))
      rw [uh HRB] at hat
      have HAT:=hide hat
      clear hat
      go_wp2_with fail
      refine (uh HAT).mono ?_
      rintro e w2 ⟨⟨⟨x,y,z⟩,m,rfl,hra⟩,hb2⟩
      have HRA:=hide hra
      have HB2:=hide hb2
      clear hra hb2
      simp only [RAt.cells]
      obtain ⟨hra1,hra2⟩:=uh HRA trivial
      have hz2w:=(uh HB2).size
      cases m with
      | true =>
       have HP0 : Hid (pce ((l.drop f).take (k - f)) = []):=hide (by unfold pce; rw [← hra2]; rfl)
       clear hra1 hra2
       go_wp2_with fail
       go_roundw
       case rel=>exact ⟨k + 1,k + 1,al,by go_num,by go_num,by omega,Nat.le_refl _,by omega,(rowBelow2 hown (uh HB2)).alloc _,(hbl.trans ((uh HB2).mono hsz)).alloc (by omega) _,by have:=uh HG; rw [uh HP0,List.append_nil] at this; exact this⟩
       case measure=>simp [intOf]; omega
      | false =>
       have HP0 : Hid (pce ((l.drop f).take (k - f)) = [⟨x,y,z⟩]):=hide (by unfold pce; rw [← hra2,← hra1]; rfl)
       have hown2:=(rowBelow2 hown (uh HB2))
       have hbl2:=hbl.trans ((uh HB2).mono hsz)
       clear hra1 hra2
       go_wp2_with (at_builtin; refine wpList_append_own _ rfl (.tmp 40) (.tmp 42) 51 rfl w.heap.size 139 i0 _ 3 48 Tryz.underlying51 hi hz0 hz1 hz2 rfl (by decide) _ al.length (raCells al) rfl ((hown2.alloc _).alloc _) ⟨_,0,none⟩ 1 1 [.string x,.string y,.string z] rfl rfl (new_cellsR (w2.alloc _) _ (by simp) [.string x,.string y,.string z] _) (RAt.one ⟨x,y,z⟩) (by unfold maxLen; omega) (by omega) (by simp; omega) ?_)
       intro v' w3 hown3 hgrow3 _
       have R:=rapp hown2 hbl2 hgrow3
       have HO3:=hide hown3
       have HR:=hide R
       clear hown3 hgrow3 R
       go_wp2_with fail
       go_roundw
       case rel=>exact ⟨k + 1,k + 1,al ++ [⟨x,y,z⟩],by go_num,by go_num,by omega,Nat.le_refl _,by simp; omega,own_cast (uh HO3) (by simp) (by rw [raCells_snoc]; rfl),uh HR,by have:=uh HG; rw [uh HP0] at this; exact this⟩
       case measure=>simp [intOf]; omega
     ·have hd : decide ((k : Int) < (n : Int)) = false:=by simp; omega
      by_cases hfc : cap = f
      ·have hkf : k - f = 0:=by omega
       have hx:=uh HRB
       rw [hkf,List.take_zero] at hx
       cases hx
      ·skip
       have hat:=ratom_any (uh (HP (some ⟨g,off + f,none⟩) (fun _=>rfl)))
       rw [uh HRB] at hat
       have HAT:=hide hat
       clear hat
       go_wp2_with fail
       refine (uh HAT).mono ?_
       rintro e w2 ⟨⟨⟨x,y,z⟩,m,rfl,hra⟩,hb2⟩
       have HRA:=hide hra
       have HB2:=hide hb2
       clear hra hb2
       simp only [RAt.cells]
       obtain ⟨hra1,hra2⟩:=uh HRA trivial
       have hz2w:=(uh HB2).size
       cases m with
       | true =>
        have HP0 : Hid (pce ((l.drop f).take (k - f)) = []):=hide (by unfold pce; rw [← hra2]; rfl)
        clear hra1 hra2
        go_wp2_with fail
        go_roundw
        case rel=>exact ⟨k + 1,k + 1,al,by go_num,by go_num,by omega,Nat.le_refl _,by omega,(rowBelow2 hown (uh HB2)).alloc _,(hbl.trans ((uh HB2).mono hsz)).alloc (by omega) _,by have:=uh HG; rw [uh HP0,List.append_nil] at this; exact this⟩
        case measure=>simp [intOf]; omega
       | false =>
        have HP0 : Hid (pce ((l.drop f).take (k - f)) = [⟨x,y,z⟩]):=hide (by unfold pce; rw [← hra2,← hra1]; rfl)
        have hown2:=(rowBelow2 hown (uh HB2))
        have hbl2:=hbl.trans ((uh HB2).mono hsz)
        clear hra1 hra2
        go_wp2_with (at_builtin; refine wpList_append_own _ rfl (.tmp 40) (.tmp 42) 51 rfl w.heap.size 139 i0 _ 3 48 Tryz.underlying51 hi hz0 hz1 hz2 rfl (by decide) _ al.length (raCells al) rfl ((hown2.alloc _).alloc _) ⟨_,0,none⟩ 1 1 [.string x,.string y,.string z] rfl rfl (new_cellsR (w2.alloc _) _ (by simp) [.string x,.string y,.string z] _) (RAt.one ⟨x,y,z⟩) (by unfold maxLen; omega) (by omega) (by simp; omega) ?_)
        intro v' w3 hown3 hgrow3 _
        have R:=rapp hown2 hbl2 hgrow3
        have HO3:=hide hown3
        have HR:=hide R
        clear hown3 hgrow3 R
        go_wp2_with fail
        go_roundw
        case rel=>exact ⟨k + 1,k + 1,al ++ [⟨x,y,z⟩],by go_num,by go_num,by omega,Nat.le_refl _,by simp; omega,own_cast (uh HO3) (by simp) (by rw [raCells_snoc]; rfl),uh HR,by have:=uh HG; rw [uh HP0] at this; exact this⟩
        case measure=>simp [intOf]; omega
  ·have hd : decide ((k : Int) ≤ (n : Int)) = false:=by simp; omega
   go_wp2_with fail
   go_ret2
   exact ⟨hbl,Or.inr ⟨al,_,hfo.out.stop (by rw [← uh HNL]; exact hle),hown,rfl⟩⟩
set_option maxRecDepth 100000 in
set_option maxHeartbeats 400000 in
theorem rformula_nil {w : World} {ao : Option Addr} {cap : Nat} (hm : cap ≤ maxLen) :
  Calls Tryz.prog 50 #[.slice ao 0 cap] w fun e w'=>Below w.heap.size w w' ∧ e = .returned (.tuple #[.slice none 0 0,.bool false]):=by
 have hat : ∀ a c,c ≤ maxLen → Hid (Calls Tryz.prog 72 #[.slice a 0 c] w fun e w'=>(∃ (i : RAt) (m : Bool),e = .returned (.tuple #[.agg i.cells.toArray,.bool m,.bool false]) ∧ (false = true → i = raA [] ∧ m = raE [])) ∧ Below w.heap.size w w') :=
  fun a c hc=>hide (ratom_any (w:=w) (v:=.slice a 0 c) (l:=[]) ⟨_,_,rfl,Nat.zero_le _,hc,fun h=>absurd rfl h⟩)
 unfold maxLen at hm
 have HAT:=fun a=>hat a cap hm
 clear hat
 go_enter Tryz.func50,Tryz.ntmps50
 go_wp2_with fail
 go_loopw [4,5,6] (fun out fr i wr=>out = .slice none 0 0 ∧ fr = .int .i64 0 ∧ i = .int .i64 0 ∧ wr = w) (fun _ _ _ _=>0)
 case atStart=>exact ⟨rfl,rfl,rfl,rfl⟩
 case round =>
  obtain ⟨rfl,rfl,rfl,rfl⟩:=hrel
  go_wp2_with fail
  all_goals
   refine (uh (HAT _)).mono ?_
   rintro e w2 ⟨⟨⟨x,y,z⟩,m,rfl,_⟩,hb2⟩
   have HB2:=hide hb2
   clear hb2 HAT
   simp only [RAt.cells]
   go_wp2_with fail
   go_ret2
   exact ⟨(uh HB2).alloc (uh HB2).size _,rfl⟩
theorem rformula_any {w : World} {v : Value} {l : List ByteArray} (h : Strs w v l) (hl : l.length ≤ 20000) :
  Calls Tryz.prog 50 #[v] w fun e w'=>Below w.heap.size w w' ∧
   ((rfo [] l = none ∧ e = .returned (.tuple #[.slice none 0 0,.bool false])) ∨ ∃ al v,rfo [] l = some al ∧ w'.ownsRow w.heap.size 139 3 v al.length (raCells al) ∧ e = .returned (.tuple #[v,.bool true])):=by
 by_cases hne : l = []
 ·subst hne
  obtain ⟨ao,cap,rfl,_,hm,_⟩:=h
  refine (rformula_nil hm).mono ?_
  rintro e w' ⟨hb,rfl⟩
  exact ⟨hb,Or.inl ⟨rfl,rfl⟩⟩
 ·have h':=h
  obtain ⟨ao,cap,rfl,hn,hm,hc⟩:=h
  obtain ⟨g,off,rfl,_⟩:=hc hne
  exact rformula_some h' hne hl
end Go.Proofs.YtciihepbeacppaaGreat
