import Derived.Test.YtciihepbeacppaaGreatProg
import Derived.WalkKit
import Derived.WalkLawsBesides
import Derived.WalkSpells
import Derived.Lib.Strings
import Derived.Laws.BytesArg
import Derived.Laws.IdiomStrings
import Derived.Lib.AppendStr
import Derived.BigQuiet
import Derived.Deep.QuietTactic
import Derived.Deep.RegionLaw
namespace Go.Proofs.YtciihepbeacppaaGreat
open Go.RowKit
set_option linter.unusedVariables false
theorem hide {p:Prop} (h:p):Hid p:=h
theorem uh {p:Prop} (h:Hid p):p:=h
def smallB (c:Int):Bool:=decide (97≤c) && decide (c≤122)
def greatB (c:Int):Bool:=decide (65≤c) && decide (c≤90)
def lowB (w:ByteArray):Bool:=match w.data.toList with | [c]=>smallB c.toNat | _=>false
def upB (w:ByteArray):Bool:=match w.data.toList with | [c]=>greatB c.toNat | _=>false
def signB (c:Int):Bool:=c == 61 || c == 42 || c == 40 || c == 41 || c == 44 || c == 59 || c == 123 || c == 125 || c == 46
theorem ret_bool {a b:Bool} (h:a = b):Ending.returned (.bool a) = .returned (.bool b):=by rw [h]
theorem ret_int {k:IntKind} {a b:Int} (h:a = b):Ending.returned (.int k a) = .returned (.int k b):=by rw [h]
set_option maxHeartbeats 400000 in
theorem isSmall_any (c:Int) (w:World) :
  Calls Tryz.prog 209 #[.int .u8 c] w fun e w'=>e = .returned (.bool (smallB c))∧w' = w:=by
 by_cases h:97≤c
 ·go_enter Tryz.func209,Tryz.ntmps209
  go_wp2
  go_ret
  exact ⟨by simp [smallB,h],rfl⟩
 ·have hd:decide (97≤c) = false:=by simpa using h
  go_enter Tryz.func209,Tryz.ntmps209
  go_wp2
  go_ret
  exact ⟨by simp [smallB,hd],rfl⟩
set_option maxHeartbeats 400000 in
theorem isGreat_any (c:Int) (w:World) :
  Calls Tryz.prog 210 #[.int .u8 c] w fun e w'=>e = .returned (.bool (greatB c))∧w' = w:=by
 by_cases h:65≤c
 ·go_enter Tryz.func210,Tryz.ntmps210
  go_wp2
  go_ret
  exact ⟨by simp [greatB,h],rfl⟩
 ·have hd:decide (65≤c) = false:=by simpa using h
  go_enter Tryz.func210,Tryz.ntmps210
  go_wp2
  go_ret
  exact ⟨by simp [greatB,hd],rfl⟩
set_option maxHeartbeats 400000 in
theorem isSign_any (c:Int) (w:World) :
  Calls Tryz.prog 182 #[.int .u8 c] w fun e w'=>e = .returned (.bool (signB c))∧w' = w:=by
 go_enter Tryz.func182,Tryz.ntmps182
 go_wp2
 all_goals
  go_ret
  exact ⟨ret_bool (by simp [signB, *]),rfl⟩
theorem one_of_size (w:ByteArray) (h:w.size = 1):∃ c:UInt8,w = ⟨#[c]⟩:=by
 obtain ⟨⟨l⟩⟩:=w
 match l,h with
 | [c],_=>exact ⟨c,rfl⟩
theorem lowB_one (c:UInt8):lowB ⟨#[c]⟩ = smallB c.toNat:=rfl
theorem upB_one (c:UInt8):upB ⟨#[c]⟩ = greatB c.toNat:=rfl
theorem lowB_not (w:ByteArray) (h:w.size≠1):lowB w = false:=by
 obtain ⟨⟨l⟩⟩:=w
 match l,h with
 | [],_=>rfl
 | [_],h=>exact absurd rfl h
 | _ :: _ :: _,_=>rfl
theorem upB_not (w:ByteArray) (h:w.size≠1):upB w = false:=by
 obtain ⟨⟨l⟩⟩:=w
 match l,h with
 | [],_=>rfl
 | [_],h=>exact absurd rfl h
 | _ :: _ :: _,_=>rfl
theorem at_one (c:UInt8) (h:0 < (⟨#[c]⟩:ByteArray).size):(⟨#[c]⟩:ByteArray)[0]'h = c:=rfl
set_option maxHeartbeats 400000 in
theorem lower_any (s:ByteArray) (w:World) :
  Calls Tryz.prog 75 #[.string s] w fun e w'=>e = .returned (.bool (lowB s))∧w' = w:=by
 by_cases hs:s.size = 1
 ·obtain ⟨c,rfl⟩:=one_of_size s hs
  clear hs
  rw [lowB_one]
  go_enter Tryz.func75,Tryz.ntmps75
  go_wp2
  all_goals
   go_ret
   exact ⟨ret_bool (by simp only [at_one] at *;simp_all [smallB] <;> try (intro _;omega)),rfl⟩
 ·rw [lowB_not s hs]
  go_enter Tryz.func75,Tryz.ntmps75
  go_wp2
  go_ret
  exact ⟨rfl,rfl⟩
set_option maxHeartbeats 400000 in
theorem isVariable_any (s:ByteArray) (w:World) :
  Calls Tryz.prog 248 #[.string s] w fun e w'=>e = .returned (.bool (lowB s))∧w' = w:=by
 by_cases hs:s.size = 1
 ·obtain ⟨c,rfl⟩:=one_of_size s hs
  clear hs
  rw [lowB_one]
  go_enter Tryz.func248,Tryz.ntmps248
  go_wp2_with (go_at_call 209;refine (isSmall_any _ _).mono ?_;rintro e w' ⟨rfl,rfl⟩)
  go_ret
  exact ⟨rfl,rfl⟩
 ·rw [lowB_not s hs]
  go_enter Tryz.func248,Tryz.ntmps248
  go_wp2_with fail
  go_ret
  exact ⟨rfl,rfl⟩
set_option maxHeartbeats 400000 in
theorem isHidden_any (s:ByteArray) (w:World) :
  Calls Tryz.prog 211 #[.string s] w fun e w'=>e = .returned (.bool (upB s))∧w' = w:=by
 by_cases hs:s.size = 1
 ·obtain ⟨c,rfl⟩:=one_of_size s hs
  clear hs
  rw [upB_one]
  go_enter Tryz.func211,Tryz.ntmps211
  go_wp2_with (go_at_call 210;refine (isGreat_any _ _).mono ?_;rintro e w' ⟨rfl,rfl⟩)
  go_ret
  exact ⟨rfl,rfl⟩
 ·rw [upB_not s hs]
  go_enter Tryz.func211,Tryz.ntmps211
  go_wp2_with fail
  go_ret
  exact ⟨rfl,rfl⟩
def letB (c:UInt8):Bool:=smallB c.toNat || greatB c.toNat
def lettersN (l:List UInt8):Nat:=(l.takeWhile letB).length
theorem lettersN_le (l:List UInt8):lettersN l≤l.length:=by
 unfold lettersN
 induction l with
 | nil=>simp
 | cons c r ih=>rw [List.takeWhile_cons];split <;> simp <;> omega
theorem lettersN_drop (l:List UInt8) (k:Nat) (h:∀ j,(hj:j < l.length)→j < k→letB l[j] = true) (hk:k≤l.length):lettersN l = k + lettersN (l.drop k):=by
 induction k generalizing l with
 | zero=>simp
 | succ k ih =>
  match l,hk with
  | c :: r,hk =>
   have h0:letB c = true:=h 0 (by simp) (by omega)
   have:=ih r (fun j hj hjk=>h (j + 1) (by simp;omega) (by omega)) (by simpa using hk)
   simp only [List.drop_succ_cons]
   simp only [lettersN,List.takeWhile_cons,h0,if_true,List.length_cons] at this ⊢
   omega
theorem lettersN_stop (l:List UInt8) (k:Nat) (h:∀ j,(hj:j < l.length)→j < k→letB l[j] = true) (hk:k≤l.length) (hs:(hj:k < l.length)→letB l[k] = false):lettersN l = k:=by
 rw [lettersN_drop l k h hk]
 by_cases hlt:k < l.length
 ·rw [List.drop_eq_getElem_cons hlt]
  simp only [lettersN,List.takeWhile_cons,hs hlt]
  simp
 ·rw [List.drop_eq_nil_of_le (by omega)]
  rfl
theorem letters_step {l:List UInt8} {k:Nat} (h:∀ j,(hj:j < l.length)→j < k→letB l[j] = true) (hn:(hj:k < l.length)→letB l[k] = true) :
  ∀ j,(hj:j < l.length)→j < k + 1→letB l[j] = true:=by
 intro j hj hjk
 by_cases he:j = k
 ·subst he;exact hn hj
 ·exact h j hj (by omega)
set_option maxHeartbeats 400000 in
theorem letters_any (s:ByteArray) (w:World) (hs:s.size≤20000) :
  Calls Tryz.prog 181 #[.string s] w fun e w'=>e = .returned (.int .i64 (lettersN s.data.toList))∧w' = w:=by
 go_enter Tryz.func181,Tryz.ntmps181
 go_wp2_with fail
 go_loop [3] (fun n=>∃ k:Nat,k≤s.size∧n = .int .i64 k∧∀ j,(hj:j < s.data.toList.length)→j < k→letB s.data.toList[j] = true) (fun n=>s.size - (intOf n).toNat)
 case atStart=>exact ⟨0,Nat.zero_le _,rfl,fun _ _ h=>absurd h (by omega)⟩
 case round =>
  obtain ⟨k,hk,rfl,hall⟩:=hrel
  have HA:Hid (∀ j,(hj:j < s.data.toList.length)→j < k→letB s.data.toList[j] = true):=hall
  clear hall
  by_cases hlt:k < s.size
  ·by_cases h1:smallB (s[k].toNat:Int) = true
   ·go_wp2_with (first | (go_at_call 209;refine (isSmall_any _ _).mono ?_;rintro e w' ⟨rfl,rfl⟩) | (go_at_call 210;refine (isGreat_any _ _).mono ?_;rintro e w' ⟨rfl,rfl⟩))
    go_round
    case rel=>exact ⟨k + 1,by omega,by go_num,letters_step HA.out (fun _=>by simp [letB];exact Or.inl h1)⟩
    case measure=>simp [intOf];omega
   ·have h1f:smallB (s[k].toNat:Int) = false:=by simpa using h1
    clear h1
    by_cases h2:greatB (s[k].toNat:Int) = true
    ·go_wp2_with (first | (go_at_call 209;refine (isSmall_any _ _).mono ?_;rintro e w' ⟨rfl,rfl⟩) | (go_at_call 210;refine (isGreat_any _ _).mono ?_;rintro e w' ⟨rfl,rfl⟩))
     go_round
     case rel=>exact ⟨k + 1,by omega,by go_num,letters_step HA.out (fun _=>by simp [letB];exact Or.inr h2)⟩
     case measure=>simp [intOf];omega
    ·have h2f:greatB (s[k].toNat:Int) = false:=by simpa using h2
     clear h2
     go_wp2_with (first | (go_at_call 209;refine (isSmall_any _ _).mono ?_;rintro e w' ⟨rfl,rfl⟩) | (go_at_call 210;refine (isGreat_any _ _).mono ?_;rintro e w' ⟨rfl,rfl⟩))
     go_ret
     exact ⟨ret_int (by rw [lettersN_stop _ k HA.out (by simpa using hk) (fun _=>by simp [letB];exact ⟨h1f,h2f⟩)]),rfl⟩
  ·have hd:decide ((k:Int) < (s.size:Int)) = false:=by simp;omega
   go_wp2_with fail
   go_ret
   exact ⟨ret_int (by rw [lettersN_stop _ k HA.out (by simpa using hk) (fun h=>absurd h (by simpa using hlt))]),rfl⟩
def wordLen (l:List UInt8):Nat :=
 if 0 < lettersN l then lettersN l else if l.take 2 = [45,62]∨l.take 2 = [33,61] then 2 else match l with | c :: _=>if signB c.toNat then 1 else 0 | []=>0
theorem take_of_extract (s:ByteArray) (k:Nat):(s.extract 0 k).toList = s.data.toList.take k:=by
 rw [Lib.extract_toList];simp
theorem wl_two {s:ByteArray} (h0:¬ 0 < lettersN s.data.toList) (h:s.data.toList.take 2 = [45,62]∨s.data.toList.take 2 = [33,61]):wordLen s.data.toList = 2:=by
 rw [wordLen.eq_def,if_neg h0,if_pos h]
theorem wl_sign {s:ByteArray} (h0:¬ 0 < lettersN s.data.toList) (h:¬ (s.data.toList.take 2 = [45,62]∨s.data.toList.take 2 = [33,61])) (hp:0 < s.size) :
  wordLen s.data.toList = if signB (s[0].toNat:Int) then 1 else 0:=by
 rw [wordLen.eq_def,if_neg h0,if_neg h]
 obtain ⟨⟨l⟩⟩:=s
 match l,hp with
 | c :: r,_=>rfl
theorem wl_none {s:ByteArray} (h0:¬ 0 < lettersN s.data.toList) (h:¬ (s.data.toList.take 2 = [45,62]∨s.data.toList.take 2 = [33,61])) (hp:¬ 0 < s.size) :
  wordLen s.data.toList = 0:=by
 rw [wordLen.eq_def,if_neg h0,if_neg h]
 obtain ⟨⟨l⟩⟩:=s
 match l,hp with
 | [],_=>rfl
 | _ :: _,hp=>exact absurd (by simp [ByteArray.size]) hp
set_option maxHeartbeats 400000 in
theorem length_any (s:ByteArray) (w:World) (hs:s.size≤20000) :
  Calls Tryz.prog 157 #[.string s] w fun e w'=>e = .returned (.int .i64 (wordLen s.data.toList))∧w' = w:=by
 have hle:=lettersN_le s.data.toList
 by_cases h0:0 < lettersN s.data.toList
 ·go_enter Tryz.func157,Tryz.ntmps157
  go_wp2_with (go_at_call 181;refine (letters_any _ _ hs).mono ?_;rintro e w' ⟨rfl,rfl⟩)
  go_ret
  exact ⟨ret_int (by simp [wordLen,h0]),rfl⟩
 ·by_cases h2:s.data.toList.take 2 = [45,62]∨s.data.toList.take 2 = [33,61]
  ·have hz:2≤s.size:=by
    rw [Lib.size_eq]
    have hl:=List.length_take_le' 2 s.data.toList
    rcases h2 with e | e <;> rw [e] at hl <;> simpa using hl
   have HW:=hide (wl_two h0 h2)
   rw [← take_of_extract] at h2
   by_cases h3:(s.extract 0 2).toList = [45,62]
   ·clear h2
    go_enter Tryz.func157,Tryz.ntmps157
    go_wp2_with (go_at_call 181;refine (letters_any _ _ hs).mono ?_;rintro e w' ⟨rfl,rfl⟩)
    go_ret
    exact ⟨ret_int (by rw [uh HW];rfl),rfl⟩
   ·have h4:=h2.resolve_left h3
    clear h2
    go_enter Tryz.func157,Tryz.ntmps157
    go_wp2_with (go_at_call 181;refine (letters_any _ _ hs).mono ?_;rintro e w' ⟨rfl,rfl⟩)
    all_goals
     go_ret
     exact ⟨ret_int (by rw [uh HW];rfl),rfl⟩
  ·by_cases hp:0 < s.size
   ·have HW:=hide (wl_sign h0 h2 hp)
    rw [← take_of_extract] at h2
    have h3:((s.extract 0 2).toList == [45,62]) = false:=by simpa using fun e=>h2 (Or.inl e)
    have h4:((s.extract 0 2).toList == [33,61]) = false:=by simpa using fun e=>h2 (Or.inr e)
    clear h2
    go_enter Tryz.func157,Tryz.ntmps157
    go_wp2_with (first | (go_at_call 181;refine (letters_any _ _ hs).mono ?_;rintro e w' ⟨rfl,rfl⟩) | (go_at_call 182;refine (isSign_any _ _).mono ?_;rintro e w' ⟨rfl,rfl⟩))
    all_goals
     go_ret
     exact ⟨ret_int (by rw [uh HW];simp [*]),rfl⟩
   ·have HW:=hide (wl_none h0 h2 hp)
    clear h2
    go_enter Tryz.func157,Tryz.ntmps157
    go_wp2_with (first | (go_at_call 181;refine (letters_any _ _ hs).mono ?_;rintro e w' ⟨rfl,rfl⟩) | (go_at_call 182;refine (isSign_any _ _).mono ?_;rintro e w' ⟨rfl,rfl⟩))
    go_ret
    exact ⟨ret_int (by rw [uh HW];rfl),rfl⟩
def splitF:Nat→List UInt8→Option (List (List UInt8))
 | _,[]=>some []
 | 0,_ :: _=>none
 | f + 1,c :: r=>if c = 32∨c = 10 then splitF f r else if wordLen (c :: r) = 0 then none else (splitF f ((c :: r).drop (wordLen (c :: r)))).map ((c :: r).take (wordLen (c :: r)) :: ·)
def spl (l:List UInt8):Option (List (List UInt8)):=splitF l.length l
theorem splitF_fuel (f g:Nat) (l:List UInt8) (hf:l.length≤f) (hg:l.length≤g):splitF f l = splitF g l:=by
 induction f generalizing g l with
 | zero =>
  match l,hf with
  | [],_=>simp [splitF]
 | succ f ih =>
  match l,g,hf,hg with
  | [],_,_,_=>simp [splitF]
  | c :: r,g + 1,hf,hg =>
   simp only [splitF]
   simp only [List.length_cons] at hf hg
   split
   ·exact ih g r (by omega) (by omega)
   ·split
    ·rfl
    ·rw [ih g _ (by simp;omega) (by simp;omega)]
theorem spl_nil:spl [] = some []:=rfl
theorem spl_blank (c:UInt8) (r:List UInt8) (h:c = 32∨c = 10):spl (c :: r) = spl r:=by
 simp only [spl,List.length_cons,splitF,if_pos h]
theorem spl_none (c:UInt8) (r:List UInt8) (h:¬ (c = 32∨c = 10)) (h0:wordLen (c :: r) = 0):spl (c :: r) = none:=by
 simp only [spl,List.length_cons,splitF,if_neg h,if_pos h0]
theorem spl_word (c:UInt8) (r:List UInt8) (h:¬ (c = 32∨c = 10)) (h0:wordLen (c :: r)≠0) :
  spl (c :: r) = (spl ((c :: r).drop (wordLen (c :: r)))).map ((c :: r).take (wordLen (c :: r)) :: ·):=by
 simp only [spl,List.length_cons,splitF,if_neg h,if_neg h0]
 rw [splitF_fuel _ _ _ (by simp;omega) (Nat.le_refl _)]
theorem wordLen_le (l:List UInt8):wordLen l≤l.length:=by
 rw [wordLen.eq_def]
 have:=lettersN_le l
 split
 ·exact this
 ·split
  ·rename_i h
   have hl:=List.length_take_le' 2 l
   rcases h with e | e <;> rw [e] at hl <;> simpa using hl
  ·split
   ·split <;> simp
   ·simp
def Got (l:List UInt8) (k:Nat) (ws:List ByteArray):Prop:=spl l = (spl (l.drop k)).map (ws.map (·.data.toList) ++ ·)
theorem Got.start (l:List UInt8):Got l 0 []:=by simp [Got]
theorem Got.blank {l:List UInt8} {k:Nat} {ws:List ByteArray} (h:Got l k ws) (hk:k < l.length) (hb:l[k] = 32∨l[k] = 10):Got l (k + 1) ws:=by
 unfold Got at *
 rw [h,List.drop_eq_getElem_cons hk,spl_blank _ _ hb]
theorem Got.none {l:List UInt8} {k:Nat} {ws:List ByteArray} (h:Got l k ws) (hk:k < l.length) (hb:¬ (l[k] = 32∨l[k] = 10)) (h0:wordLen (l.drop k) = 0):spl l = .none:=by
 unfold Got at *
 rw [List.drop_eq_getElem_cons hk] at h0 h
 rw [h,spl_none _ _ hb h0];rfl
theorem Got.word {l:List UInt8} {k n:Nat} {ws:List ByteArray} {u:ByteArray} (h:Got l k ws) (hk:k < l.length) (hb:¬ (l[k] = 32∨l[k] = 10)) (hn:wordLen (l.drop k) = n) (h0:n≠0)
  (hu:u.data.toList = (l.drop k).take n):Got l (k + n) (ws ++ [u]):=by
 subst hn
 unfold Got at *
 rw [← List.drop_drop]
 rw [List.drop_eq_getElem_cons hk] at h h0 hu ⊢
 rw [h,spl_word _ _ hb h0,Option.map_map]
 congr 1
 funext x
 simp only [Function.comp,List.map_append,List.map_cons,List.map_nil,hu,List.append_assoc,List.singleton_append]
theorem Got.stop {l:List UInt8} {k:Nat} {ws:List ByteArray} (h:Got l k ws) (hk:l.length≤k):spl l = some (ws.map (·.data.toList)):=by
 unfold Got at *
 rw [h,List.drop_eq_nil_of_le hk,spl_nil];simp
theorem Tryz.infoStr:(Tryz.prog.info? 9).map (fun i=>(i.zero,i.size,i.bytes)) = some (some (.string ⟨#[]⟩),1,16):=by kernel_rfl
theorem u8_eq (c:UInt8) (n:Nat) (hn:n < 256):(((c.toNat:Int) == (n:Int)) = true)↔c = UInt8.ofNat n:=by
 rw [beq_iff_eq]
 constructor
 ·intro h
  have:c.toNat = n:=by omega
  rw [← this];simp
 ·rintro rfl
  simp;omega
theorem one_new (w:World) (x:Value) (T:TypeId):∀ (j:Nat) (u:Value),[x][j]? = some u→(w.alloc (.cells #[x] T)).cell? ((⟨w.heap.size,0,none⟩:Addr).add j) = some u:=by
 intro j u hj
 match j,hj with
 | 0,hj=>simp at hj;subst hj;simp [Addr.add]
theorem app_one {W w' w1:World} {e:TypeId} {v v' x:Value} {n:Nat} {xs:List Value} {o:Obj} (hown:w'.ownsRow W.heap.size e 1 v n xs) (hbl:Below W.heap.size W w')
  (hown':w1.ownsRow W.heap.size e 1 v' (n + 1) (xs ++ [x])) (hg:(w'.alloc o).grownBy w1 v.ownBlock):w1.ownsRow W.heap.size e 1 v' (n + 1) (xs ++ [x])∧Below W.heap.size W w1 :=
 ⟨hown',(hbl.alloc hbl.size o).grown hg (by have:=hbl.size;simp;omega) (fun k hk=>(hown.lt k hk).1)⟩
set_option maxRecDepth 100000 in
set_option maxHeartbeats 1000000 in
theorem wsplit_any (s:ByteArray) (w:World) (hs:s.size≤20000) :
  Calls Tryz.prog 119 #[.string s] w fun e w'=>Below w.heap.size w w' ∧
   ((spl s.data.toList = none∧e = .returned (.tuple #[.slice none 0 0,.bool false])) ∨
    ∃ (ws:List ByteArray) (v:Value),spl s.data.toList = some (ws.map (·.data.toList))∧w'.ownsRow w.heap.size 9 1 v ws.length (ws.map Value.string)∧e = .returned (.tuple #[v,.bool true])):=by
 obtain ⟨i0,hi,hz0,hz1,hz2⟩:=info_parts Tryz.infoStr
 go_enter Tryz.func119,Tryz.ntmps119
 go_wp2_with fail
 go_loopw [4,5] (fun v i wr=>∃ (k:Nat) (ws:List ByteArray),k≤s.size∧ws.length≤k∧i = .int .i64 k∧wr.ownsRow w.heap.size 9 1 v ws.length (ws.map Value.string)∧Below w.heap.size w wr∧Hid (Got s.data.toList k ws)) (fun _ i _=>s.size - (intOf i).toNat)
 case atStart=>exact ⟨0,[],Nat.zero_le _,Nat.le_refl _,rfl,World.ownsRow_nil _ _ _ _,Below.refl _ _,Got.start _⟩
 case round =>
  obtain ⟨k,ws,hk,hwk,rfl,hown,hbl,hgot⟩:=hrel
  have hsz:=hbl.size
  by_cases hlt:k < s.size
  ·by_cases h1:((s[k].toNat:Int) == 32) = true
   ·go_wp2_with fail
    go_roundw
    case rel=>exact ⟨k + 1,ws,by omega,by omega,by go_num,hown,hbl,hgot.out.blank (by rw [← Lib.size_eq];exact hlt) (Or.inl ((u8_eq _ 32 (by omega)).1 h1))⟩
    case measure=>simp [intOf];omega
   ·have h1f:((s[k].toNat:Int) == 32) = false:=by simpa using h1
    by_cases h2:((s[k].toNat:Int) == 10) = true
    ·clear h1
     go_wp2_with fail
     go_roundw
     case rel=>exact ⟨k + 1,ws,by omega,by omega,by go_num,hown,hbl,hgot.out.blank (by rw [← Lib.size_eq];exact hlt) (Or.inr ((u8_eq _ 10 (by omega)).1 h2))⟩
     case measure=>simp [intOf];omega
    ·have h2f:((s[k].toNat:Int) == 10) = false:=by simpa using h2
     have HB:Hid (¬ (s.data.toList[k]'(by rw [← Lib.size_eq];exact hlt) = 32∨s.data.toList[k]'(by rw [← Lib.size_eq];exact hlt) = 10)):=by
      rintro (e | e)
      ·exact h1 ((u8_eq _ 32 (by omega)).2 e)
      ·exact h2 ((u8_eq _ 10 (by omega)).2 e)
     clear h1 h2
     have hex:(s.extract k s.size).data.toList = s.data.toList.drop k:=by
      rw [Lib.extract_data];exact List.take_of_length_le (by rw [List.length_drop,← Lib.size_eq];omega)
     have HEX:=hide hex
     clear hex
     have hle:=wordLen_le (s.extract k s.size).data.toList
     rw [uh HEX,List.length_drop,← Lib.size_eq] at hle
     obtain ⟨n,hn⟩:∃ n,n = wordLen (s.extract k s.size).data.toList:=⟨_,rfl⟩
     have HN:Hid (wordLen (s.data.toList.drop k) = n):=by rw [← uh HEX];exact hn.symm
     rw [uh HN] at hle
     have hc:=fun (wx:World)=>(length_any (s.extract k s.size) wx (by simp;omega))
     rw [← hn] at hc
     clear hn
     have HC:=hide hc
     clear hc
     by_cases hz:n = 0
     ·subst hz
      go_wp2_with (go_at_call 157;refine (uh HC _).mono ?_;rintro e w' ⟨rfl,rfl⟩)
      go_ret2
      exact ⟨hbl,Or.inl ⟨hgot.out.none (by rw [← Lib.size_eq];exact hlt) HB.out HN.out,rfl⟩⟩
     ·have hzf:((n:Int) == 0) = false:=by simpa using hz
      have hkn:k + n≤s.size:=by omega
      have hnp:0 < n:=by omega
      clear hz hle
      go_wp2_with (first | (go_at_call 157;refine (uh HC _).mono ?_;rintro e w' ⟨rfl,rfl⟩) | (at_builtin;refine wpList_append_own _ rfl _ _ 50 rfl w.heap.size 9 i0 (.string ⟨#[]⟩) 1 16 Tryz.underlying50 hi hz0 hz1 hz2 rfl (by decide) _ _ _ rfl (hown.alloc _) ⟨_,0,none⟩ 1 1 [.string (s.extract k (k + n))] rfl rfl ?c1 ?c2 ?c3 ?c4 ?c5 ?_))
      case c1=>exact one_new _ _ _
      case c2=>intro u hu;simp at hu;subst hu;rfl
      case c3=>unfold maxLen;omega
      case c4=>omega
      case c5=>simp;omega
      intro v' w1 hown' hgrow _
      have R:=app_one hown hbl hown' hgrow
      clear hown' hgrow hown hbl
      go_wp2_with fail
      go_roundw
      case rel=>exact ⟨k + n,ws ++ [s.extract k (k + n)],by omega,by simp;omega,by go_num,by simpa using R.1,R.2,hgot.out.word (by rw [← Lib.size_eq];exact hlt) HB.out HN.out (by simpa using hzf) (by rw [Lib.extract_data];congr 1;omega)⟩
      case measure=>simp [intOf];omega
  ·have hd:decide ((k:Int) < (s.size:Int)) = false:=by simp;omega
   go_wp2_with fail
   go_ret2
   exact ⟨hbl,Or.inr ⟨ws,_,hgot.out.stop (by rw [← Lib.size_eq];omega),hown,rfl⟩⟩
def Strs (w:World) (v:Value) (ws:List ByteArray):Prop :=
 ∃ ao cap,v = .slice ao ws.length cap∧ws.length≤cap∧cap≤maxLen∧(ws≠[]→∃ g off,ao = some ⟨g,off,none⟩∧∀ j,(h:j < ws.length)→w.cell? ⟨g,off + j,none⟩ = some (.string ws[j]))
theorem Strs.of_own {w:World} {B:Nat} {v:Value} {ws:List ByteArray} (h:w.ownsRow B 9 1 v ws.length (ws.map Value.string)):Strs w v ws:=by
 have hcs:=fun g hg=>h.cells (g:=g) hg
 rcases h.2 with ⟨rfl,h0⟩ | ⟨g,cap,cur,rfl,_,_,hn,hm,_,_⟩
 ·have:ws = []:=List.eq_nil_of_length_eq_zero h0
  subst this
  exact ⟨_,_,rfl,Nat.le_refl _,by simp,fun h=>absurd rfl h⟩
 ·refine ⟨_,_,rfl,hn,hm,fun _=>⟨g,0,rfl,fun j hj=>?_⟩⟩
  have:=hcs g rfl j (.string ws[j]) (by simp [hj])
  rw [show (⟨g,0,none⟩:Addr).add j = ⟨g,0 + j,none⟩ by unfold Addr.add;split <;> simp_all] at this
  exact this
def jn:List ByteArray→List UInt8
 | []=>[]
 | x :: r=>x.data.toList ++ r.flatMap (fun y=>32 :: y.data.toList)
theorem jn_snoc (l:List ByteArray) (x:ByteArray) (h:l≠[]):jn (l ++ [x]) = jn l ++ [32] ++ x.data.toList:=by
 match l,h with
 | y :: r,_=>simp [jn]
theorem jn_take_le (ws:List ByteArray) (k:Nat):(jn (ws.take k)).length≤(jn ws).length:=by
 match ws,k with
 | [],_=>simp [jn]
 | _ :: _,0=>simp [jn]
 | x :: r,k + 1 =>
  simp only [List.take_succ_cons,jn,List.length_append,List.length_flatMap]
  have:∀ (r:List ByteArray) k,((r.take k).map fun y=>(32 :: y.data.toList).length).sum≤(r.map fun y=>(32 :: y.data.toList).length).sum:=by
   intro r
   induction r with
   | nil=>simp
   | cons y r ih =>
    intro k
    cases k with
    | zero=>simp
    | succ k=>simp only [List.take_succ_cons,List.map_cons,List.sum_cons];have:=ih k;omega
  have:=this r k
  omega
theorem jn_step (ws:List ByteArray) (k:Nat) (hk:k < ws.length) (h0:0 < k):jn (ws.take (k + 1)) = jn (ws.take k) ++ [32] ++ ws[k].data.toList:=by
 rw [List.take_succ_eq_append_getElem hk,jn_snoc _ _ (List.ne_nil_of_length_pos (by rw [List.length_take];omega))]
theorem jn_first (ws:List ByteArray) (k:Nat) (hk:k < ws.length) (h0:¬ 0 < k):jn (ws.take (k + 1)) = jn (ws.take k) ++ ws[k].data.toList:=by
 obtain rfl:k = 0:=by omega
 rw [List.take_succ_eq_append_getElem hk];simp [jn]
theorem size_toList (s:ByteArray):s.data.toList.length = s.size:=(Lib.size_eq s).symm
def bc (l:List UInt8):List Value:=l.map fun b=>Value.int .u8 b.toNat
theorem bc_append (a b:List UInt8):bc (a ++ b) = bc a ++ bc b:=by simp [bc]
theorem strCells_bc (s:ByteArray):Lib.strCells s = bc s.data.toList:=rfl
theorem app_str {W w' w1:World} {e:TypeId} {v v':Value} {n m:Nat} {xs ys:List Value} (hown:w'.ownsRow W.heap.size e 1 v n xs) (hbl:Below W.heap.size W w')
  (hown':w1.ownsRow W.heap.size e 1 v' m ys) (hg:w'.grownBy w1 v.ownBlock):w1.ownsRow W.heap.size e 1 v' m ys∧Below W.heap.size W w1 :=
 ⟨hown',hbl.grown hg hbl.size (fun k hk=>(hown.lt k hk).1)⟩
theorem own_cast {w:World} {B:Nat} {e:TypeId} {s n m:Nat} {v:Value} {xs ys:List Value} (h:w.ownsRow B e s v n xs) (hn:m = n) (hx:ys = xs):w.ownsRow B e s v m ys:=by
 rw [hn,hx];exact h
theorem own_slice {w:World} {B:Nat} {e:TypeId} {s n:Nat} {v:Value} {xs:List Value} (h:w.ownsRow B e s v n xs):∃ a l c,v = .slice a l c:=by
 rcases h.2 with ⟨rfl,_⟩ | ⟨g,cap,cur,rfl,_⟩ <;> exact ⟨_,_,_,rfl⟩
theorem conv_own {P:Program} (src dst e:TypeId) (hs:P.underlying src = some (.slice e)) (he:P.underlying e = some (.int .u8)) (hd:P.underlying dst = some .string)
  {w:World} {B:Nat} {v:Value} {l:List UInt8} (h:w.ownsRow B e 1 v l.length (bc l)):(convert src dst v).run P w = .ok (.string ⟨l.toArray⟩) w:=by
 have hcs:=fun g hg=>h.cells (g:=g) hg
 rcases h.2 with ⟨rfl,h0⟩ | ⟨g,cap,cur,rfl,_,_,hn,hm,_,_⟩
 ·have:l = []:=List.eq_nil_of_length_eq_zero h0
  subst this
  exact run_convert_bytes_nil w src e hs he 0 0 dst hd
 ·exact run_convert_bytes_back w src dst e ⟨g,0,none⟩ cap l hs he hd (fun j hj=>hcs g rfl j _ (by simp [bc,hj]))
theorem Tryz.infoByte:(Tryz.prog.info? 5).map (fun i=>(i.zero,i.size,i.bytes)) = some (some (.int .u8 0),1,1):=by kernel_rfl
set_option maxRecDepth 100000 in
set_option maxHeartbeats 1000000 in
theorem join_any (ws:List ByteArray) (v:Value) (w:World) (hv:Strs w v ws) (hl:ws.length≤20000) (hj:(jn ws).length≤20000) :
  Calls Tryz.prog 70 #[v] w fun e w'=>Below w.heap.size w w'∧e = .returned (.string ⟨(jn ws).toArray⟩):=by
 obtain ⟨i0,hi,hz0,hz1,hz2⟩:=info_parts Tryz.infoByte
 obtain ⟨ao,cap,rfl,hn,hm,hc⟩:=hv
 have HC:=hide hc
 clear hc
 unfold maxLen at hm
 go_enter Tryz.func70,Tryz.ntmps70
 go_wp2_with fail
 go_loopw [3,4] (fun t i wr=>∃ k:Nat,k≤ws.length∧i = .int .i64 k∧wr.ownsRow w.heap.size 5 1 t (jn (ws.take k)).length (bc (jn (ws.take k)))∧Below w.heap.size w wr) (fun _ i _=>ws.length - (intOf i).toNat)
 case atStart=>exact ⟨0,Nat.zero_le _,rfl,World.ownsRow_nil _ _ _ _,Below.refl _ _⟩
 case round =>
  obtain ⟨k,hk,rfl,hown,hbl⟩:=hrel
  have hsz:=hbl.size
  by_cases hlt:k < ws.length
  ·obtain ⟨g,off,hao,hcell⟩:=uh HC (by intro h;rw [h] at hlt;simp at hlt)
   have hcx:wr.cell? ⟨g,off + k,none⟩ = some (.string ws[k]):=by
    rw [hbl.cell (World.block_lt_of_cell? w _ (hcell k hlt))];exact hcell k hlt
   have hcw:=hcell
   have HCW:=hide hcw
   clear hcell hcw
   rw [hao]
   have hjk:=jn_take_le ws (k + 1)
   by_cases h0:0 < k
   ·have HJ:=hide (jn_step ws k hlt h0)
    have hle:(jn (ws.take k)).length + 1 + ws[k].size≤20000:=by
     rw [uh HJ] at hjk;simp only [List.length_append,size_toList,List.length_singleton] at hjk;omega
    go_wp2_with (first | (at_builtin;refine wpList_append_own _ rfl (.tmp 13) (.tmp 14) 101 rfl w.heap.size 5 i0 (.int .u8 0) 1 1 Tryz.underlying101 hi hz0 hz1 hz2 rfl (by decide) _ _ _ rfl (hown.alloc _) ⟨_,0,none⟩ 1 1 [.int .u8 32] rfl rfl ?c1 ?c2 ?c3 ?c4 ?c5 ?_))
    case c1=>exact one_new _ _ _
    case c2=>intro u hu;simp at hu;subst hu;rfl
    case c3=>unfold maxLen;omega
    case c4=>omega
    case c5=>simp;omega
    intro v1 w1 hown1 hgrow1 _
    have R1:=app_one hown hbl hown1 hgrow1
    have hcx1:w1.cell? ⟨g,off + k,none⟩ = some (.string ws[k]):=by
     rw [R1.2.cell (World.block_lt_of_cell? w _ (uh HCW k hlt))];exact uh HCW k hlt
    have hsz1:=R1.2.size
    clear hown1 hgrow1 hcx hsz
    go_wp2_with (at_builtin;refine Lib.wpList_append_own_string _ rfl (.tmp 16) (.tmp 20) 101 9 rfl w.heap.size 5 i0 Tryz.underlying101 Tryz.underlying9 hi hz0 hz1 hz2 _ _ _ rfl R1.1 ws[k] rfl ?d1 ?d2 ?d3 ?_)
    case d1=>unfold maxLen;omega
    case d2=>omega
    case d3=>omega
    intro v2 w2 hown2 hgrow2 _
    have R2:=app_str R1.1 R1.2 hown2 hgrow2
    clear hown2 hgrow2 R1 hown hbl hcx1
    go_wp2_with fail
    go_roundw
    case rel=>exact ⟨k + 1,by omega,by go_num,by rw [uh HJ];exact own_cast R2.1 (by simp only [List.length_append,size_toList,List.length_singleton]) (by simp only [strCells_bc,bc_append,List.append_assoc];rfl),R2.2⟩
    case measure=>simp [intOf];omega
   ·have HJ:=hide (jn_first ws k hlt h0)
    have hle:(jn (ws.take k)).length + ws[k].size≤20000:=by
     rw [uh HJ] at hjk;simp only [List.length_append,size_toList] at hjk;omega
    go_wp2_with (at_builtin;refine Lib.wpList_append_own_string _ rfl _ _ 101 9 rfl w.heap.size 5 i0 Tryz.underlying101 Tryz.underlying9 hi hz0 hz1 hz2 _ _ _ rfl hown ws[k] rfl ?d1 ?d2 ?d3 ?_)
    case d1=>unfold maxLen;omega
    case d2=>omega
    case d3=>omega
    intro v2 w2 hown2 hgrow2 _
    have R2:=app_str hown hbl hown2 hgrow2
    clear hown2 hgrow2 hown hbl hcx
    go_wp2_with fail
    go_roundw
    case rel=>exact ⟨k + 1,by omega,by go_num,by rw [uh HJ];exact own_cast R2.1 (by simp only [List.length_append,size_toList]) (by simp only [strCells_bc,bc_append]),R2.2⟩
    case measure=>simp [intOf];omega
  ·have hd:decide ((k:Int) < (ws.length:Int)) = false:=by simp;omega
   have hke:ws.take k = ws:=List.take_of_length_le (by omega)
   rw [hke] at hown
   clear hke
   have hcv:=conv_own (P:=Tryz.prog) 101 9 5 Tryz.underlying101 Tryz.underlying5 Tryz.underlying9 hown
   obtain ⟨a1,l1,c1,hu⟩:=own_slice hown
   rw [hu] at hcv ⊢
   go_wp2_with fail
   go_ret
   exact ⟨hbl,rfl⟩
structure Nd where
 op:Nat
 v:Nat
 ak:Nat
 ai:Nat
 nx:Nat
 ot:Nat
def Nd.cells (n:Nd):List Value:=[.int .i64 n.op,.int .i64 n.v,.int .i64 n.ak,.int .i64 n.ai,.int .i64 n.nx,.int .i64 n.ot]
def ndCells (l:List Nd):List Value:=l.flatMap Nd.cells
structure PS where
 pos:Nat
 failed:Bool
 vars:List UInt8
 hid:List UInt8
 nodes:List Nd
structure Stp (F:List Nat) (w:World) (F':List Nat) (w':World):Prop where
 os:w'.os = w.os
 tape:w'.tape = w.tape
 output:w'.output = w.output
 size:w.heap.size≤w'.heap.size
 block:∀ k,k < w.heap.size→k ∉ F→w'.heap[k]? = w.heap[k]?
 foot:∀ k,k∈F'→k∈F∨w.heap.size≤k
theorem Stp.refl (F:List Nat) (w:World):Stp F w F w:=⟨rfl,rfl,rfl,Nat.le_refl _,fun _ _ _=>rfl,fun _ h=>Or.inl h⟩
theorem Stp.trans {F F' F'':List Nat} {a b c:World} (h:Stp F a F' b) (k:Stp F' b F'' c):Stp F a F'' c :=
 ⟨k.os.trans h.os,k.tape.trans h.tape,k.output.trans h.output,Nat.le_trans h.size k.size,
  fun i hi hF=>(k.block i (Nat.lt_of_lt_of_le hi h.size) (fun hm=>by rcases h.foot i hm with h1 | h1;exact hF h1;omega)).trans (h.block i hi hF),
  fun i hm=>by rcases k.foot i hm with h1 | h1;exact h.foot i h1;exact Or.inr (Nat.le_trans h.size h1)⟩
theorem Stp.drew {F F':List Nat} {a w:World} (h:Stp F a F' w):Stp F a F' w.drew:=⟨h.os,h.tape,h.output,h.size,h.block,h.foot⟩
theorem Stp.drewN {F F':List Nat} {a w:World} (h:Stp F a F' w) (n:Nat):Stp F a F' (w.drewN n):=⟨h.os,h.tape,h.output,h.size,h.block,h.foot⟩
theorem Stp.alloc {F F':List Nat} {a w:World} (h:Stp F a F' w) (o:Obj):Stp F a F' (w.alloc o) :=
 ⟨h.os,h.tape,h.output,by have:=h.size;simp;omega,fun k hk hF=>by rw [Below.heap_alloc _ _ _ (Nat.lt_of_lt_of_le hk h.size)];exact h.block k hk hF,h.foot⟩
theorem Stp.setCell {F F':List Nat} {a w:World} (h:Stp F a F' w) {p:Addr} (hp:p.block∈F∨a.heap.size≤p.block) (u:Value):Stp F a F' (w.setCell p u) :=
 ⟨h.os,h.tape,h.output,by simpa [World.setCell] using h.size,fun k hk hF=>by
  rw [Below.heap_setCell _ _ _ _ (by rintro rfl;rcases hp with hp | hp;exact hF hp;omega)];exact h.block k hk hF,h.foot⟩
theorem Stp.grown {F F':List Nat} {a w w':World} {row:Option Nat} (h:Stp F a F' w) (hg:w.grownBy w' row) (hr:∀ k,row = some k→k∈F∨a.heap.size≤k):Stp F a F' w' :=
 ⟨hg.os.trans h.os,hg.tape.trans h.tape,hg.output.trans h.output,Nat.le_trans h.size hg.size,fun k hk hF=>by
  rw [hg.block k (Nat.lt_of_lt_of_le hk h.size) (fun e=>by rcases hr k e.symm with h1 | h1;exact hF h1;omega)];exact h.block k hk hF,h.foot⟩
theorem Stp.below {F F':List Nat} {w w':World} {B:Nat} (h:Stp F w F' w') (hB:B≤w.heap.size) (hF:∀ k∈F,B≤k):Below B w w' :=
 ⟨h.os,h.tape,h.output,h.size,fun k hk=>h.block k (Nat.lt_of_lt_of_le hk hB) (fun hm=>by have:=hF k hm;omega)⟩
def IsP (B:Nat) (WV:Value) (w:World) (P:Nat) (ws:List ByteArray) (s:PS) (F:List Nat):Prop :=
 ∃ wv vv hv nv:Value,
  w.heap[P]? = some (.cells #[wv,.int .i64 s.pos,.bool s.failed,vv,hv,nv] 133 (0,0))∧(B≤P∧wv = WV) ∧
  w.ownsRow B 9 1 wv ws.length (ws.map Value.string) ∧
  w.ownsRow B 5 1 vv s.vars.length (bc s.vars) ∧
  w.ownsRow B 5 1 hv s.hid.length (bc s.hid) ∧
  w.ownsRow B 186 6 nv s.nodes.length (ndCells s.nodes) ∧
  F = P :: (wv.ownBlock.toList ++ (vv.ownBlock.toList ++ (hv.ownBlock.toList ++ nv.ownBlock.toList)))∧F.Nodup
theorem ownsRow_of_eq {w w':World} {B:Nat} {e:TypeId} {sz n:Nat} {v:Value} {xs:List Value} (h:w.ownsRow B e sz v n xs) (hb:∀ k,v.ownBlock = some k→w'.heap[k]? = w.heap[k]?):w'.ownsRow B e sz v n xs:=by
 refine ⟨h.1,?_⟩
 rcases h.2 with hn | ⟨g,cap,cur,rfl,hB,hg,rest⟩
 ·exact .inl hn
 ·exact .inr ⟨g,cap,cur,rfl,hB,by rw [hb g rfl];exact hg,rest⟩
theorem IsP.mem {B:Nat} {WV:Value} {w:World} {P:Nat} {ws:List ByteArray} {s:PS} {F:List Nat} (h:IsP B WV w P ws s F):∀ k∈F,B≤k∧k < w.heap.size:=by
 obtain ⟨wv,vv,hv,nv,hP,hB,h1,h2,h3,h4,rfl,_⟩:=h
 intro k hk
 simp only [List.mem_cons,List.mem_append,Option.mem_toList] at hk
 rcases hk with rfl | hk | hk | hk | hk
 ·exact ⟨hB.1,(Array.getElem?_eq_some_iff.1 hP).1⟩
 ·exact h1.lt k hk
 ·exact h2.lt k hk
 ·exact h3.lt k hk
 ·exact h4.lt k hk
theorem IsP.memP {B:Nat} {WV:Value} {w:World} {P:Nat} {ws:List ByteArray} {s:PS} {F:List Nat} (h:IsP B WV w P ws s F):P∈F:=by
 obtain ⟨wv,vv,hv,nv,hP,hB,h1,h2,h3,h4,rfl,_⟩:=h
 simp
theorem IsP.of_eq {B:Nat} {WV:Value} {w w':World} {P:Nat} {ws:List ByteArray} {s:PS} {F:List Nat} (h:IsP B WV w P ws s F) (he:∀ k∈F,w'.heap[k]? = w.heap[k]?):IsP B WV w' P ws s F:=by
 obtain ⟨wv,vv,hv,nv,hP,hB,h1,h2,h3,h4,hF,hN⟩:=h
 have hm:∀ k,k = P∨wv.ownBlock = some k∨vv.ownBlock = some k∨hv.ownBlock = some k∨nv.ownBlock = some k→k∈F:=by
  intro k hk;rw [hF];simpa using hk
 exact ⟨wv,vv,hv,nv,by rw [he P (hm P (by simp))];exact hP,hB,ownsRow_of_eq h1 (fun k hk=>he k (hm k (by simp [hk]))),ownsRow_of_eq h2 (fun k hk=>he k (hm k (by simp [hk]))),
  ownsRow_of_eq h3 (fun k hk=>he k (hm k (by simp [hk]))),ownsRow_of_eq h4 (fun k hk=>he k (hm k (by simp [hk]))),hF,hN⟩
theorem IsP.drewN {B:Nat} {WV:Value} {w:World} {P:Nat} {ws:List ByteArray} {s:PS} {F:List Nat} (h:IsP B WV w P ws s F) (n:Nat):IsP B WV (w.drewN n) P ws s F :=
 h.of_eq (fun _ _=>by simp)
theorem IsP.drew {B:Nat} {WV:Value} {w:World} {P:Nat} {ws:List ByteArray} {s:PS} {F:List Nat} (h:IsP B WV w P ws s F):IsP B WV w.drew P ws s F:=h.of_eq (fun _ _=>rfl)
theorem IsP.alloc {B:Nat} {WV:Value} {w:World} {P:Nat} {ws:List ByteArray} {s:PS} {F:List Nat} (h:IsP B WV w P ws s F) (o:Obj):IsP B WV (w.alloc o) P ws s F :=
 h.of_eq (fun k hk=>Below.heap_alloc _ _ _ (h.mem k hk).2)
theorem IsP.setOther {B:Nat} {WV:Value} {w:World} {P:Nat} {ws:List ByteArray} {s:PS} {F:List Nat} (h:IsP B WV w P ws s F) {p:Addr} (hp:p.block ∉ F) (u:Value):IsP B WV (w.setCell p u) P ws s F :=
 h.of_eq (fun k hk=>Below.heap_setCell _ _ _ _ (by rintro rfl;exact hp hk))
theorem cells6 {w:World} {P:Nat} {a b c d e f:Value} {t:TypeId} (h:w.heap[P]? = some (.cells #[a,b,c,d,e,f] t (0,0))) :
  (w.cell? ⟨P,0,none⟩ = some a∧w.cell? ⟨P,1,none⟩ = some b∧w.cell? ⟨P,2,none⟩ = some c∧w.cell? ⟨P,3,none⟩ = some d∧w.cell? ⟨P,4,none⟩ = some e∧w.cell? ⟨P,5,none⟩ = some f) ∧
  ∀ j,w.frozen? ⟨P,j,none⟩ = false:=by
 refine ⟨⟨?_,?_,?_,?_,?_,?_⟩,fun j=>?_⟩
 all_goals simp [World.cell?,World.frozen?,h]
def pk (ws:List ByteArray) (s:PS):ByteArray:=if s.failed = true then ⟨#[]⟩ else ws[s.pos]?.getD ⟨#[]⟩
def acB (ws:List ByteArray) (k:ByteArray) (s:PS):Bool:=(pk ws s).toList == k.toList
def PS.adv (s:PS):PS:={ s with pos:=s.pos + 1 }
def PS.fail (s:PS):PS:={ s with failed:=true }
def acS (ws:List ByteArray) (k:ByteArray) (s:PS):PS:=if acB ws k s then s.adv else s
def exS (ws:List ByteArray) (k:ByteArray) (s:PS):PS:=if acB ws k s then s.adv else s.fail
theorem pk_failed {ws:List ByteArray} {s:PS} (h:s.failed = true):pk ws s = ⟨#[]⟩:=if_pos h
theorem pk_end {ws:List ByteArray} {s:PS} (h:ws.length≤s.pos):pk ws s = ⟨#[]⟩:=by
 unfold pk;split
 ·rfl
 ·rw [List.getElem?_eq_none h];rfl
theorem pk_at {ws:List ByteArray} {s:PS} (h:s.failed = false) (hp:s.pos < ws.length):pk ws s = ws[s.pos]:=by
 unfold pk;rw [if_neg (by simp [h]),List.getElem?_eq_getElem hp];rfl
theorem drewN2 (w:World) (a b:Nat):(w.drewN a).drewN b = w.drewN (a + b):=by simp [World.drewN,Nat.add_assoc]
def Fit (ws:List ByteArray) (s:PS):Prop:=ws.length≤240∧s.pos≤ws.length∧s.vars.length≤240 + s.pos∧s.hid.length≤s.pos
theorem Fit.adv {ws:List ByteArray} {s:PS} (h:Fit ws s) (hp:s.pos < ws.length):Fit ws s.adv:=by
 obtain ⟨a,b,c,d⟩:=h
 simp only [Fit,PS.adv];omega
theorem pk_lt {ws:List ByteArray} {s:PS} (h:(pk ws s).size≠0):s.failed = false∧s.pos < ws.length:=by
 by_cases hp:s.pos < ws.length
 ·refine ⟨?_,hp⟩
  cases hf:s.failed with
  | false=>rfl
  | true=>rw [pk_failed hf] at h;exact absurd rfl h
 ·rw [pk_end (by omega)] at h;exact absurd rfl h
theorem eq_of_toList {a b:ByteArray} (h:(a.toList == b.toList) = true):a = b:=by
 rw [ByteArray.toList_eq,ByteArray.toList_eq] at h
 obtain ⟨⟨x⟩⟩:=a
 obtain ⟨⟨y⟩⟩:=b
 have:x = y:=by simpa using h
 rw [this]
theorem acB_lt {ws:List ByteArray} {k:ByteArray} {s:PS} (hk:k.size≠0) (h:acB ws k s = true):s.pos < ws.length:=by
 have:=eq_of_toList h
 exact (pk_lt (by rw [this];exact hk)).2
structure IsQ (B:Nat) (WV:Value) (w:World) (P:Nat) (ws:List ByteArray) (s:PS) (F:List Nat):Prop where
 m:IsP B WV w P ws s F
 f:Fit ws s
section
variable {B:Nat} {WV:Value} {w:World} {P:Nat} {ws:List ByteArray} {s:PS} {F:List Nat}
set_option maxRecDepth 100000 in
set_option maxHeartbeats 1000000 in
theorem peek_any (h:IsQ B WV w P ws s F) :
  Calls Tryz.prog 160 #[.pointer (some ⟨P,0,none⟩)] w fun e w'=>e = .returned (.string (pk ws s))∧∃ n,w' = w.drewN n:=by
 obtain ⟨⟨wv,vv,hv,nv,hP,hB,h1,h2,h3,h4,hF,hN⟩,hfit⟩:=h
 obtain ⟨hl,hp,_,_⟩:=hfit
 obtain ⟨⟨c0,c1,c2,_,_,_⟩,fz⟩:=cells6 hP
 clear h2 h3 h4 hF hN hB hP fz
 obtain ⟨ao,cap,rfl,hn,hm,hc⟩:=Strs.of_own h1
 have HC:=hide hc
 clear hc h1
 unfold maxLen at hm
 cases hf:s.failed with
 | true =>
  rw [pk_failed hf]
  rw [hf] at c2
  clear hf
  go_enter Tryz.func160,Tryz.ntmps160
  go_wp2_with fail
  go_quiet (fail)
  go_wp2_with fail
  go_ret
  exact ⟨rfl,_,rfl⟩
 | false =>
  rw [hf] at c2
  by_cases hlt:s.pos < ws.length
  ·obtain ⟨g,off,hao,hcell⟩:=uh HC (by intro h;rw [h] at hlt;simp at hlt)
   have hcx:=hcell s.pos hlt
   rw [pk_at hf hlt]
   have hd:decide ((ws.length:Int)≤(s.pos:Int)) = false:=by simp;omega
   clear hcell hf
   rw [hao] at c0
   go_enter Tryz.func160,Tryz.ntmps160
   go_wp2_with fail
   go_quiet (fail)
   go_wp2_with fail
   go_quiet (fail)
   go_wp2_with fail
   go_ret
   exact ⟨rfl,_,drewN2 _ _ _⟩
  ·rw [pk_end (by omega)]
   have hd:decide ((ws.length:Int)≤(s.pos:Int)) = true:=by simp;omega
   clear hf
   go_enter Tryz.func160,Tryz.ntmps160
   go_wp2_with fail
   go_quiet (fail)
   go_wp2_with fail
   go_ret
   exact ⟨rfl,_,rfl⟩
theorem set6 {w:World} {P:Nat} {xs:Array Value} {t:TypeId} {j:Nat} (h:w.heap[P]? = some (.cells xs t (0,0))) (u:Value) :
  (w.setCell ⟨P,j,none⟩ u).heap[P]? = some (.cells (xs.setIfInBounds j u) t (0,0)):=by
 simp [World.setCell,Array.getElem?_modify,h]
theorem IsP.setPos (h:IsP B WV w P ws s F) (n:Nat):IsP B WV (w.setCell ⟨P,1,none⟩ (.int .i64 n)) P ws { s with pos:=n } F:=by
 obtain ⟨wv,vv,hv,nv,hP,hB,h1,h2,h3,h4,hF,hN⟩:=h
 have hne:∀ k,wv.ownBlock = some k∨vv.ownBlock = some k∨hv.ownBlock = some k∨nv.ownBlock = some k→k≠P:=by
  rw [hF] at hN
  rintro k hk rfl
  exact (List.nodup_cons.1 hN).1 (by simpa using hk)
 have hk:∀ k,wv.ownBlock = some k∨vv.ownBlock = some k∨hv.ownBlock = some k∨nv.ownBlock = some k→(w.setCell ⟨P,1,none⟩ (.int .i64 n)).heap[k]? = w.heap[k]? :=
  fun k hk=>Below.heap_setCell _ _ _ _ (hne k hk)
 exact ⟨wv,vv,hv,nv,set6 hP _,hB,ownsRow_of_eq h1 (fun k h=>hk k (by simp [h])),ownsRow_of_eq h2 (fun k h=>hk k (by simp [h])),ownsRow_of_eq h3 (fun k h=>hk k (by simp [h])),ownsRow_of_eq h4 (fun k h=>hk k (by simp [h])),hF,hN⟩
theorem IsP.setFailed (h:IsP B WV w P ws s F) (b:Bool):IsP B WV (w.setCell ⟨P,2,none⟩ (.bool b)) P ws { s with failed:=b } F:=by
 obtain ⟨wv,vv,hv,nv,hP,hB,h1,h2,h3,h4,hF,hN⟩:=h
 have hne:∀ k,wv.ownBlock = some k∨vv.ownBlock = some k∨hv.ownBlock = some k∨nv.ownBlock = some k→k≠P:=by
  rw [hF] at hN
  rintro k hk rfl
  exact (List.nodup_cons.1 hN).1 (by simpa using hk)
 have hk:∀ k,wv.ownBlock = some k∨vv.ownBlock = some k∨hv.ownBlock = some k∨nv.ownBlock = some k→(w.setCell ⟨P,2,none⟩ (.bool b)).heap[k]? = w.heap[k]? :=
  fun k hk=>Below.heap_setCell _ _ _ _ (hne k hk)
 exact ⟨wv,vv,hv,nv,set6 hP _,hB,ownsRow_of_eq h1 (fun k h=>hk k (by simp [h])),ownsRow_of_eq h2 (fun k h=>hk k (by simp [h])),ownsRow_of_eq h3 (fun k h=>hk k (by simp [h])),ownsRow_of_eq h4 (fun k h=>hk k (by simp [h])),hF,hN⟩
theorem IsP.reads (h:IsP B WV w P ws s F):w.cell? ⟨P,1,none⟩ = some (.int .i64 s.pos)∧w.cell? ⟨P,2,none⟩ = some (.bool s.failed)∧w.frozen? ⟨P,1,none⟩ = false∧w.frozen? ⟨P,2,none⟩ = false:=by
 obtain ⟨wv,vv,hv,nv,hP,_⟩:=h
 obtain ⟨⟨c0,c1,c2,_,_,_⟩,fz⟩:=cells6 hP
 exact ⟨c1,c2,fz 1,fz 2⟩
set_option maxRecDepth 100000 in
set_option maxHeartbeats 1000000 in
theorem accept_any (k:ByteArray) (hk:k.size≠0) (h:IsQ B WV w P ws s F) :
  Calls Tryz.prog 158 #[.pointer (some ⟨P,0,none⟩),.string k] w fun e w'=>e = .returned (.bool (acB ws k s))∧IsQ B WV w' P ws (acS ws k s) F∧Stp F w F w':=by
 have HP:=hide h
 cases hb:acB ws k s with
 | true =>
  have hb':((pk ws s).toList == k.toList) = true:=hb
  have HS:Hid (acS ws k s = s.adv):=if_pos hb
  clear hb
  obtain ⟨c1,c2,f1,f2⟩:=h.m.reads
  obtain ⟨hl,hp,_,_⟩:=h.f
  clear h c2 f2
  go_enter Tryz.func158,Tryz.ntmps158
  go_wp2_with (go_at_call 160;refine (peek_any (uh HP)).mono ?_;rintro e w' ⟨rfl,n,rfl⟩)
  go_ret
  exact ⟨rfl,by rw [uh HS];exact ⟨((uh HP).m.drewN n).setPos _,(uh HP).f.adv (acB_lt hk hb')⟩,((Stp.refl F w).drewN n).setCell (Or.inl (uh HP).m.memP) _⟩
 | false =>
  have hb':((pk ws s).toList == k.toList) = false:=hb
  have HS:Hid (acS ws k s = s):=if_neg (by simp [hb])
  clear hb h
  go_enter Tryz.func158,Tryz.ntmps158
  go_wp2_with (go_at_call 160;refine (peek_any (uh HP)).mono ?_;rintro e w' ⟨rfl,n,rfl⟩)
  go_ret
  exact ⟨rfl,by rw [uh HS];exact ⟨(uh HP).m.drewN n,(uh HP).f⟩,(Stp.refl F w).drewN n⟩
set_option maxRecDepth 100000 in
set_option maxHeartbeats 1000000 in
theorem expect_any (k:ByteArray) (hk:k.size≠0) (h:IsQ B WV w P ws s F) :
  Calls Tryz.prog 120 #[.pointer (some ⟨P,0,none⟩),.string k] w fun e w'=>e = .returned (.tuple #[])∧IsQ B WV w' P ws (exS ws k s) F∧Stp F w F w':=by
 have HP:=hide h
 clear h
 have HA:=hide (accept_any k hk (uh HP))
 cases hb:acB ws k s with
 | true =>
  have HS:Hid (acS ws k s = exS ws k s):=hide (by unfold acS exS;rw [if_pos hb,if_pos hb])
  rw [hb] at HA
  clear hb
  go_enter Tryz.func120,Tryz.ntmps120
  go_wp2_with (go_at_call 158;refine (uh HA).mono ?_;rintro e w' ⟨rfl,hI,hS⟩)
  go_end0
  exact ⟨rfl,by rw [← uh HS];exact hI,hS⟩
 | false =>
  have HS:Hid (exS ws k s = (acS ws k s).fail):=hide (by unfold acS exS;rw [if_neg (by simp [hb]),if_neg (by simp [hb])])
  rw [hb] at HA
  clear hb
  go_enter Tryz.func120,Tryz.ntmps120
  go_wp2_with (go_at_call 158;refine (uh HA).mono ?_;rintro e w' ⟨rfl,hI,hS⟩;obtain ⟨c1,c2,f1,f2⟩:=hI.m.reads;have HI:=hide hI;clear hI)
  go_end0
  exact ⟨rfl,by rw [uh HS];exact ⟨(uh HI).m.setFailed true,(uh HI).f⟩,hS.setCell (Or.inl (uh HI).m.memP) _⟩
end
def plc:List UInt8→UInt8→Nat
 | [],_=>0
 | x :: r,c=>if x = c then 0 else plc r c + 1
theorem plc_le (l:List UInt8) (c:UInt8):plc l c≤l.length:=by
 induction l with
 | nil=>simp [plc]
 | cons x r ih=>simp only [plc];split <;> simp <;> omega
theorem plc_hit (l:List UInt8) (c:UInt8) (k:Nat) (hk:k < l.length) (hn:∀ j,(hj:j < l.length)→j < k→l[j]≠c) (h:l[k] = c):plc l c = k:=by
 induction l generalizing k with
 | nil=>simp at hk
 | cons x r ih =>
  cases k with
  | zero=>simp only [List.getElem_cons_zero] at h;simp [plc,h]
  | succ k =>
   have h0:x≠c:=hn 0 (by simp) (by omega)
   simp only [plc,if_neg h0]
   rw [ih k (by simpa using hk) (fun j hj hjk=>hn (j + 1) (by simpa using hj) (by omega)) (by simpa using h)]
theorem plc_miss (l:List UInt8) (c:UInt8) (hn:∀ j,(hj:j < l.length)→l[j]≠c):plc l c = l.length:=by
 induction l with
 | nil=>rfl
 | cons x r ih =>
  have h0:x≠c:=hn 0 (by simp)
  simp only [plc,if_neg h0,List.length_cons]
  rw [ih (fun j hj=>hn (j + 1) (by simpa using hj))]
theorem bytes_of_own {w:World} {B:Nat} {v:Value} {l:List UInt8} (h:w.ownsRow B 5 1 v l.length (bc l)) :
  ∃ ao cap,v = .slice ao l.length cap∧cap≤maxLen∧(l≠[]→∃ g,ao = some ⟨g,0,none⟩∧∀ j,(h:j < l.length)→w.cell? ⟨g,j,none⟩ = some (.int .u8 (l[j].toNat:Int))):=by
 have hcs:=fun g hg=>h.cells (g:=g) hg
 rcases h.2 with ⟨rfl,h0⟩ | ⟨g,cap,cur,rfl,_,_,hn,hm,_,_⟩
 ·have:l = []:=List.eq_nil_of_length_eq_zero h0
  subst this
  exact ⟨_,_,rfl,by simp,fun h=>absurd rfl h⟩
 ·refine ⟨_,_,rfl,hm,fun _=>⟨g,rfl,fun j hj=>?_⟩⟩
  have:=hcs g rfl j (.int .u8 (l[j].toNat:Int)) (by simp [bc,hj])
  rw [show (⟨g,0,none⟩:Addr).add j = ⟨g,j,none⟩ by unfold Addr.add;split <;> simp_all] at this
  exact this
theorem u8_eq2 (a c:UInt8):((a.toNat:Int) == (c.toNat:Int)) = true↔a = c:=by
 rw [beq_iff_eq]
 constructor
 ·intro h;apply UInt8.toNat.inj;omega
 ·rintro rfl;rfl
set_option maxRecDepth 100000 in
set_option maxHeartbeats 1000000 in
theorem place_any {B:Nat} {w:World} {v:Value} {l:List UInt8} (c:UInt8) (h:w.ownsRow B 5 1 v l.length (bc l)) (hl:l.length≤20000) :
  Calls Tryz.prog 212 #[v,.int .u8 (c.toNat:Int)] w fun e w'=>e = .returned (.int .i64 (plc l c))∧w' = w:=by
 obtain ⟨ao,cap,rfl,hm,hc⟩:=bytes_of_own h
 have HC:=hide hc
 clear hc h
 unfold maxLen at hm
 go_enter Tryz.func212,Tryz.ntmps212
 go_wp2_with fail
 go_loop [5] (fun i=>∃ k:Nat,k≤l.length∧i = .int .i64 k∧Hid (∀ j,(hj:j < l.length)→j < k→l[j]≠c)) (fun i=>l.length - (intOf i).toNat)
 case atStart=>exact ⟨0,Nat.zero_le _,rfl,fun _ _ h=>absurd h (by omega)⟩
 case round =>
  obtain ⟨k,hk,rfl,hall⟩:=hrel
  by_cases hlt:k < l.length
  ·obtain ⟨g,hao,hcell⟩:=uh HC (by intro h;rw [h] at hlt;simp at hlt)
   have hcx:=hcell k hlt
   clear hcell
   rw [hao]
   cases he:((l[k].toNat:Int) == (c.toNat:Int)) with
   | true =>
    go_wp2_with fail
    go_ret
    exact ⟨ret_int (by rw [plc_hit l c k hlt hall.out ((u8_eq2 _ _).1 he)]),rfl⟩
   | false =>
    go_wp2_with fail
    go_round
    case rel =>
     refine ⟨k + 1,by omega,by go_num,fun j hj hjk=>?_⟩
     by_cases hjk':j = k
     ·subst hjk';intro e;rw [(u8_eq2 _ _).2 e] at he;cases he
     ·exact hall.out j hj (by omega)
    case measure=>simp [intOf];omega
  ·have hd:decide ((k:Int) < (l.length:Int)) = false:=by simp;omega
   go_wp2_with fail
   go_ret
   exact ⟨ret_int (by rw [plc_miss l c (fun j hj=>hall.out j hj (by omega))]),rfl⟩
section
variable {P:Program} (w:World)
theorem run_app1 (base:Nat) (t ty e:TypeId) (i:TypeInfo) (z:Value) (size bytes:Nat) (ht:P.underlying t = some (.slice e)) (hi:P.info? e = some i) (hz:i.zero = some z)
  (hsize:i.size = size) (hby:i.bytes = bytes) (hzs:z.cells.size = size) (hsz:0 < size)
  (v:Value) (n:Nat) (xs:List Value) (hown:w.ownsRow base e size v n xs)
  (a:Addr) (c:Nat) (news:List Value) (hl:news.length = size) (hnews:∀ j u,news[j]? = some u→w.cell? (a.add j) = some u) (h1:∀ u∈news,u.oneCell' = true)
  (h63:n + 1≤1000000) (hb:bytes≤1000) (hbase:base≤w.heap.size) :
  ∃ v' w',(Builtin.append_ #[t,t] ty #[v,.slice (some a) 1 c]).run P w = .ok v' w'∧w'.ownsRow base e size v' (n + 1) (xs ++ news)∧w.grownBy w' v.ownBlock ∧
   (v'.ownBlock = v.ownBlock∨v'.ownBlock = some w.heap.size)∧∃ g cap,v' = .slice (some ⟨g,0,none⟩) (n + 1) cap:=by
 have hbytes:(n + 1) * bytes≤140737488355328:=Nat.le_trans (Nat.mul_le_mul h63 hb) (by decide)
 obtain ⟨v',w',hr,ho,hg,_⟩:=run_append_own (P:=P) w base t ty e i z size bytes ht hi hz hsize hby hzs hsz v n xs hown a 1 c news (by omega) hnews h1 (by unfold maxLen;omega) hbytes hbase
 refine ⟨v',w',hr,ho,hg,?_,?_⟩
 ·subst hsize
  subst hby
  rcases hown.2 with ⟨rfl,rfl⟩ | ⟨g,cap,cur,rfl,hbg,hgg,hnc,hcm,hcs,htake⟩
  ·have hr2:=run_append_nil (P:=P) w t ty e i z ht hi hz a 1 c news (by omega) hnews (by omega) (by omega) (by omega)
   rw [hr] at hr2
   injection hr2 with e1 e2
   subst e1
   exact Or.inr rfl
  ·by_cases hroom:n + 1≤cap
   ·have hfit:n * i.size + news.length≤cur.size:=by
     rw [hl,hcs]
     have:=Nat.mul_le_mul_right i.size hroom
     rw [Nat.add_mul] at this
     omega
    have hr2:=run_append_room (P:=P) w t ty e i ht hi g n cap cur hgg a 1 c news (by omega) hnews h1 hroom hfit
    rw [hr] at hr2
    injection hr2 with e1 e2
    subst e1
    exact Or.inl rfl
   ·have holds:∀ j u,xs[j]? = some u→w.cell? ((⟨g,0,none⟩:Addr).add j) = some u:=hown.cells (g:=g) rfl
    have hr2:=run_append_grow (P:=P) w t ty e i z ht hi hz ⟨g,0,none⟩ n cap xs hown.1 holds a 1 c news (by omega) hnews (by omega) (by omega) (growslice_fits (by omega) hbytes)
    rw [hr] at hr2
    injection hr2 with e1 e2
    subst e1
    exact Or.inr rfl
 ·rcases ho.2 with ⟨_,h⟩ | ⟨g,cap,_,h,_⟩
  ·omega
  ·exact ⟨g,cap,h⟩
theorem step_app1 {ops:Array Oper} {o:Oper} {a:Act} {K:Act→World→Prop} {Q:Exit→Act→World→Prop} {E:Prop}
  (hg:o.guard = none) (s x:Operand) (t:TypeId) (hop:o.op = Op.call { callee:=Callee.builtin Builtin.append,args:=#[s,x],argTypes:=#[t,t] })
  (base:Nat) (e:TypeId) (i:TypeInfo) (z:Value) (size bytes:Nat) (ht:P.underlying t = some (.slice e)) (hi:P.info? e = some i) (hz:i.zero = some z)
  (hsize:i.size = size) (hby:i.bytes = bytes) (hzs:z.cells.size = size) (hsz:0 < size)
  (v:Value) (n:Nat) (xs:List Value) (hs:a.eval s = v) (hown:w.ownsRow base e size v n xs)
  (ad:Addr) (c:Nat) (news:List Value) (hx:a.eval x = .slice (some ad) 1 c) (hl:news.length = size) (hnews:∀ j u,news[j]? = some u→w.cell? (ad.add j) = some u) (h1:∀ u∈news,u.oneCell' = true)
  (h63:n + 1≤1000000) (hb:bytes≤1000) (hbase:base≤w.heap.size)
  (hK:∀ g cap w',w'.ownsRow base e size (.slice (some ⟨g,0,none⟩) (n + 1) cap) (n + 1) (xs ++ news)→w.grownBy w' v.ownBlock→(some g = v.ownBlock∨g = w.heap.size)→K (a.put o.dst (.slice (some ⟨g,0,none⟩) (n + 1) cap)) w') :
  if Region.wanted o (yielded ops a.tmps) = true then Oper.wp P o a w K Q else E:=by
 have hw:Region.wanted o (yielded ops a.tmps) = true:=by simp [Region.wanted,hg]
 rw [if_pos hw]
 obtain ⟨v',w',hrun,r1,r2,r3,g,cap,rfl⟩:=run_app1 (P:=P) w base t o.type e i z size bytes ht hi hz hsize hby hzs hsz v n xs hown ad c news hl hnews h1 h63 hb hbase
 unfold Oper.wp
 simp [execOp,hop,resolve,invoke,builtin,hs,hx,hrun,Result.andThen]
 exact hK g cap w' r1 r2 (by simpa [Value.ownBlock] using r3)
end
end Go.Proofs.YtciihepbeacppaaGreat
