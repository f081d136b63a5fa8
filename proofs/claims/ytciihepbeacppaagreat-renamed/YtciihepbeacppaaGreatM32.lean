import Derived.Test.YtciihepbeacppaaGreatWX
import Derived.Test.YtciihepbeacppaaGreatM29
import Derived.Laws.IdiomStrings
namespace Go.Proofs.YtciihepbeacppaaGreat
open Go.RowKit
set_option linter.unusedVariables false
theorem tw_take:∀ (l:List UInt8),l.take (l.takeWhile letB).length = l.takeWhile letB
 | []=>rfl
 | c :: r=>by
  rw [List.takeWhile_cons]
  split
  ·rw [List.length_cons,List.take_succ_cons,tw_take r]
  ·rfl
def smU (c:UInt8):Bool:=smallB c.toNat
def shU (k:Nat) (c:UInt8):UInt8:=UInt8.ofNat (97 + (c.toNat - 97 + k) % 26)
theorem smU_iff {c:UInt8}:smU c = true↔97≤c.toNat∧c.toNat≤122:=by
 unfold smU smallB
 rw [Bool.and_eq_true,decide_eq_true_eq,decide_eq_true_eq]
 omega
theorem shU_nat (k:Nat) (c:UInt8):(shU k c).toNat = 97 + (c.toNat - 97 + k) % 26:=by
 unfold shU
 have:(c.toNat - 97 + k) % 26 < 26:=Nat.mod_lt _ (by omega)
 rw [UInt8.toNat_ofNat']
 exact Nat.mod_eq_of_lt (by omega)
theorem shU_sm (k:Nat) (c:UInt8):smU (shU k c) = true:=by
 rw [smU_iff,shU_nat]
 have:(c.toNat - 97 + k) % 26 < 26:=Nat.mod_lt _ (by omega)
 omega
theorem shU_inj {k:Nat} {c d:UInt8} (hc:smU c = true) (hd:smU d = true) (h:shU k c = shU k d):c = d:=by
 rw [smU_iff] at hc hd
 have h1:=congrArg UInt8.toNat h
 rw [shU_nat,shU_nat] at h1
 apply UInt8.toNat_inj.1
 omega
theorem sm_let {c:UInt8} (h:smU c = true):letB c = true:=by unfold letB;rw [show smallB c.toNat = true from h];rfl
def nxB:List UInt8→Bool
 | []=>false
 | d :: _=>letB d
def ltR (k:Nat):Bool→Bool→List UInt8→List UInt8
 | _,_,[]=>[]
 | p,f,c :: r=>(if smU c && !p && !nxB r && !f then shU k c else c) :: ltR k (letB c) (if c = 32∨c = 10 then f else c == 46) r
theorem ltR_cons (k:Nat) (p f:Bool) (c:UInt8) (r:List UInt8):ltR k p f (c :: r) = (if smU c && !p && !nxB r && !f then shU k c else c) :: ltR k (letB c) (if c = 32∨c = 10 then f else c == 46) r:=rfl
def Sm1 (c d:UInt8):Prop:=d = c∨(smU c = true∧smU d = true)
def SmL:List UInt8→List UInt8→Prop
 | [],[]=>True
 | c :: l,d :: m=>Sm1 c d∧SmL l m
 | _,_=>False
theorem SmL.nil:SmL [] []:=trivial
theorem SmL.cons {c d:UInt8} {l m:List UInt8} (h:Sm1 c d) (h2:SmL l m):SmL (c :: l) (d :: m):=⟨h,h2⟩
theorem SmL.ind {motive:(l m:List UInt8)→SmL l m→Prop} (nil:motive [] [] .nil) (cons:∀ {c d:UInt8} {l m:List UInt8} (h1:Sm1 c d) (h2:SmL l m),motive l m h2→motive (c :: l) (d :: m) (.cons h1 h2)):∀ {l m:List UInt8} (h:SmL l m),motive l m h
 | [],[],_=>nil
 | _ :: _,_ :: _,h=>cons h.1 h.2 (SmL.ind nil cons h.2)
 | [],_ :: _,h=>h.elim
 | _ :: _,[],h=>h.elim
theorem SmL.cs {motive:(l m:List UInt8)→SmL l m→Prop} (nil:motive [] [] .nil) (cons:∀ {c d:UInt8} {l m:List UInt8} (h1:Sm1 c d) (h2:SmL l m),motive (c :: l) (d :: m) (.cons h1 h2)) {l m:List UInt8} (h:SmL l m):motive l m h:=SmL.ind nil (fun h1 h2 _=>cons h1 h2) h
theorem Sm1.let {c d:UInt8} (h:Sm1 c d):letB d = letB c:=by
 rcases h with rfl | ⟨h1,h2⟩
 ·rfl
 ·rw [sm_let h1,sm_let h2]
theorem Sm1.fix {c d:UInt8} (h:Sm1 c d) (hc:smU c = false):d = c:=by
 rcases h with h | ⟨h1,-⟩
 ·exact h
 ·rw [hc] at h1;cases h1
theorem Sm1.bk {c d:UInt8} (h:Sm1 c d) (hd:smU d = false):d = c:=by
 rcases h with h | ⟨-,h1⟩
 ·exact h
 ·rw [hd] at h1;cases h1
theorem ltR_sm (k:Nat):∀ (l:List UInt8) (p f:Bool),SmL l (ltR k p f l)
 | [],_,_=>.nil
 | c :: r,p,f=>by
  unfold ltR
  refine .cons ?_ (ltR_sm k r _ _)
  split
  ·rename_i h
   simp only [Bool.and_eq_true] at h
   exact Or.inr ⟨h.1.1.1,shU_sm k c⟩
  ·exact Or.inl rfl
theorem SmL.len {l m:List UInt8} (h:SmL l m):m.length = l.length:=by
 induction h using SmL.ind with
 | nil=>rfl
 | cons _ _ ih=>simp [ih]
theorem SmL.letN {l m:List UInt8} (h:SmL l m):lettersN m = lettersN l:=by
 unfold lettersN
 induction h using SmL.ind with
 | nil=>rfl
 | cons h1 _ ih =>
  rw [List.takeWhile_cons,List.takeWhile_cons,h1.let]
  split
  ·rw [List.length_cons,List.length_cons,ih]
  ·rfl
theorem SmL.two {l m:List UInt8} (h:SmL l m) {a b:UInt8} (ha:smU a = false) (hb:smU b = false):m.take 2 = [a,b]↔l.take 2 = [a,b]:=by
 cases h using SmL.cs with
 | nil=>exact Iff.rfl
 | cons h1 h' =>
  cases h' using SmL.cs with
  | nil=>simp
  | cons h2 h'' =>
   rename_i c d c2 d2 l2 m2
   have e1:d = a↔c = a:=⟨fun e=>by have:=h1.bk (by rw [e];exact ha);rw [← this];exact e,fun e=>by have:=h1.fix (by rw [e];exact ha);rw [this];exact e⟩
   have e2:d2 = b↔c2 = b:=⟨fun e=>by have:=h2.bk (by rw [e];exact hb);rw [← this];exact e,fun e=>by have:=h2.fix (by rw [e];exact hb);rw [this];exact e⟩
   simp [e1,e2]
theorem sign_nsm {c:UInt8} (h:signB c.toNat = true):smU c = false:=by
 cases hc:smU c with
 | false=>rfl
 | true =>
  rw [smU_iff] at hc
  unfold signB at h
  simp only [Bool.or_eq_true,beq_iff_eq] at h
  omega
theorem SmL.word {l m:List UInt8} (h:SmL l m):wordLen m = wordLen l:=by
 unfold wordLen
 rw [h.letN]
 split
 ·rfl
 ·have e1:=h.two (a:=45) (b:=62) (by decide) (by decide)
  have e2:=h.two (a:=33) (b:=61) (by decide) (by decide)
  by_cases h2:l.take 2 = [45,62]∨l.take 2 = [33,61]
  ·rw [if_pos h2,if_pos (by rw [e1,e2];exact h2)]
  ·rw [if_neg h2,if_neg (by rw [e1,e2];exact h2)]
   clear h2 e1 e2
   cases h using SmL.cs with
   | nil=>rfl
   | cons h1 h' =>
    rename_i c d l' m' _
    show (if signB d.toNat = true then 1 else 0) = if signB c.toNat = true then 1 else 0
    rcases h1 with rfl | ⟨h1,h2⟩
    ·rfl
    ·have e1:signB d.toNat = false:=by
      cases hs:signB d.toNat with
      | false=>rfl
      | true=>rw [sign_nsm hs] at h2;cases h2
     have e2:signB c.toNat = false:=by
      cases hs:signB c.toNat with
      | false=>rfl
      | true=>rw [sign_nsm hs] at h1;cases h1
     rw [e1,e2]
theorem ltR_p {k:Nat} {f:Bool}:∀ {r:List UInt8},nxB r = false→ltR k true f r = ltR k false f r
 | [],_=>rfl
 | c :: r,h=>by
  have hc:smU c = false:=by
   cases hs:smU c with
   | false=>rfl
   | true=>have:=sm_let hs;rw [show nxB (c :: r) = letB c from rfl] at h;rw [h] at this;cases this
  rw [ltR_cons,ltR_cons,hc]
  rfl
theorem let_nb {c:UInt8} (h:letB c = true):¬ (c = 32∨c = 10)∧(c == 46) = false:=by
 refine ⟨?_,?_⟩
 ·rintro (rfl | rfl) <;> exact absurd h (by decide)
 ·rw [beq_eq_false_iff_ne];rintro rfl;exact absurd h (by decide)
theorem ltR_run {k:Nat} {r:List UInt8}:∀ (x:List UInt8) {f:Bool},x≠[]→(∀ c∈x,letB c = true)→ltR k true f (x ++ r) = x ++ ltR k true false r
 | [],_,h,_=>absurd rfl h
 | c :: x,f,_,hx=>by
  have hc:=hx c (by simp)
  have hb:=let_nb hc
  rw [List.cons_append,ltR_cons,if_neg hb.1,hb.2,hc]
  simp only [Bool.not_true,Bool.and_false,Bool.false_and,Bool.false_eq_true,if_false]
  rw [List.cons_append]
  congr 1
  cases x with
  | nil=>rfl
  | cons d x=>exact ltR_run (d :: x) (by simp) (fun e he=>hx e (by simp [he]))
def rnL (k:Nat) (f:Bool) (x:List UInt8):List UInt8 :=
 match x with
 | [c]=>if smU c && !f then [shU k c] else [c]
 | x=>x
def rnW (k:Nat):Bool→List (List UInt8)→List (List UInt8)
 | _,[]=>[]
 | f,x :: r=>rnL k f x :: rnW k (decide (x = [46])) r
theorem rnL_len (k:Nat) (f:Bool) (x:List UInt8):(rnL k f x).length = x.length:=by
 unfold rnL
 split
 ·split <;> rfl
 ·rfl
theorem ltR_word {k:Nat} {f:Bool} {c:UInt8} {r:List UInt8} (hb:¬ (c = 32∨c = 10)) (h0:wordLen (c :: r)≠0) :
  ltR k false f (c :: r) = rnL k f ((c :: r).take (wordLen (c :: r))) ++ ltR k false (decide ((c :: r).take (wordLen (c :: r)) = [46])) ((c :: r).drop (wordLen (c :: r))):=by
 by_cases hl:0 < lettersN (c :: r)
 ·have e:wordLen (c :: r) = lettersN (c :: r):=by unfold wordLen;rw [if_pos hl]
  have e2:(c :: r).take (wordLen (c :: r)) = (c :: r).takeWhile letB:=by rw [e];exact tw_take _
  have e3:(c :: r).drop (wordLen (c :: r)) = (c :: r).dropWhile letB:=by
   have h1:=List.takeWhile_append_dropWhile (p:=letB) (l:=c :: r)
   have h2:=List.take_append_drop (wordLen (c :: r)) (c :: r)
   rw [e2] at h2
   exact List.append_cancel_left (h2.trans h1.symm)
  rw [e2,e3]
  have hc:letB c = true:=by
   cases hc:letB c with
   | true=>rfl
   | false=>exfalso;unfold lettersN at hl;rw [List.takeWhile_cons,hc] at hl;simp at hl
  have htw:(c :: r).takeWhile letB = c :: r.takeWhile letB:=by rw [List.takeWhile_cons,hc];rfl
  have hdw:(c :: r).dropWhile letB = r.dropWhile letB:=by rw [List.dropWhile_cons,hc];rfl
  have hr:r = r.takeWhile letB ++ r.dropWhile letB:=List.takeWhile_append_dropWhile.symm
  have hall:∀ d∈r.takeWhile letB,letB d = true:=fun d hd=>List.all_eq_true.1 (List.all_takeWhile (p:=letB) (l:=r)) d hd
  have hn:nxB (r.dropWhile letB) = false:=by
   have h9:=List.head?_dropWhile_not letB r
   cases hd:r.dropWhile letB with
   | nil=>rfl
   | cons d t =>
    rw [hd] at h9
    simp only [List.head?_cons] at h9
    show letB d = false
    simpa using h9
  rw [htw,hdw]
  have hd46:decide (c :: r.takeWhile letB = [46]) = false:=by
   rw [decide_eq_false_iff_not]
   intro e9
   injection e9 with e9 _
   rw [e9] at hc
   exact absurd hc (by decide)
  rw [hd46]
  have hnb:=let_nb hc
  generalize hx:r.takeWhile letB = x at *
  generalize hy:r.dropWhile letB = y at *
  rw [hr]
  rw [ltR_cons,if_neg hnb.1,hnb.2,hc]
  cases x with
  | nil =>
   rw [List.nil_append,hn,ltR_p hn]
   unfold rnL
   simp only [Bool.not_false,Bool.and_true]
   split <;> rfl
  | cons d x =>
   have hnx:nxB ((d :: x) ++ y) = true:=hall d (by simp)
   rw [hnx,ltR_run (d :: x) (by simp) hall,ltR_p hn]
   simp [rnL]
 ·have hlc:letB c = false:=by
   cases hc:letB c with
   | false=>rfl
   | true=>exfalso;apply hl;unfold lettersN;rw [List.takeWhile_cons,hc];simp
  have hsc:smU c = false:=by
   cases hs:smU c with
   | false=>rfl
   | true=>have:=sm_let hs;rw [hlc] at this;cases this
  have step:∀ t,ltR k false f (c :: t) = c :: ltR k false (c == 46) t:=fun t=>by
   rw [show ltR k false f (c :: t) = (if smU c && !false && !nxB t && !f then shU k c else c) :: ltR k (letB c) (if c = 32∨c = 10 then f else c == 46) t from rfl,if_neg hb,hsc,hlc]
   rfl
  by_cases h2:(c :: r).take 2 = [45,62]∨(c :: r).take 2 = [33,61]
  ·have e:wordLen (c :: r) = 2:=by unfold wordLen;rw [if_neg hl,if_pos h2]
   rw [e]
   cases r with
   | nil=>simp at h2
   | cons d t =>
    have hd:(c = 45∧d = 62)∨(c = 33∧d = 61):=by simpa using h2
    rw [step]
    rcases hd with ⟨rfl,rfl⟩ | ⟨rfl,rfl⟩
    ·rfl
    ·rfl
  ·have e:wordLen (c :: r) = if signB c.toNat then 1 else 0:=by unfold wordLen;rw [if_neg hl,if_neg h2]
   have hs:signB c.toNat = true:=by
    cases hs:signB c.toNat with
    | true=>rfl
    | false=>rw [e,hs] at h0;simp at h0
   have e1:wordLen (c :: r) = 1:=by rw [e,hs];rfl
   rw [e1,step]
   show c :: ltR k false (c == 46) r = rnL k f [c] ++ ltR k false (decide ([c] = [46])) r
   have h46:decide ([c] = [46]) = (c == 46):=by
    cases hq:(c == 46) with
    | true=>simp at hq;simp [hq]
    | false=>simp at hq;simp [hq]
   rw [h46]
   unfold rnL
   simp [hsc]
theorem spl_lt (k:Nat):∀ (n:Nat) (l:List UInt8) (f:Bool),l.length≤n→spl (ltR k false f l) = (spl l).map (rnW k f)
 | _,[],f,_=>rfl
 | 0,_ :: _,_,h=>by simp at h
 | n + 1,c :: r,f,h=>by
  simp only [List.length_cons] at h
  by_cases hb:c = 32∨c = 10
  ·have hsc:smU c = false:=by rcases hb with rfl | rfl <;> decide
   have hlc:letB c = false:=by rcases hb with rfl | rfl <;> decide
   have e:ltR k false f (c :: r) = c :: ltR k false f r:=by
    rw [show ltR k false f (c :: r) = (if smU c && !false && !nxB r && !f then shU k c else c) :: ltR k (letB c) (if c = 32∨c = 10 then f else c == 46) r from rfl,if_pos hb,hsc,hlc]
    rfl
   rw [e,spl_blank _ _ hb,spl_blank _ _ hb]
   exact spl_lt k n r f (by omega)
  ·have hsm:=ltR_sm k (c :: r) false f
   have hw:=hsm.word
   obtain ⟨d,t,hd⟩:∃ d t,ltR k false f (c :: r) = d :: t:=⟨_,_,rfl⟩
   have hdb:¬ (d = 32∨d = 10):=by
    rw [hd] at hsm
    have h1:Sm1 c d:=hsm.1
    rintro (rfl | rfl)
    ·have:=h1.bk (by decide);exact hb (Or.inl this.symm)
    ·have:=h1.bk (by decide);exact hb (Or.inr this.symm)
   by_cases h0:wordLen (c :: r) = 0
   ·rw [spl_none c r hb h0,hd,spl_none d t hdb (by rw [← hd,hw];exact h0)]
    rfl
   ·have hW:=ltR_word (k:=k) (f:=f) hb h0
    rw [hd,spl_word d t hdb (by rw [← hd,hw];exact h0),spl_word c r hb h0,← hd,hw]
    have hlen:(rnL k f ((c :: r).take (wordLen (c :: r)))).length = wordLen (c :: r):=by
     rw [rnL_len,List.length_take]
     have:=wordLen_le (c :: r)
     omega
    have e1:(ltR k false f (c :: r)).take (wordLen (c :: r)) = rnL k f ((c :: r).take (wordLen (c :: r))):=by rw [hW,List.take_left' hlen]
    have e2:(ltR k false f (c :: r)).drop (wordLen (c :: r)) = ltR k false (decide ((c :: r).take (wordLen (c :: r)) = [46])) ((c :: r).drop (wordLen (c :: r))):=by rw [hW,List.drop_left' hlen]
    rw [e1,e2,spl_lt k n _ _ (by rw [List.length_drop];simp only [List.length_cons];omega),Option.map_map,Option.map_map]
    rfl
theorem ltR_len (k:Nat) (p f:Bool) (l:List UInt8):(ltR k p f l).length = l.length:=(ltR_sm k l p f).len
def fdL (l:List UInt8):Bool:=l.foldl (fun f c=>if c = 32∨c = 10 then f else c == 46) false
def lfL (l:List UInt8) (i:Nat):Bool:=decide (0 < i) && letB (l.getD (i - 1) 0)
def rtL (l:List UInt8) (i:Nat):Bool:=decide (i + 1 < l.length) && letB (l.getD (i + 1) 0)
def smB' (l:List UInt8) (i:Nat):Bool:=smU (l.getD i 0) && !lfL l i && !rtL l i
def ltC (k:Nat) (l:List UInt8) (i:Nat):UInt8:=if smB' l i && !fdL (l.take i) then shU k (l.getD i 0) else l.getD i 0
def ltL (k:Nat) (l:List UInt8):List UInt8:=(List.range l.length).map (ltC k l)
theorem ltR_drop (k:Nat) (l:List UInt8):∀ (n i:Nat),i + n = l.length→(List.range' i n).map (ltC k l) = ltR k (lfL l i) (fdL (l.take i)) (l.drop i)
 | 0,i,h=>by rw [List.drop_eq_nil_of_le (by omega)];rfl
 | n + 1,i,h=>by
  have hi:i < l.length:=by omega
  rw [List.range'_succ,List.map_cons,List.drop_eq_getElem_cons hi,ltR_drop k l n (i + 1) (by omega)]
  have hg:l.getD i 0 = l[i]:=by simp [hi]
  have hnx:nxB (l.drop (i + 1)) = rtL l i:=by
   unfold rtL
   by_cases h1:i + 1 < l.length
   ·rw [List.drop_eq_getElem_cons h1,decide_eq_true h1]
    show letB l[i + 1] = _
    simp [h1]
   ·rw [List.drop_eq_nil_of_le (by omega),decide_eq_false h1]
    rfl
  have hlf:lfL l (i + 1) = letB l[i]:=by
   unfold lfL
   rw [Nat.add_sub_cancel,hg]
   simp
  have hfd:fdL (l.take (i + 1)) = if l[i] = 32∨l[i] = 10 then fdL (l.take i) else l[i] == 46:=by
   unfold fdL
   rw [List.take_succ_eq_append_getElem hi,List.foldl_append]
   rfl
  rw [hlf,hfd]
  show ltC k l i :: _ = (if smU l[i] && !lfL l i && !nxB (l.drop (i + 1)) && !fdL (l.take i) then shU k l[i] else l[i]) :: _
  rw [hnx]
  unfold ltC smB'
  rw [hg]
theorem ltL_eq (k:Nat) (l:List UInt8):ltL k l = ltR k false false l:=by
 have:=ltR_drop k l l.length 0 (by omega)
 rw [show lfL l 0 = false from rfl,List.take_zero,List.drop_zero] at this
 unfold ltL
 rw [List.range_eq_range']
 exact this
def rnB (k:Nat) (ws:List ByteArray):List ByteArray:=(rnW k false (ws.map (·.data.toList))).map (fun x=>⟨x.toArray⟩)
def rnS (k:Nat) (s:PS):PS:={ s with vars:=s.vars.map (shU k) }
theorem rnW_len (k:Nat):∀ (L:List (List UInt8)) (f:Bool),(rnW k f L).length = L.length
 | [],_=>rfl
 | x :: r,f=>by simp [rnW,rnW_len k r]
theorem rnB_len (k:Nat) (ws:List ByteArray):(rnB k ws).length = ws.length:=by unfold rnB;rw [List.length_map,rnW_len,List.length_map]
theorem rnW_get (k:Nat):∀ (L:List (List UInt8)) (f:Bool) (i:Nat),(rnW k f L)[i]? = (L[i]?).map (rnL k (if i = 0 then f else decide (L[i - 1]? = some [46])))
 | [],f,i=>by simp [rnW]
 | x :: r,f,0=>by simp [rnW]
 | x :: r,f,i + 1=>by
  simp only [rnW,List.getElem?_cons_succ]
  rw [rnW_get k r]
  cases i with
  | zero=>simp
  | succ i=>simp
def ptB (ws:List ByteArray) (s:PS):Bool:=if s.pos = 0 then false else decide ((ws.map (·.data.toList))[s.pos - 1]? = some [46])
theorem pk_rn (k:Nat) (ws:List ByteArray) (s:PS):(pk (rnB k ws) (rnS k s)).data.toList = rnL k (ptB ws s) (pk ws s).data.toList:=by
 unfold pk
 rw [show (rnS k s).failed = s.failed from rfl,show (rnS k s).pos = s.pos from rfl]
 split
 ·rfl
 ·unfold rnB
  rw [List.getElem?_map,rnW_get]
  unfold ptB
  rw [show (List.map (fun x:ByteArray=>x.data.toList) ws)[s.pos]? = (ws[s.pos]?).map (fun x:ByteArray=>x.data.toList) from List.getElem?_map ..]
  cases hw:ws[s.pos]? with
  | none=>rfl
  | some x=>rfl
theorem rnL_key {k:Nat} {f:Bool} {x key:List UInt8} (hk:∀ c,key = [c]→smU c = false):rnL k f x = key↔x = key:=by
 unfold rnL
 split
 ·rename_i c
  split
  ·rename_i h
   have hc:smU c = true:=by rw [Bool.and_eq_true] at h;exact h.1
   constructor
   ·intro e
    have:=hk _ e.symm
    rw [shU_sm] at this;cases this
   ·intro e
    have:=hk _ e.symm
    rw [hc] at this;cases this
  ·exact Iff.rfl
 ·exact Iff.rfl
def Key (w:ByteArray):Prop:=(∀ c,w.data.toList = [c]→smU c = false)∧w.data.toList≠[46]
section
variable {k:Nat} {ws:List ByteArray} {s:PS}
theorem acB_iff {key:ByteArray}:acB ws key s = true↔(pk ws s).data.toList = key.data.toList:=by
 unfold acB
 rw [beq_iff_eq,ByteArray.toList_eq,ByteArray.toList_eq]
theorem acB_rn {key:ByteArray} (hk:∀ c,key.data.toList = [c]→smU c = false):acB (rnB k ws) key (rnS k s) = acB ws key s:=by
 rw [Bool.eq_iff_iff,acB_iff,acB_iff,pk_rn,rnL_key hk]
structure RnI (ws:List ByteArray) (s:PS):Prop where
 nd:s.failed = true∨ptB ws s = false
 sv:∀ c∈s.vars,smU c = true
theorem pk_ok {x:List UInt8} (hx:(pk ws s).data.toList = x) (h0:x≠[]):s.failed = false∧(ws.map (·.data.toList))[s.pos]? = some x:=by
 unfold pk at hx
 cases hf:s.failed with
 | true=>rw [hf] at hx;exact absurd hx.symm h0
 | false =>
  rw [hf] at hx
  simp only [Bool.false_eq_true,if_false] at hx
  refine ⟨rfl,?_⟩
  rw [List.getElem?_map]
  cases hw:ws[s.pos]? with
  | none=>rw [hw] at hx;exact absurd hx.symm h0
  | some y=>rw [hw] at hx;simp only [Option.getD_some] at hx;simp [hx]
theorem pt_advS {x:List UInt8} (hx:(pk ws s).data.toList = x) (h0:x≠[]) {t:PS} (ht:t.pos = s.pos + 1):ptB ws t = decide (x = [46]):=by
 unfold ptB
 rw [ht,if_neg (by omega),Nat.add_sub_cancel,(pk_ok hx h0).2]
 simp
theorem RnI.fail (h:RnI ws s):RnI ws s.fail:=⟨Or.inl rfl,h.sv⟩
theorem RnI.adv {key:ByteArray} (h:RnI ws s) (hk:key.data.toList≠[46]) (h0:key.data.toList≠[]) (ha:acB ws key s = true):RnI ws s.adv:=by
 refine ⟨Or.inr ?_,h.sv⟩
 rw [pt_advS (acB_iff.1 ha) h0 (t:=s.adv) rfl]
 simpa using hk
def SimR (k:Nat) (ws:List ByteArray) (F:List ByteArray→PS→PS):Prop:=∀ s,RnI ws s→F (rnB k ws) (rnS k s) = rnS k (F ws s)∧RnI ws (F ws s)
theorem sim_id:SimR k ws (fun _ s=>s):=fun _ h=>⟨rfl,h⟩
theorem SimR.ite {key:ByteArray} (hk:Key key) (h0:key.data.toList≠[]) {F G:List ByteArray→PS→PS} (hf:SimR k ws F) (hg:SimR k ws G):SimR k ws (fun ws s=>if acB ws key s then F ws s.adv else G ws s):=fun s h=>by
 show (if acB (rnB k ws) key (rnS k s) = true then F (rnB k ws) (rnS k s).adv else G (rnB k ws) (rnS k s)) = rnS k (if acB ws key s = true then F ws s.adv else G ws s)∧RnI ws (if acB ws key s = true then F ws s.adv else G ws s)
 rw [acB_rn hk.1]
 split
 ·rename_i ha
  exact hf s.adv (h.adv hk.2 h0 ha)
 ·exact hg s h
theorem sim_fail:SimR k ws (fun _ s=>s.fail):=fun _ h=>⟨rfl,h.fail⟩
theorem sim_ex {key:ByteArray} (hk:Key key) (h0:key.data.toList≠[]):SimR k ws (fun ws s=>exS ws key s):=SimR.ite hk h0 sim_id sim_fail
theorem ex_n (h:RnI ws s) (hd:acB ws kDot s = true):exS (rnB k ws) kN (rnS k s).adv = rnS k (exS ws kN s.adv)∧RnI ws (exS ws kN s.adv):=by
 have hpt:ptB ws s.adv = true:=by
  rw [pt_advS (acB_iff.1 hd) (by simp [kDot]) (t:=s.adv) rfl]
  rfl
 have he:acB (rnB k ws) kN (rnS k s).adv = acB ws kN s.adv:=by
  rw [Bool.eq_iff_iff,acB_iff,acB_iff,show (rnS k s).adv = rnS k s.adv from rfl,pk_rn,hpt]
  have:∀ x,rnL k true x = x:=fun x=>by
   unfold rnL
   split
   ·simp
   ·rfl
  rw [this]
 unfold exS
 rw [he]
 split
 ·rename_i ha
  refine ⟨rfl,Or.inr ?_,h.sv⟩
  rw [pt_advS (acB_iff.1 ha) (by simp [kN]) (t:=s.adv.adv) rfl]
  rfl
 ·exact ⟨rfl,Or.inl rfl,h.sv⟩
theorem low_iff {x:ByteArray}:lowB x = true↔∃ c,x.data.toList = [c]∧smU c = true:=by
 unfold lowB
 split
 ·rename_i c hc
  rw [hc]
  constructor
  ·intro h;exact ⟨c,rfl,h⟩
  ·rintro ⟨d,e,h⟩;injection e with e _;rw [e];exact h
 ·rename_i hn
  constructor
  ·intro h;cases h
  ·rintro ⟨c,e,-⟩;exact absurd e (hn c)
theorem up_iff {x:ByteArray}:upB x = true↔∃ c,x.data.toList = [c]∧greatB c.toNat = true:=by
 unfold upB
 split
 ·rename_i c hc
  rw [hc]
  constructor
  ·intro h;exact ⟨c,rfl,h⟩
  ·rintro ⟨d,e,h⟩;injection e with e _;rw [e];exact h
 ·rename_i hn
  constructor
  ·intro h;cases h
  ·rintro ⟨c,e,-⟩;exact absurd e (hn c)
theorem great_ns {c:UInt8} (h:greatB c.toNat = true):smU c = false:=by
 cases hc:smU c with
 | false=>rfl
 | true =>
  rw [smU_iff] at hc
  unfold greatB at h
  rw [Bool.and_eq_true,decide_eq_true_eq,decide_eq_true_eq] at h
  omega
theorem low_rn (h:RnI ws s):lowB (pk (rnB k ws) (rnS k s)) = lowB (pk ws s)∧(lowB (pk ws s) = true→hd0 (pk (rnB k ws) (rnS k s)) = shU k (hd0 (pk ws s))∧smU (hd0 (pk ws s)) = true):=by
 have hp:=pk_rn k ws s
 have key:∀ c,(pk ws s).data.toList = [c]→smU c = true→(pk (rnB k ws) (rnS k s)).data.toList = [shU k c]:=by
  intro c hc hs
  have hf:=(pk_ok hc (by simp)).1
  rcases h.nd with h1 | h1
  ·rw [hf] at h1;cases h1
  ·rw [hp,hc,h1]
   unfold rnL
   simp [hs]
 refine ⟨?_,fun hl=>?_⟩
 ·rw [Bool.eq_iff_iff,low_iff,low_iff]
  constructor
  ·rintro ⟨c,hc,hs⟩
   rw [hp] at hc
   unfold rnL at hc
   split at hc
   ·rename_i d hd
    cases hsd:smU d with
    | true=>exact ⟨d,hd,hsd⟩
    | false =>
     rw [hsd] at hc
     simp at hc
     rw [← hc] at hs
     rw [hsd] at hs;cases hs
   ·exact ⟨c,hc,hs⟩
  ·rintro ⟨c,hc,hs⟩
   exact ⟨_,key c hc hs,shU_sm k c⟩
 ·obtain ⟨c,hc,hs⟩:=low_iff.1 hl
  have e1:hd0 (pk ws s) = c:=by unfold hd0;rw [hc];rfl
  have e2:hd0 (pk (rnB k ws) (rnS k s)) = shU k c:=by unfold hd0;rw [key c hc hs];rfl
  rw [e1,e2]
  exact ⟨rfl,hs⟩
theorem up_rn:upB (pk (rnB k ws) (rnS k s)) = upB (pk ws s)∧(upB (pk ws s) = true→hd0 (pk (rnB k ws) (rnS k s)) = hd0 (pk ws s)):=by
 have hp:=pk_rn k ws s
 have key:∀ c,(pk ws s).data.toList = [c]→greatB c.toNat = true→(pk (rnB k ws) (rnS k s)).data.toList = [c]:=by
  intro c hc hs
  rw [hp,hc]
  unfold rnL
  simp [great_ns hs]
 refine ⟨?_,fun hl=>?_⟩
 ·rw [Bool.eq_iff_iff,up_iff,up_iff]
  constructor
  ·rintro ⟨c,hc,hs⟩
   rw [hp] at hc
   unfold rnL at hc
   split at hc
   ·rename_i d hd
    split at hc
    ·injection hc with hc _
     have:=shU_sm k d
     rw [hc,great_ns hs] at this;cases this
    ·exact ⟨c,hd.trans hc,hs⟩
   ·exact ⟨c,hc,hs⟩
  ·rintro ⟨c,hc,hs⟩
   exact ⟨c,key c hc hs,hs⟩
 ·obtain ⟨c,hc,hs⟩:=up_iff.1 hl
  unfold hd0
  rw [key c hc hs,hc]
theorem plc_map {l:List UInt8} {c:UInt8} (hl:∀ d∈l,smU d = true) (hc:smU c = true):plc (l.map (shU k)) (shU k c) = plc l c:=by
 induction l with
 | nil=>rfl
 | cons d l ih =>
  have hd:=hl d (by simp)
  have ih:=ih (fun e he=>hl e (by simp [he]))
  rw [List.map_cons]
  unfold plc
  by_cases e:d = c
  ·rw [if_pos e,if_pos (by rw [e])]
  ·rw [if_neg e,if_neg (fun h=>e (shU_inj hd hc h)),ih]
theorem put_map {l:List UInt8} {c:UInt8} (hl:∀ d∈l,smU d = true) (hc:smU c = true):put (l.map (shU k)) (shU k c) = (put l c).map (shU k):=by
 unfold put
 rw [plc_map hl hc,List.length_map]
 split
 ·simp
 ·rfl
theorem putS_mem {l:List UInt8} {c d:UInt8} (h:d∈put l c):d∈l∨d = c:=by
 unfold put at h
 split at h
 ·simpa using h
 ·exact Or.inl h
theorem va_rn (h:RnI ws s):vaS (rnB k ws) (rnS k s) = rnS k (vaS ws s)∧RnI ws (vaS ws s)∧vaI (rnB k ws) (rnS k s) = vaI ws s:=by
 obtain ⟨h1,h2⟩:=low_rn (k:=k) h
 unfold vaS vaI
 rw [h1]
 split
 ·rename_i hl
  obtain ⟨h3,h4⟩:=h2 hl
  obtain ⟨c,hc,hs⟩:=low_iff.1 hl
  rw [h3]
  refine ⟨?_,⟨Or.inr ?_,fun d hd=>?_⟩,plc_map h.sv h4⟩
  ·show ({ rnS k s with pos:=s.pos + 1,vars:=put (s.vars.map (shU k)) (shU k (hd0 (pk ws s))) }:PS) = _
   rw [put_map h.sv h4]
   rfl
  ·rw [pt_advS hc (by simp) (t:={ s with pos:=s.pos + 1,vars:=put s.vars (hd0 (pk ws s)) }) rfl]
   simp only [decide_eq_false_iff_not]
   intro e
   injection e with e _
   rw [e] at hs
   exact absurd hs (by decide)
  ·rcases putS_mem hd with hd | rfl
   ·exact h.sv d hd
   ·exact h4
 ·exact ⟨rfl,h.fail,rfl⟩
theorem key_nil:Key kNil:=⟨fun c h=>by simp [kNil] at h,by simp [kNil]⟩
theorem val_rn (h:RnI ws s):valS (rnB k ws) (rnS k s) = rnS k (valS ws s)∧RnI ws (valS ws s)∧valI (rnB k ws) (rnS k s) = valI ws s∧valK (rnB k ws) (rnS k s) = valK ws s:=by
 unfold valS valI valK
 rw [acB_rn key_nil.1]
 split
 ·rename_i ha
  exact ⟨rfl,h.adv key_nil.2 (by simp [kNil]) ha,rfl,rfl⟩
 ·exact ⟨(va_rn h).1,(va_rn (k:=k) h).2.1,(va_rn h).2.2,rfl⟩
theorem te_rn (h:RnI ws s):teS (rnB k ws) (rnS k s) = rnS k (teS ws s)∧RnI ws (teS ws s)∧teI (rnB k ws) (rnS k s) = teI ws s∧teK (rnB k ws) (rnS k s) = teK ws s:=by
 obtain ⟨h1,h2⟩:=@up_rn k ws s
 unfold teS teI teK
 rw [h1]
 split
 ·rename_i hu
  obtain ⟨c,hc,hs⟩:=up_iff.1 hu
  rw [h2 hu]
  refine ⟨rfl,⟨Or.inr ?_,h.sv⟩,rfl,rfl⟩
  rw [pt_advS hc (by simp) (t:={ s with pos:=s.pos + 1,hid:=put s.hid (hd0 (pk ws s)) }) rfl]
  simp only [decide_eq_false_iff_not]
  intro e
  injection e with e _
  rw [e] at hs
  exact absurd hs (by decide)
 ·exact val_rn h
def keyB (w:ByteArray):Bool:=(match w.data.toList with | [c]=>!smU c | _=>true) && !(w.data.toList == [46]) && !(w.data.toList == [])
theorem key_of {w:ByteArray} (h:keyB w = true):Key w∧w.data.toList≠[]:=by
 unfold keyB at h
 rw [Bool.and_eq_true,Bool.and_eq_true] at h
 obtain ⟨⟨h1,h2⟩,h3⟩:=h
 refine ⟨⟨fun c hc=>?_,fun e=>?_⟩,fun e=>?_⟩
 ·rw [hc] at h1
  simpa using h1
 ·rw [e] at h2;exact absurd h2 (by decide)
 ·rw [e] at h3;exact absurd h3 (by decide)
theorem ke {key:ByteArray} (hk:keyB key = true):acB (rnB k ws) key (rnS k s) = acB ws key s:=acB_rn (key_of hk).1.1
theorem RnI.key {key:ByteArray} (h:RnI ws s) (hk:keyB key = true) (ha:acB ws key s = true):RnI ws s.adv:=h.adv (key_of hk).1.2 (key_of hk).2 ha
theorem ex_rn {key:ByteArray} (hk:keyB key = true) (h:RnI ws s):exS (rnB k ws) key (rnS k s) = rnS k (exS ws key s)∧RnI ws (exS ws key s):=sim_ex (key_of hk).1 (key_of hk).2 s h
theorem dot_rn:acB (rnB k ws) kDot (rnS k s) = acB ws kDot s:=acB_rn (fun c h=>by simp [kDot] at h;subst h;decide)
theorem adv_rn:(rnS k s).adv = rnS k s.adv:=rfl
theorem RnI.nodes (h:RnI ws s) (l:List Nd):RnI ws { s with nodes:=l }:=⟨h.nd,h.sv⟩
theorem RnI.add (h:RnI ws s) (nd:Nd):RnI ws (addS nd s):=h.nodes _
theorem coT_rn (h:RnI ws s):coT (rnB k ws) (rnS k s) = rnS k (coT ws s)∧RnI ws (coT ws s):=by
 unfold coT
 rw [ke (by decide)]
 split
 ·rename_i ha
  exact ⟨rfl,h.key (by decide) ha⟩
 ·exact ex_rn (by decide) h
theorem coO_rn:coO (rnB k ws) (rnS k s) = coO ws s:=by unfold coO;rw [ke (by decide)]
theorem co_rn (h:RnI ws s):coS (rnB k ws) (rnS k s) = rnS k (coS ws s)∧RnI ws (coS ws s)∧coN (rnB k ws) (rnS k s) = coN ws s:=by
 unfold coS coN
 rw [ke (by decide)]
 split
 ·rename_i ha
  exact ⟨rfl,h.key (by decide) ha,rfl⟩
 ·obtain ⟨a1,a2,a3⟩:=va_rn (k:=k) h
  obtain ⟨b1,b2⟩:=coT_rn (k:=k) a2
  obtain ⟨c1,c2,c3,c4⟩:=val_rn (k:=k) b2
  rw [a1,b1,c1,a3,c3,c4,coO_rn]
  exact ⟨rfl,c2,rfl⟩
theorem ts_rn (h:RnI ws s):tsS (rnB k ws) (rnS k s) = rnS k (tsS ws s)∧RnI ws (tsS ws s):=by
 obtain ⟨a1,a2⟩:=ex_rn (k:=k) (key:=kOpen) (by decide) h
 obtain ⟨b1,b2,b3⟩:=co_rn (k:=k) a2
 obtain ⟨c1,c2⟩:=ex_rn (k:=k) (key:=kClose) (by decide) b2
 unfold tsS tsP
 rw [a1,b1,b3,c1]
 exact ⟨rfl,c2.add _⟩
theorem asD_rn (h:RnI ws s):asD (rnB k ws) (rnS k s) = asD ws s:=by
 obtain ⟨c1,c2,c3,c4⟩:=val_rn (k:=k) h
 unfold asD
 rw [c1,c4,dot_rn]
theorem as_rn (v:Nat) (h:RnI ws s):asS (rnB k ws) (rnS k s) = rnS k (asS ws s)∧RnI ws (asS ws s)∧asN (rnB k ws) v (rnS k s) = asN ws v s:=by
 obtain ⟨c1,c2,c3,c4⟩:=val_rn (k:=k) h
 unfold asS asN
 rw [ke (by decide),asD_rn h]
 split
 ·rename_i ha
  exact ⟨rfl,h.key (by decide) ha,rfl⟩
 ·rw [c1,c3,c4]
  split
  ·rename_i ha
   unfold asD at ha
   rw [Bool.and_eq_true] at ha
   obtain ⟨d1,d2⟩:=ex_n (k:=k) c2 ha.2
   exact ⟨d1,d2,rfl⟩
  ·exact ⟨rfl,c2,rfl⟩
theorem siL_rn (h:RnI ws s) (hd:acB ws kDot s = true):siL (rnB k ws) (rnS k s) = rnS k (siL ws s)∧RnI ws (siL ws s):=by
 obtain ⟨d1,d2⟩:=ex_n (k:=k) h hd
 unfold siL
 rw [d1]
 exact ex_rn (by decide) d2
theorem si_rn (h:RnI ws s):siS (rnB k ws) (rnS k s) = rnS k (siS ws s)∧RnI ws (siS ws s)∧siN (rnB k ws) (rnS k s) = siN ws s:=by
 obtain ⟨a1,a2,a3⟩:=va_rn (k:=k) h
 unfold siS siN
 rw [ke (by decide),ke (by decide),a1,a3,dot_rn]
 split
 ·rename_i ha
  exact ⟨rfl,h.key (by decide) ha,rfl⟩
 ·split
  ·rename_i ha
   obtain ⟨b1,b2,b3⟩:=va_rn (k:=k) (h.key (by decide) ha)
   rw [adv_rn,b1,b3]
   exact ⟨rfl,b2,rfl⟩
  ·split
   ·rename_i ha
    obtain ⟨b1,b2⟩:=siL_rn (k:=k) a2 ha
    obtain ⟨c1,c2,c3,c4⟩:=val_rn (k:=k) b2
    rw [b1,c1,c3,c4]
    exact ⟨rfl,c2,rfl⟩
   ·obtain ⟨b1,b2⟩:=ex_rn (k:=k) (key:=kEq) (by decide) a2
    rw [b1]
    exact as_rn _ b2
theorem sc_rn (h:RnI ws s):scS (rnB k ws) (rnS k s) = rnS k (scS ws s)∧RnI ws (scS ws s):=by
 obtain ⟨a1,a2,a3⟩:=si_rn (k:=k) h
 obtain ⟨b1,b2⟩:=ex_rn (k:=k) (key:=kSemi) (by decide) a2
 unfold scS
 rw [a1,a3,b1]
 exact ⟨rfl,b2.add _⟩
def Sb (k:Nat) (ws:List ByteArray) (b' b:PS→PS):Prop:=∀ s,RnI ws s→b' (rnS k s) = rnS k (b s)∧RnI ws (b s)
variable {b' b:PS→PS}
theorem brA_rn (hb:Sb k ws b' b) (h:RnI ws s):brA b' (rnB k ws) (rnS k s) = rnS k (brA b ws s)∧RnI ws (brA b ws s):=by
 obtain ⟨a1,a2⟩:=ex_rn (k:=k) (key:=kIf) (by decide) h
 obtain ⟨b1,b2⟩:=ts_rn (k:=k) a2
 unfold brA
 rw [a1,b1]
 exact hb _ b2
theorem br_rn (hb:Sb k ws b' b) (h:RnI ws s):brS b' (rnB k ws) (rnS k s) = rnS k (brS b ws s)∧RnI ws (brS b ws s):=by
 obtain ⟨a1,a2⟩:=brA_rn hb h
 unfold brS
 rw [a1,ke (by decide)]
 split
 ·rename_i ha
  have hB:RnI ws (brB s.nodes.length (brA b ws s)):=(a2.key (by decide) ha).nodes _
  obtain ⟨c1,c2⟩:=hb _ hB
  rw [show brB (rnS k s).nodes.length (rnS k (brA b ws s)) = rnS k (brB s.nodes.length (brA b ws s)) from rfl,c1]
  exact ⟨rfl,c2.nodes _⟩
 ·exact ⟨rfl,a2.nodes _⟩
theorem lo_rn (hb:Sb k ws b' b) (h:RnI ws s):loS b' (rnB k ws) (rnS k s) = rnS k (loS b ws s)∧RnI ws (loS b ws s):=by
 have hA:loA b' (rnB k ws) (rnS k s) = rnS k (loA b ws s)∧RnI ws (loA b ws s):=by
  obtain ⟨a1,a2⟩:=ex_rn (k:=k) (key:=kWhile) (by decide) h
  obtain ⟨b1,b2⟩:=ts_rn (k:=k) a2
  unfold loA
  rw [a1,b1]
  exact hb _ b2
 unfold loS
 rw [hA.1]
 exact ⟨rfl,hA.2.nodes _⟩
theorem cmB_rn (hb:Sb k ws b' b):Sb k ws (cmB b' (rnB k ws)) (cmB b ws):=fun s h=>by
 unfold cmB
 rw [ke (by decide),ke (by decide)]
 split
 ·exact br_rn hb h
 ·split
  ·exact lo_rn hb h
  ·exact sc_rn h
theorem cmS_rn {c' c:PS→PS} (hc:Sb k ws c' c):∀ n,Sb k ws (cmS c' (rnB k ws) n) (cmS c ws n)
 | 0,_,h=>⟨rfl,h⟩
 | n + 1,s,h=>by
  simp only [cmS]
  rw [ke (by decide),show (rnS k s).failed = s.failed from rfl]
  split
  ·exact ⟨rfl,h⟩
  ·obtain ⟨a1,a2⟩:=hc s h
   rw [a1]
   exact cmS_rn hc n _ a2
theorem blS_rn:∀ f,Sb k ws (blS (rnB k ws) f) (blS ws f)
 | 0,_,h=>⟨rfl,h⟩
 | f + 1,s,h=>by
  obtain ⟨a1,a2⟩:=ex_rn (k:=k) (key:=kLB) (by decide) h
  obtain ⟨b1,b2⟩:=cmS_rn (cmB_rn (blS_rn f)) (ws.length + 2) _ a2
  simp only [blS]
  rw [a1,rnB_len,b1]
  exact ex_rn (by decide) b2
theorem rel_rn (h:RnI ws s):relS (rnB k ws) (rnS k s) = rnS k (relS ws s)∧RnI ws (relS ws s)∧relK (rnB k ws) (rnS k s) = relK ws s:=by
 unfold relS relK
 rw [ke (by decide),ke (by decide)]
 split
 ·rename_i ha
  exact ⟨rfl,h.key (by decide) ha,rfl⟩
 ·split
  ·rename_i ha
   exact ⟨rfl,h.key (by decide) ha,rfl⟩
  ·obtain ⟨a1,a2⟩:=ex_rn (k:=k) (key:=kTo) (by decide) h
   exact ⟨a1,a2,rfl⟩
theorem li_rn (h:RnI ws s):liS (rnB k ws) (rnS k s) = rnS k (liS ws s)∧RnI ws (liS ws s)∧liA (rnB k ws) (rnS k s) = liA ws s:=by
 obtain ⟨a1,a2⟩:=ex_rn (k:=k) (key:=kOpen) (by decide) h
 obtain ⟨b1,b2,b3,b4⟩:=te_rn (k:=k) a2
 obtain ⟨c1,c2⟩:=ex_rn (k:=k) (key:=kComma) (by decide) b2
 obtain ⟨d1,d2,d3,d4⟩:=te_rn (k:=k) c2
 obtain ⟨e1,e2⟩:=ex_rn (k:=k) (key:=kClose) (by decide) d2
 unfold liS liA liS2 liS1
 rw [a1,b1,b3,b4,c1,d1,d3,d4,e1]
 exact ⟨rfl,e2,rfl⟩
theorem at_rn (h:RnI ws s):atS (rnB k ws) (rnS k s) = rnS k (atS ws s)∧RnI ws (atS ws s)∧atA (rnB k ws) (rnS k s) = atA ws s:=by
 unfold atS atA
 rw [ke (by decide),ke (by decide)]
 split
 ·rename_i ha
  exact ⟨rfl,h.key (by decide) ha,rfl⟩
 ·split
  ·rename_i ha
   rw [adv_rn]
   exact li_rn (h.key (by decide) ha)
  ·obtain ⟨b1,b2,b3,b4⟩:=te_rn (k:=k) h
   obtain ⟨c1,c2,c3⟩:=rel_rn (k:=k) b2
   obtain ⟨d1,d2,d3,d4⟩:=te_rn (k:=k) c2
   rw [b1,b3,b4,c1,c3,d1,d3,d4]
   exact ⟨rfl,d2,rfl⟩
theorem foG_rn:∀ n s,RnI ws s→(foG (rnB k ws) n (rnS k s)).2 = rnS k (foG ws n s).2∧RnI ws (foG ws n s).2∧(foG (rnB k ws) n (rnS k s)).1 = (foG ws n s).1
 | 0,_,h=>⟨rfl,h,rfl⟩
 | n + 1,s,h=>by
  simp only [foG]
  rw [ke (by decide)]
  split
  ·rename_i ha
   obtain ⟨a1,a2,a3⟩:=at_rn (k:=k) (h.key (by decide) ha)
   obtain ⟨b1,b2,b3⟩:=foG_rn n _ a2
   rw [adv_rn,a1,a3]
   exact ⟨b1,b2,by rw [b3]⟩
  ·exact ⟨rfl,h,rfl⟩
theorem fo_rn (h:RnI ws s):foS (rnB k ws) (rnS k s) = rnS k (foS ws s)∧RnI ws (foS ws s)∧foA (rnB k ws) (rnS k s) = foA ws s:=by
 obtain ⟨a1,a2,a3⟩:=at_rn (k:=k) h
 obtain ⟨b1,b2,b3⟩:=foG_rn (k:=k) (ws.length + 1) _ a2
 unfold foS foA
 rw [rnB_len,a1,a3,b1,b3]
 exact ⟨rfl,b2,rfl⟩
theorem rn_ini:RnI ws ini:=⟨Or.inr rfl,by simp [ini]⟩
theorem prT_rn:prT (rnB k ws) ini = rnS k (prT ws ini)∧RnI ws (prT ws ini)∧prA (rnB k ws) ini = prA ws ini:=by
 obtain ⟨a1,a2⟩:=ex_rn (k:=k) (key:=kPre) (by decide) (rn_ini (ws:=ws))
 obtain ⟨b1,b2,b3⟩:=fo_rn (k:=k) a2
 obtain ⟨c1,c2⟩:=blS_rn (k:=k) (ws.length + 1) _ b2
 unfold prT prA
 rw [show (ini:PS) = rnS k ini from rfl,a1,b1,b3,rnB_len,c1]
 exact ⟨rfl,c2.add _,rfl⟩
end
theorem prS_rn (k:Nat) (ws:List ByteArray):prS (rnB k ws) ini = rnS k (prS ws ini)∧(∀ c∈(prS ws ini).vars,smU c = true)∧prA (rnB k ws) ini = prA ws ini:=by
 obtain ⟨a1,a2,a3⟩:=@prT_rn k ws
 unfold prS
 rw [a1,rnB_len,show (rnS k (prT ws ini)).pos = (prT ws ini).pos from rfl]
 split
 ·exact ⟨rfl,a2.sv,a3⟩
 ·exact ⟨rfl,a2.sv,a3⟩
theorem rdW_lt (k:Nat) (l:List UInt8):rdW (ltL k l) = rnB k (rdW l):=by
 unfold rdW rnB
 rw [ltL_eq,spl_lt k l.length l false (Nat.le_refl _)]
 cases spl l with
 | none=>rfl
 | some L =>
  simp only [Option.map_some,Option.getD_some,List.map_map]
  congr 2
  conv=>lhs;rw [← List.map_id L]
  apply List.map_congr_left
  intro x _
  simp
theorem ltL_len (k:Nat) (l:List UInt8):(ltL k l).length = l.length:=by unfold ltL;rw [List.length_map,List.length_range]
theorem rdS_lt (k:Nat) (l:List UInt8):rdS (ltL k l) = rnS k (rdS l):=by unfold rdS;rw [rdW_lt,(prS_rn k _).1]
theorem rdE_lt (k:Nat) (l:List UInt8):rdE (ltL k l) = rdE l:=by
 have hn:spl (ltL k l) = none↔spl l = none:=by
  rw [ltL_eq,spl_lt k l.length l false (Nat.le_refl _),Option.map_eq_none_iff]
 unfold rdE
 rw [ltL_len,rdS_lt,show (rnS k (rdS l)).failed = (rdS l).failed from rfl,show (rnS k (rdS l)).hid = (rdS l).hid from rfl,show (rnS k (rdS l)).vars.length = (rdS l).vars.length from List.length_map ..]
 simp only [hn]
def Seg (k:Nat) (x y:List UInt8):Prop:=∀ r,nxB r = false→ltR k false false (x ++ r) = y ++ ltR k false false r
def SegN (k:Nat) (x y:List UInt8):Prop:=∀ r,ltR k false false (x ++ r) = y ++ ltR k false false r
def Bg (x:List UInt8):Prop:=∀ r,nxB (x ++ r) = false
section
variable {k:Nat} {x y x' y':List UInt8}
theorem Seg.eq (h:Seg k x y):y = ltR k false false x:=by
 have:=h [] rfl
 rw [List.append_nil] at this
 rw [this]
 simp [ltR]
theorem Seg.len (h:Seg k x y):y.length = x.length:=by rw [h.eq,ltR_len]
theorem Seg.nil_iff (h:Seg k x y):y = []↔x = []:=by
 have:=h.len
 constructor
 ·rintro rfl;exact List.length_eq_zero_iff.1 this.symm
 ·rintro rfl;exact List.length_eq_zero_iff.1 this
theorem SegN.app (h:SegN k x y) (h':Seg k x' y'):Seg k (x ++ x') (y ++ y'):=fun r hr=>by rw [List.append_assoc,h,h' r hr,List.append_assoc]
theorem Seg.app (h:Seg k x y) (h':SegN k x' y') (hb:Bg x'):SegN k (x ++ x') (y ++ y'):=fun r=>by rw [List.append_assoc,h _ (hb r),h' r,List.append_assoc]
theorem SegN.seg (h:SegN k x y):Seg k x y:=fun r _=>h r
theorem seg_nil:Seg k [] []:=fun _ _=>rfl
def Nmr (k:Nat) (x y:List UInt8):Prop:=(x = []∧y = [])∨(x = [110,105,108]∧y = [110,105,108])∨(∃ c,(smU c = false∧c ≠ 46)∧x = [c]∧y = [c])∨∃ c,smU c = true∧x = [c]∧y = [shU k c]
theorem Nmr.none:Nmr k [] []:=Or.inl ⟨rfl,rfl⟩
theorem Nmr.nil:Nmr k [110,105,108] [110,105,108]:=Or.inr (Or.inl ⟨rfl,rfl⟩)
theorem Nmr.great {c:UInt8} (h:smU c = false) (h2:c ≠ 46):Nmr k [c] [c]:=Or.inr (Or.inr (Or.inl ⟨c,⟨h,h2⟩,rfl,rfl⟩))
theorem Nmr.small {c:UInt8} (h:smU c = true):Nmr k [c] [shU k c]:=Or.inr (Or.inr (Or.inr ⟨c,h,rfl,rfl⟩))
theorem Nmr.cs {motive:(x y:List UInt8)→Nmr k x y→Prop} (none:motive [] [] .none) (nil:motive [110,105,108] [110,105,108] .nil) (great:∀ {c:UInt8} (h:smU c = false) (h2:c ≠ 46),motive [c] [c] (.great h h2)) (small:∀ {c:UInt8} (h:smU c = true),motive [c] [shU k c] (.small h)) {x y:List UInt8} (h:Nmr k x y):motive x y h:=by
 rcases h with ⟨rfl,rfl⟩ | ⟨rfl,rfl⟩ | ⟨c,⟨h1,h2⟩,rfl,rfl⟩ | ⟨c,h1,rfl,rfl⟩
 ·exact none
 ·exact nil
 ·exact great h1 h2
 ·exact small h1
theorem sm_nb {c:UInt8} (h:smU c = true):(if c = 32∨c = 10 then false else c == 46) = false:=by
 have:=let_nb (sm_let h)
 rw [if_neg this.1,this.2]
theorem Nmr.seg (h:Nmr k x y):Seg k x y:=by
 cases h using Nmr.cs with
 | none=>exact seg_nil
 | nil =>
  intro r hr
  rw [List.cons_append,ltR_cons]
  rw [show ([105,108]:List UInt8) ++ r = [105,108] ++ r from rfl]
  rw [show letB 110 = true by decide,ltR_run [105,108] (by simp) (by decide),ltR_p hr]
  have:nxB ([105,108] ++ r) = true:=by show letB 105 = true;decide
  rw [this]
  rfl
 | great hc h46 =>
  rename_i c
  intro r hr
  rw [List.cons_append,ltR_cons,hc,List.nil_append]
  have e:(if c = 32∨c = 10 then false else c == 46) = false:=by
   split
   ·rfl
   ·simpa using h46
  rw [e]
  cases hl:letB c with
  | true=>rw [ltR_p hr];rfl
  | false=>rfl
 | small hc =>
  rename_i c
  intro r hr
  rw [List.cons_append,ltR_cons,hc,List.nil_append,sm_nb hc,sm_let hc,ltR_p hr,hr]
  rfl
theorem Nmr.nil_iff (h:Nmr k x y):y = [110,105,108]↔x = [110,105,108]:=by
 cases h using Nmr.cs with
 | none=>exact Iff.rfl
 | nil=>exact Iff.rfl
 | great _ _=>exact Iff.rfl
 | small _=>constructor <;> intro h <;> simp at h
theorem Nmr.one_iff (h:Nmr k x y) {v:UInt8} (hv:smU v = true):y = [shU k v]↔x = [v]:=by
 cases h using Nmr.cs with
 | none=>constructor <;> intro h <;> simp at h
 | nil=>constructor <;> intro h <;> simp at h
 | great hc _ =>
  rename_i c
  constructor
  ·intro h
   injection h with h _
   rw [h,shU_sm] at hc;cases hc
  ·intro h
   injection h with h _
   rw [h,hv] at hc;cases hc
 | small hc =>
  rename_i c
  constructor
  ·intro h
   injection h with h _
   rw [shU_inj hc hv h]
  ·intro h
   injection h with h _
   rw [h]
theorem segN_eq:SegN k [32,61,32] [32,61,32]:=fun _=>rfl
theorem segN_ne:SegN k [32,33,61,32] [32,33,61,32]:=fun _=>rfl
theorem segN_ar:SegN k [32,45,62,32] [32,45,62,32]:=fun _=>rfl
theorem segN_st:SegN k [32,42,32] [32,42,32]:=fun _=>rfl
theorem segN_ls:SegN k [108,115,40] [108,115,40]:=fun _=>rfl
theorem segN_co:SegN k [44] [44]:=fun _=>rfl
theorem segN_cl:SegN k [41] [41]:=fun _=>rfl
theorem seg_emp:Seg k [101,109,112] [101,109,112]:=fun r hr=>by
 rw [List.cons_append,ltR_cons]
 rw [show letB 101 = true by decide,ltR_run [109,112] (by simp) (by decide),ltR_p hr]
 have:nxB ([109,112] ++ r) = true:=by show letB 109 = true;decide
 rw [this]
 rfl
theorem seg_eqT (h:Nmr k x y) (h':Nmr k x' y'):Seg k (eqT x x') (eqT y y'):=(h.seg.app segN_eq (fun _=>rfl)).app h'.seg
theorem seg_arT (h:Nmr k x y) (h':Nmr k x' y'):Seg k (arT x x') (arT y y'):=(h.seg.app segN_ar (fun _=>rfl)).app h'.seg
theorem seg_unT (h:Nmr k x y) (h':Nmr k x' y'):Seg k (unT x x') (unT y y'):=by
 unfold unT
 by_cases e:x = [110,105,108]
 ·rw [if_pos e,if_pos (h.nil_iff.2 e)]
  exact (h'.seg.app segN_ne (fun _=>rfl)).app h.seg
 ·rw [if_neg e,if_neg (fun e'=>e (h.nil_iff.1 e'))]
  exact (h.seg.app segN_ne (fun _=>rfl)).app h'.seg
theorem seg_lsT (h:Nmr k x y) (h':Nmr k x' y'):Seg k (lsT x x') (lsT y y'):=by
 unfold lsT
 exact ((((segN_ls.app h.seg).app segN_co (fun _=>rfl)).app h'.seg).app segN_cl (fun _=>rfl)).seg
theorem seg_wiT (h:Seg k x y) (h':Seg k x' y'):Seg k (wiT x x') (wiT y y'):=by
 unfold wiT
 by_cases e:x = []
 ·rw [if_pos e,if_pos (h.nil_iff.2 e)]
  exact h'
 ·rw [if_neg e,if_neg (fun e'=>e (h.nil_iff.1 e'))]
  exact (h.app segN_st (fun _=>rfl)).app h'
theorem foldl_seg {α:Type} {g g':List UInt8→α→List UInt8}:∀ (l:List α),(∀ t t' x,x∈l→Seg k t t'→Seg k (g t x) (g' t' x))→∀ t t',Seg k t t'→Seg k (l.foldl g t) (l.foldl g' t')
 | [],_,_,_,h=>h
 | a :: l,hg,t,t',h=>by
  rw [List.foldl_cons,List.foldl_cons]
  exact foldl_seg l (fun t t' x hx=>hg t t' x (List.mem_cons_of_mem _ hx)) _ _ (hg t t' a List.mem_cons_self h)
def NmL (k:Nat) (N N':List (List UInt8)):Prop:=N'.length = N.length∧∀ j,Nmr k (N.getD j []) (N'.getD j [])
theorem NmL.set {N N':List (List UInt8)} (h:NmL k N N') (j:Nat) (hn:Nmr k x y):NmL k (N.set j x) (N'.set j y):=by
 refine ⟨by rw [List.length_set,List.length_set];exact h.1,fun i=>?_⟩
 rw [List.getD_eq_getElem?_getD,List.getD_eq_getElem?_getD,List.getElem?_set,List.getElem?_set,h.1]
 split
 ·split
  ·exact hn
  ·exact .none
 ·rw [← List.getD_eq_getElem?_getD,← List.getD_eq_getElem?_getD]
  exact h.2 i
end
theorem Nmr.emp_iff {k:Nat} {x y:List UInt8} (h:Nmr k x y):y = []↔x = []:=h.seg.nil_iff
theorem gr_ok (n:Nat):smU (grL.getD n 0) = false∧grL.getD n 0≠46:=by
 have h:∀ c∈grL,smU c = false∧c≠46:=by decide
 rw [List.getD_eq_getElem?_getD]
 cases hg:grL[n]? with
 | none=>exact ⟨by decide,by decide⟩
 | some c=>exact h c (List.mem_of_getElem? hg)
section
variable {k:Nat} {vs:List UInt8}
theorem vs_get (hv:∀ c∈vs,smU c = true) {i:Nat} (hi:i < vs.length):(vs.map (shU k)).getD i 0 = shU k (vs.getD i 0)∧smU (vs.getD i 0) = true:=by
 have e:vs.getD i 0 = vs[i]:=by simp [hi]
 rw [e]
 refine ⟨by simp [hi],hv _ (List.getElem_mem hi)⟩
theorem naF_rn (hv:∀ c∈vs,smU c = true) (f:CF):∀ (n:Nat) {N N':List (List UInt8)},n≤vs.length→NmL k N N'→NmL k (naF vs f n N) (naF (vs.map (shU k)) f n N')
 | 0,_,_,_,h=>h
 | n + 1,N,N',hn,h=>by
  unfold naF
  refine naF_rn hv f n (by omega) ?_
  unfold naS
  obtain ⟨e1,e2⟩:=vs_get (k:=k) hv (i:=n) (by omega)
  rw [e1]
  exact h.set _ (.small e2)
theorem naH_rn:∀ (l:List Nat) {r r':List (List UInt8) × Nat},NmL k r.1 r'.1→r'.2 = r.2→NmL k (l.foldl naH r).1 (l.foldl naH r').1
 | [],_,_,h,_=>h
 | c :: l,r,r',h,e=>by
  rw [List.foldl_cons,List.foldl_cons]
  unfold naH
  by_cases h0:r.1.getD c [] = []
  ·rw [if_pos h0,if_pos ((h.2 c).emp_iff.2 h0)]
   refine naH_rn l ?_ (by rw [e])
   rw [e]
   exact h.set c (.great (gr_ok _).1 (gr_ok _).2)
  ·rw [if_neg h0,if_neg (fun h1=>h0 ((h.2 c).emp_iff.1 h1))]
   exact naH_rn l h e
theorem naM_rn (hv:∀ c∈vs,smU c = true) (f:CF):NmL k (naM vs f) (naM (vs.map (shU k)) f):=by
 unfold naM
 refine naH_rn _ (NmL.set ?_ _ .nil) rfl
 rw [List.length_map]
 refine naF_rn hv f _ (Nat.le_refl _) ⟨rfl,fun j=>?_⟩
 have:(List.replicate 24 ([]:List UInt8)).getD j [] = []:=by
  rw [List.getD_eq_getElem?_getD,List.getElem?_replicate]
  split <;> rfl
 rw [this]
 exact .none
theorem wr3_rn (hv:∀ c∈vs,smU c = true) (f:CF):Seg k (wr3 vs f) (wr3 (vs.map (shU k)) f):=by
 have hN:=naM_rn (k:=k) hv f
 unfold wr3
 refine foldl_seg _ (fun t t' p _ h=>?_) _ _ (foldl_seg _ (fun t t' p _ h=>?_) _ _ ?_)
 ·unfold wrO
  refine seg_wiT h ?_
  split
  ·exact seg_lsT (hN.2 _) (hN.2 _)
  ·exact seg_arT (hN.2 _) (hN.2 _)
 ·unfold wrA
  exact seg_wiT h (seg_unT (hN.2 _) (hN.2 _))
 ·rw [List.length_map]
  refine foldl_seg _ (fun t t' i hi h=>?_) _ _ seg_nil
  have hi:=List.mem_range.1 hi
  obtain ⟨e1,e2⟩:=vs_get (k:=k) hv hi
  unfold wrV
  rw [e1]
  by_cases h1:(naM vs f).getD (f.cl.getD (1 + i) 0) [] = [vs.getD i 0]
  ·rw [if_pos h1,if_pos (((hN.2 _).one_iff e2).2 h1)]
   exact h
  ·rw [if_neg h1,if_neg (fun h2=>h1 (((hN.2 _).one_iff e2).1 h2))]
   exact seg_wiT h (seg_eqT (.small e2) (hN.2 _))
theorem wrT_rn (hv:∀ c∈vs,smU c = true) (f:CF):wrT (vs.map (shU k)) f = ltL k (wrT vs f):=by
 have h:=wr3_rn (k:=k) hv f
 rw [ltL_eq]
 unfold wrT
 by_cases h0:wr3 vs f = []
 ·rw [if_pos h0,if_pos (h.nil_iff.2 h0)]
  exact seg_emp.eq
 ·rw [if_neg h0,if_neg (fun h1=>h0 (h.nil_iff.1 h1))]
  exact h.eq
end
def isL (s:ByteArray) (i:Int):Bool:=decide (0≤i) && decide (i < s.size) && letB (s.data.toList.getD i.toNat 0)
theorem at_gB {s:ByteArray} {n:Nat} (h:n < s.size):s.data.toList.getD n 0 = s[n]:=by
 have h1:n < s.data.toList.length:=by rw [size_toList];exact h
 rw [List.getD_eq_getElem?_getD,List.getElem?_eq_getElem h1]
 rfl
theorem let_iff {c:UInt8}:letB c = (decide (97≤(c.toNat:Int)) && decide ((c.toNat:Int)≤122) || decide (65≤(c.toNat:Int)) && decide ((c.toNat:Int)≤90)):=rfl
set_option maxRecDepth 100000 in
set_option maxHeartbeats 2000000 in
theorem isLetter_any (s:ByteArray) (i:Int) (w:World) (hs:s.size≤1000000) (h0:-1≤i) (h1:i≤1000000) :
  Calls Tryz.prog 118 #[.string s,.int .i64 i] w fun e w'=>e = .returned (.bool (isL s i))∧w' = w:=by
 by_cases hn:0≤i
 ·obtain ⟨n,rfl⟩:∃ n:Nat,i = (n:Int):=⟨i.toNat,by omega⟩
  by_cases hlt:n < s.size
  ·have HR:Hid (isL s (n:Int) = (decide (97≤(s[n].toNat:Int)) && decide ((s[n].toNat:Int)≤122) || decide (65≤(s[n].toNat:Int)) && decide ((s[n].toNat:Int)≤90))):=hide (by
    unfold isL
    rw [decide_eq_true hn,decide_eq_true (by omega:(n:Int) < s.size),Int.toNat_natCast,at_gB hlt,let_iff]
    rfl)
   go_enter Tryz.func118,Tryz.ntmps118
   go_wp2_with fail
   all_goals
    go_ret
    exact ⟨ret_bool (by rw [uh HR];simp_all <;> (intros;omega)),rfl⟩
  ·have HR:Hid (isL s (n:Int) = false):=hide (by unfold isL;rw [decide_eq_false (by omega:¬ (n:Int) < s.size)];simp)
   go_enter Tryz.func118,Tryz.ntmps118
   go_wp2_with fail
   go_ret
   exact ⟨ret_bool (uh HR).symm,rfl⟩
 ·have HR:Hid (isL s i = false):=hide (by unfold isL;rw [decide_eq_false hn];rfl)
  go_enter Tryz.func118,Tryz.ntmps118
  go_wp2_with fail
  go_ret
  exact ⟨ret_bool (uh HR).symm,rfl⟩
theorem isL_lf (s:ByteArray) (n:Nat) (h:n < s.size):isL s ((n:Int) - 1) = lfL s.data.toList n:=by
 unfold isL lfL
 by_cases h0:0 < n
 ·rw [decide_eq_true (by omega:(0:Int)≤(n:Int) - 1),decide_eq_true (by omega:(n:Int) - 1 < s.size),decide_eq_true h0,show ((n:Int) - 1).toNat = n - 1 by omega]
  rfl
 ·rw [decide_eq_false (by omega:¬ (0:Int)≤(n:Int) - 1),decide_eq_false h0]
  rfl
theorem isL_rt (s:ByteArray) (n:Nat):isL s ((n:Int) + 1) = rtL s.data.toList n:=by
 unfold isL rtL
 rw [decide_eq_true (by omega:(0:Int)≤(n:Int) + 1),show ((n:Int) + 1).toNat = n + 1 by omega,size_toList,show decide (((n:Int) + 1) < s.size) = decide (n + 1 < s.size) by (rw [decide_eq_decide];omega)]
 rfl
set_option maxRecDepth 100000 in
set_option maxHeartbeats 2000000 in
theorem small_any (s:ByteArray) (n:Nat) (w:World) (hs:s.size≤999999) (hn:n < s.size) :
  Calls Tryz.prog 67 #[.string s,.int .i64 (n:Int)] w fun e w'=>e = .returned (.bool (smB' s.data.toList n))∧w' = w:=by
 have HR:Hid (smB' s.data.toList n = (decide (97≤(s[n].toNat:Int)) && decide ((s[n].toNat:Int)≤122) && !isL s ((n:Int) - 1) && !isL s ((n:Int) + 1))):=hide (by
  unfold smB' smU
  rw [at_gB hn,isL_lf s n hn,isL_rt]
  rfl)
 go_enter Tryz.func67,Tryz.ntmps67
 go_wp2_with (go_at_call 118;refine (isLetter_any _ _ _ (by omega) (by omega) (by omega)).mono ?_;rintro e w' ⟨rfl,rfl⟩)
 all_goals
  go_ret
  exact ⟨ret_bool (by rw [uh HR];simp_all <;> (intros;omega)),rfl⟩
def Byt (w:World) (B:Nat) (l:List UInt8):Prop :=
 (∀ j (hj:j < l.length),w.cell? ⟨B,j,none⟩ = some (.int .u8 (l[j].toNat:Int)))∧∀ j,j < l.length→w.frozen? ⟨B,j,none⟩ = false
theorem Byt.set {w:World} {B:Nat} {l:List UInt8} (h:Byt w B l) (i:Nat) (c:UInt8):Byt (w.setCell ⟨B,i,none⟩ (.int .u8 (c.toNat:Int))) B (l.set i c):=by
 refine ⟨fun j hj=>?_,fun j hj=>?_⟩
 ·rw [List.length_set] at hj
  by_cases e:i = j
  ·subst e
   rw [World.cell?_setCell_same _ _ _ (h.1 i hj)]
   simp
  ·rw [World.cell?_setCell_other _ _ _ _ (by intro e2;injection e2 with _ e2;exact e e2),h.1 j hj]
   simp [e]
 ·rw [List.length_set] at hj
  rw [World.frozen?_setCell]
  exact h.2 j hj
theorem conv_new (w:World) (s:ByteArray):∃ cap w1,(convert 9 101 (.string s)).run Tryz.prog w = .ok (.slice (some ⟨w.heap.size,0,none⟩) s.size cap) w1∧Byt w1 w.heap.size s.data.toList∧Below w.heap.size w w1:=by
 refine ⟨_,_,run_bytes_of_string w 9 101 5 s Tryz.underlying9 Tryz.underlying101 Tryz.underlying5,⟨fun j hj=>?_,fun j hj=>?_⟩,(Below.refl _ _).drew.alloc (Nat.le_refl _) _⟩
 ·have hj':j < s.data.size:=by simpa using hj
  have e:=World.cell?_alloc_mark w.drew (bytesRow s (grownCap w s.size 0 5)) 5 ((bytesRow s (grownCap w s.size 0 5)).size,(bytesRow s (grownCap w s.size 0 5)).size + 1) j
  refine e.trans ?_
  rw [bytesRow_at s _ j hj']
  simp
 ·have hj':j < s.data.size:=by simpa using hj
  have e:=World.frozen?_alloc_mark w.drew (bytesRow s (grownCap w s.size 0 5)) 5 (bytesRow s (grownCap w s.size 0 5)).size ((bytesRow s (grownCap w s.size 0 5)).size + 1) j
  refine e.trans ?_
  have h2:j < (bytesRow s (grownCap w s.size 0 5)).size:=by
   unfold bytesRow
   rw [Array.size_append,Array.size_map]
   omega
  rw [decide_eq_false (by omega)]
  rfl
def ltQ (k:Nat) (l:List UInt8) (i:Nat):List UInt8:=(List.range i).map (ltC k l) ++ l.drop i
theorem ltQ_len (k:Nat) (l:List UInt8) {i:Nat} (h:i≤l.length):(ltQ k l i).length = l.length:=by unfold ltQ;rw [List.length_append,List.length_map,List.length_range,List.length_drop];omega
theorem ltQ_get (k:Nat) (l:List UInt8) {i:Nat} (h:i < l.length) (h':i < (ltQ k l i).length):(ltQ k l i)[i] = l[i]:=by
 have e:(ltQ k l i)[i]? = l[i]?:=by
  unfold ltQ
  rw [List.getElem?_append_right (by simp)]
  simp
 rw [List.getElem?_eq_getElem h',List.getElem?_eq_getElem h] at e
 injection e
theorem ltQ_set (k:Nat) (l:List UInt8) {i:Nat} (h:i < l.length):(ltQ k l i).set i (ltC k l i) = ltQ k l (i + 1):=by
 unfold ltQ
 rw [List.set_append_right _ _ (by simp),List.length_map,List.length_range,Nat.sub_self,List.drop_eq_getElem_cons h,List.set_cons_zero,List.range_succ,List.map_append,List.append_assoc]
 rfl
theorem ltQ_stay (k:Nat) (l:List UInt8) {i:Nat} (h:i < l.length) (hs:(smB' l i && !fdL (l.take i)) = false):ltQ k l i = ltQ k l (i + 1):=by
 have hc:ltC k l i = l[i]:=by
  unfold ltC
  rw [hs,if_neg (by simp)]
  simp [h]
 unfold ltQ
 rw [List.range_succ,List.map_append,List.append_assoc,List.drop_eq_getElem_cons h]
 simp [hc]
theorem fd_succ {l:List UInt8} {i:Nat} (hi:i < l.length):fdL (l.take (i + 1)) = if l[i] = 32∨l[i] = 10 then fdL (l.take i) else l[i] == 46:=by
 unfold fdL
 rw [List.take_succ_eq_append_getElem hi,List.foldl_append]
 rfl
theorem ltC_nat {k:Nat} {l:List UInt8} {i:Nat} (h:i < l.length) (hs:(smB' l i && !fdL (l.take i)) = true):((ltC k l i).toNat:Int) = 97 + ((l[i].toNat:Int) - 97 + (k:Int)) % 26∧97≤l[i].toNat∧l[i].toNat≤122:=by
 have hg:l.getD i 0 = l[i]:=by simp [h]
 have h1:smU l[i] = true:=by
  rw [Bool.and_eq_true] at hs
  have:=hs.1
  unfold smB' at this
  rw [hg,Bool.and_eq_true,Bool.and_eq_true] at this
  exact this.1.1
 rw [smU_iff] at h1
 unfold ltC
 rw [hs,if_pos rfl,hg,shU_nat]
 refine ⟨?_,h1⟩
 omega
theorem smB_in {l:List UInt8} {i:Nat} (h:i < l.length) (hs:smB' l i = true):97≤l[i].toNat∧l[i].toNat≤122:=by
 have hg:l.getD i 0 = l[i]:=by simp [h]
 unfold smB' at hs
 rw [hg,Bool.and_eq_true,Bool.and_eq_true] at hs
 exact smU_iff.1 hs.1.1
theorem u8_is {c:UInt8} {n:Nat} (hn:n < 256):c = UInt8.ofNat n↔(c.toNat:Int) = (n:Int):=by
 have h1:(UInt8.ofNat n).toNat = n:=by rw [UInt8.toNat_ofNat'];exact Nat.mod_eq_of_lt hn
 rw [← UInt8.toNat_inj,h1]
 omega
theorem fd_keep {c:UInt8} {b:Bool} (h:(c.toNat:Int) = 32∨(c.toNat:Int) = 10):(if c = 32∨c = 10 then b else c == 46) = b:=by
 rw [if_pos]
 rcases h with h | h
 ·exact Or.inl ((u8_is (n:=32) (by omega)).2 h)
 ·exact Or.inr ((u8_is (n:=10) (by omega)).2 h)
theorem fd_set {c:UInt8} {b:Bool} (h1:((c.toNat:Int) != (32:Int)) = true) (h2:((c.toNat:Int) != (10:Int)) = true):(if c = 32∨c = 10 then b else c == 46) = ((c.toNat:Int) == (46:Int)):=by
 have g1:(c.toNat:Int)≠32:=by simpa using h1
 have g2:(c.toNat:Int)≠10:=by simpa using h2
 rw [if_neg]
 ·rw [Bool.eq_iff_iff,beq_iff_eq,beq_iff_eq]
  exact u8_is (n:=46) (by omega)
 ·rintro (h | h)
  ·exact g1 ((u8_is (n:=32) (by omega)).1 h)
  ·exact g2 ((u8_is (n:=10) (by omega)).1 h)
set_option maxRecDepth 100000 in
set_option maxHeartbeats 4000000 in
theorem letters_lt (s:ByteArray) (k:Nat) (w:World) (hs:s.size≤999999) (hk:k < 26) :
  Calls Tryz.prog 40 #[.string s,.int .i64 (k:Int)] w fun e w'=>e = .returned (.string ⟨(ltL k s.data.toList).toArray⟩)∧Below w.heap.size w w':=by
 obtain ⟨l,hl⟩:∃ l,l = s.data.toList:=⟨_,rfl⟩
 have hll:l.length = s.size:=by rw [hl];exact size_toList s
 obtain ⟨cap,w1,hcv,hby,hbl⟩:=conv_new w s
 obtain ⟨B,hB⟩:∃ B,B = w.heap.size:=⟨_,rfl⟩
 rw [← hB] at hcv hby
 rw [← hl] at hby ⊢
 have H0:Hid (Byt w1 B (ltQ k l 0)∧Below w.heap.size w w1):=hide ⟨by unfold ltQ;simpa using hby,hbl⟩
 have HB:=hide hB
 have HL:=hide hl
 clear hby hbl hB hl
 go_enter Tryz.func40,Tryz.ntmps40
 go_wp2_with fail
 clear hcv
 go_loopg [6,7] s.size (fun gn fv iv wx=>∃ i:Nat,i + gn = s.size∧iv = .int .i64 i∧fv = .bool (fdL (l.take i))∧Hid (Byt wx B (ltQ k l i)∧Below w.heap.size w wx))
 case atStart=>exact ⟨0,by omega,rfl,rfl,H0⟩
 case round =>
  clear H0
  obtain ⟨i,hin,rfl,rfl,hI⟩:=hrel
  obtain ⟨G1,hG1⟩:∃ G1,G1 = gk:=⟨_,rfl⟩
  obtain ⟨h1,h2⟩:=uh hI
  by_cases hlt:i < s.size
  ·have hil:i < l.length:=by omega
   have hd:decide ((i:Int) < (s.size:Int)) = true:=by simp;omega
   have hsi:s[i] = l[i]:=by
    have:=at_gB hlt
    rw [← this,← uh HL]
    simp [hil]
   have x0:=h1.1 i (by rw [ltQ_len k l (Nat.le_of_lt hil)];exact hil)
   rw [ltQ_get k l hil,← hsi] at x0
   have z0:=h1.2 i (by rw [ltQ_len k l (Nat.le_of_lt hil)];exact hil)
   have HSM:=hide (fun W=>small_any s i W hs hlt)
   rw [← uh HL] at HSM
   have HF:=hide (fd_succ hil)
   rw [← hsi] at HF
   cases hin:smB' l i with
   | true =>
    have hb:=smB_in hil hin
    rw [← hsi] at hb
    have d32:((s[i].toNat:Int) != (32:Int)) = true:=by simp;omega
    have d10:((s[i].toNat:Int) != (10:Int)) = true:=by simp;omega
    have HF2:=hide ((uh HF).trans (fd_set d32 d10))
    rw [hin] at HSM
    cases hfd:fdL (l.take i) with
    | true =>
     have HS:=hide (ltQ_stay k l hil (by rw [hin,hfd];rfl))
     clear h1 h2 hsi HF
     go_wp2_with (go_at_call 67;refine (uh HSM _).mono ?_;rintro e w' ⟨rfl,rfl⟩)
     go_roundg (G1 - 1)
     case rel=>exact ⟨i + 1,by omega,by go_num,by rw [uh HF2],hide (by rw [← uh HS];exact uh hI)⟩
     case measure=>omega
    | false =>
     have hN:=ltC_nat (k:=k) hil (by rw [hin,hfd];rfl)
     rw [← hsi] at hN
     have HS:=hide (ltQ_set k l hil)
     have HV:=hide hN.1
     obtain ⟨b1,b2⟩:=hb
     clear h1 h2 hsi hN HF
     go_wp2_with (go_at_call 67;refine (uh HSM _).mono ?_;rintro e w' ⟨rfl,rfl⟩)
     go_roundg (G1 - 1)
     case rel=>exact ⟨i + 1,by omega,by go_num,by rw [uh HF2],hide ⟨by rw [← uh HS,← uh HV];exact (uh hI).1.set i (ltC k l i),(uh hI).2.setCell (by rw [uh HB];exact Nat.le_refl _) _⟩⟩
     case measure=>omega
   | false =>
    rw [hin] at HSM
    have HS:=hide (ltQ_stay k l hil (by rw [hin];rfl))
    by_cases e32:(s[i].toNat:Int) = 32
    ·have d32:((s[i].toNat:Int) != (32:Int)) = false:=by simpa using e32
     have HF2:=hide ((uh HF).trans (fd_keep (Or.inl e32)))
     clear h1 h2 hsi HF
     go_wp2_with (go_at_call 67;refine (uh HSM _).mono ?_;rintro e w' ⟨rfl,rfl⟩)
     go_roundg (G1 - 1)
     case rel=>exact ⟨i + 1,by omega,by go_num,by rw [uh HF2],hide (by rw [← uh HS];exact uh hI)⟩
     case measure=>omega
    ·have d32:((s[i].toNat:Int) != (32:Int)) = true:=by simpa using e32
     by_cases e10:(s[i].toNat:Int) = 10
     ·have d10:((s[i].toNat:Int) != (10:Int)) = false:=by simpa using e10
      have HF2:=hide ((uh HF).trans (fd_keep (Or.inr e10)))
      clear h1 h2 hsi HF
      go_wp2_with (go_at_call 67;refine (uh HSM _).mono ?_;rintro e w' ⟨rfl,rfl⟩)
      go_roundg (G1 - 1)
      case rel=>exact ⟨i + 1,by omega,by go_num,by rw [uh HF2],hide (by rw [← uh HS];exact uh hI)⟩
      case measure=>omega
     ·have d10:((s[i].toNat:Int) != (10:Int)) = true:=by simpa using e10
      have HF2:=hide ((uh HF).trans (fd_set d32 d10))
      clear h1 h2 hsi HF
      go_wp2_with (go_at_call 67;refine (uh HSM _).mono ?_;rintro e w' ⟨rfl,rfl⟩)
      go_roundg (G1 - 1)
      case rel=>exact ⟨i + 1,by omega,by go_num,by rw [uh HF2],hide (by rw [← uh HS];exact uh hI)⟩
      case measure=>omega
  ·have hd:decide ((i:Int) < (s.size:Int)) = false:=by simp;omega
   have hie:i = l.length:=by omega
   subst hie
   have e0:ltQ k l l.length = ltL k l:=by unfold ltQ ltL;simp
   have e1:(ltL k l).length = s.size:=by unfold ltL;rw [List.length_map,List.length_range];exact hll
   rw [e0] at h1
   have hcv:=run_convert_bytes_back (P:=Tryz.prog) wr 101 9 5 ⟨B,0,none⟩ cap (ltL k l) Tryz.underlying101 Tryz.underlying5 Tryz.underlying9 (fun j hj=>by
    rw [show (⟨B,0,none⟩:Addr).add j = ⟨B,j,none⟩ by simp [Addr.add];omega]
    exact h1.1 j hj)
   rw [e1] at hcv
   have HN:=hide h2
   clear h1 h2 hI e0 e1
   go_wp2_with fail
   go_ret
   exact ⟨rfl,uh HN⟩
end Go.Proofs.YtciihepbeacppaaGreat
