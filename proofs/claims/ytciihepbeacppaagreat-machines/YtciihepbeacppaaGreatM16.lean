import Derived.Test.YtciihepbeacppaaGreatM15
import Derived.Test.YtciihepbeacppaaGreatM07
import Derived.Deep.LoopGhost
namespace Go.Proofs.YtciihepbeacppaaGreat
open Go.RowKit
theorem clo_pos {d : Nat} {l : List ByteArray} {j : Nat} (h : clo d l = some j) : j < l.length:=by
 induction l generalizing d j with
 | nil=>simp [clo] at h
 | cons x r ih =>
  simp only [clo] at h
  split at h
  ·obtain ⟨k,hk,rfl⟩:=Option.map_eq_some_iff.1 h
   have:=ih hk; simp; omega
  ·split at h
   ·split at h
    ·simp at h; subst h; simp
    ·obtain ⟨k,hk,rfl⟩:=Option.map_eq_some_iff.1 h
     have:=ih hk; simp; omega
   ·obtain ⟨k,hk,rfl⟩:=Option.map_eq_some_iff.1 h
    have:=ih hk; simp; omega
theorem shI_bd {l : List ByteArray} {i : Nat} (h : ¬ shI l i < 0) : ∃ e : Nat,shI l i = (e : Int) ∧ i + 1 ≤ e ∧ e < l.length:=by
 unfold shI at *
 cases hc : clo 1 (l.drop (i + 1)) with
 | none=>rw [hc] at h; simp at h
 | some j =>
  have:=clo_pos hc
  simp only [List.length_drop] at this
  exact ⟨i + 1 + j,rfl,by omega,by omega⟩
theorem find_cl {w : World} {v : Value} {l : List ByteArray} (h : Strs w v l) (hl : l.length ≤ 20000) (b : Nat) (hb : fndL l clW = b) : Calls Tryz.prog 48 #[v,.int .i64 0,.string ⟨#[41]⟩] w fun e w'=>e = .returned (.int .i64 b) ∧ w' = w:=by
 rw [← hb]; exact find_any clW h hl
theorem rcH_none {l : List ByteArray} (h : l.length < 2 ∨ eqW (l[1]?.getD em) opP = false ∨ l.length ≤ fndL l clW + 1 ∨ eqW (l[fndL l clW + 1]?.getD em) lbW = false) : rcH l = none:=by
 unfold rcH; rw [if_pos h]
theorem rcH_none2 {l : List ByteArray} (h : rcB ((l.drop 2).take (fndL l clW - 2)) = false ∨ shI l (fndL l clW + 1) < 0) : rcH l = none:=by
 unfold rcH; split
 ·rfl
 ·rfl
theorem rcH_some {l : List ByteArray} (h1 : ¬ (l.length < 2 ∨ eqW (l[1]?.getD em) opP = false ∨ l.length ≤ fndL l clW + 1 ∨ eqW (l[fndL l clW + 1]?.getD em) lbW = false)) (h2 : ¬ (rcB ((l.drop 2).take (fndL l clW - 2)) = false ∨ shI l (fndL l clW + 1) < 0)) : rcH l = some (fndL l clW,(shI l (fndL l clW + 1)).toNat):=by
 unfold rcH; rw [if_neg h1,if_neg h2]
theorem fndL_two {x y : ByteArray} {r : List ByteArray} (hx : eqW x clW = false) (hy : eqW y clW = false) : 2 ≤ fndL (x :: y :: r) clW:=by
 simp only [fndL,hx,hy]; simp
theorem opP_l : opP.toList = [40]:=ByteArray.toList_eq _
theorem clW_ne {x : ByteArray} {a : List UInt8} (h : x.toList = a) (ha : (a == [41]) = false) : eqW x clW = false:=by unfold eqW; rw [clW_l,h]; exact ha
set_option maxRecDepth 100000 in
set_option maxHeartbeats 1000000 in
theorem rcontrol_bad {B : Nat} {blk : List ByteArray → List Ins → Option (List Ins)} {w : World} {c : Value} {l : List ByteArray} {cl : List Ins} {g off n cap b : Nat} (hstr : StrB B w (.slice (some ⟨g,off,none⟩) n cap) l) (hn : n = l.length) (hown : w.ownsRow B 100 6 c cl.length (insCells cl)) (hl : n ≤ 1000)
  (hb : fndL l clW = b) (hcell : ∀ j,(h : j < l.length) → w.cell? ⟨g,off + j,none⟩ = some (.string l[j]))
  (hbad : n < 2 ∨ (2 ≤ n ∧ eqW (l[1]?.getD em) opP = false) ∨ (2 ≤ n ∧ eqW (l[1]?.getD em) opP = true ∧ n ≤ b + 1) ∨ (2 ≤ n ∧ eqW (l[1]?.getD em) opP = true ∧ b + 1 < n ∧ eqW (l[b + 1]?.getD em) lbW = false)) :
  Calls Tryz.prog 73 #[.slice (some ⟨g,off,none⟩) n cap,c] w fun e w'=>CtPost B w c cl l.length (rct blk l cl) e w':=by
 have HNONE : Hid (rct blk l cl = none):=hide (by
  have : rcH l = none:=rcH_none (by rw [hb,← hn]; rcases hbad with h | ⟨_,h⟩ | ⟨_,_,h⟩ | ⟨_,_,_,h⟩ <;> simp [h])
  unfold rct; rw [this])
 have HF:=hide (find_cl hstr.str (by omega) b hb)
 have HOWN:=hide hown
 have HB:=hide hb
 clear hb hown hstr
 have HP : Hid (∀ w',w' = w → CtPost B w c cl l.length (rct blk l cl) (.returned (.tuple #[c,.int .i64 0,.bool false])) w'):=hide (by
  rintro w' rfl
  exact ⟨c,cl,0,false,rfl,uh HOWN,Stp.refl _ _,Nat.le_refl _,Or.inl ⟨rfl,uh HNONE,by omega⟩⟩)
 rcases hbad with h2 | ⟨h2,h3⟩ | ⟨h2,h3,h4⟩ | ⟨h2,h3,h4,h5⟩
 ·clear hcell hn
  go_enter Tryz.func73,Tryz.ntmps73
  go_wp2_with (go_at_call 48; refine (uh HF).mono ?_; rintro e w' ⟨rfl,rfl⟩)
  go_ret3
  exact uh HP _ rfl
 ·have h1 : 1 < l.length:=by omega
  have c1:=hcell 1 h1
  have hx : (l[1].toList == [40]) = false:=by
   have : l[1]?.getD em = l[1]:=by simp [h1]
   rw [this] at h3; unfold eqW at h3; rw [opP_l] at h3; exact h3
  obtain ⟨y,hy⟩ : ∃ y,y = l[1]:=⟨_,rfl⟩
  rw [← hy] at c1 hx
  clear hcell hn h3 hy h1
  go_enter Tryz.func73,Tryz.ntmps73
  go_wp2_with (go_at_call 48; refine (uh HF).mono ?_; rintro e w' ⟨rfl,rfl⟩)
  go_ret3
  exact uh HP _ rfl
 ·have h1 : 1 < l.length:=by omega
  have c1:=hcell 1 h1
  have hx : (l[1].toList == [40]) = true:=by
   have : l[1]?.getD em = l[1]:=by simp [h1]
   rw [this] at h3; unfold eqW at h3; rw [opP_l] at h3; exact h3
  obtain ⟨y,hy⟩ : ∃ y,y = l[1]:=⟨_,rfl⟩
  rw [← hy] at c1 hx
  have hbl:=fndL_le l clW
  rw [uh HB,← hn] at hbl
  clear hcell hn h3 hy h1
  go_enter Tryz.func73,Tryz.ntmps73
  go_wp2_with (go_at_call 48; refine (uh HF).mono ?_; rintro e w' ⟨rfl,rfl⟩)
  go_ret3
  exact uh HP _ rfl
 ·have h1 : 1 < l.length:=by omega
  have hb1 : b + 1 < l.length:=by omega
  have c1:=hcell 1 h1
  have cb:=hcell (b + 1) hb1
  have hx : (l[1].toList == [40]) = true:=by
   have : l[1]?.getD em = l[1]:=by simp [h1]
   rw [this] at h3; unfold eqW at h3; rw [opP_l] at h3; exact h3
  have hz : (l[b + 1].toList == [123]) = false:=by
   have : l[b + 1]?.getD em = l[b + 1]:=by simp [hb1]
   rw [this] at h5; unfold eqW at h5; rw [show lbW.toList = [123] from ByteArray.toList_eq _] at h5; exact h5
  obtain ⟨y,hy⟩ : ∃ y,y = l[1]:=⟨_,rfl⟩
  obtain ⟨z,hzz⟩ : ∃ z,z = l[b + 1]:=⟨_,rfl⟩
  rw [← hy] at c1 hx
  rw [← hzz] at cb hz
  clear hcell hn h3 hy h1 hb1 h5 hzz
  go_enter Tryz.func73,Tryz.ntmps73
  go_wp2_with (go_at_call 48; refine (uh HF).mono ?_; rintro e w' ⟨rfl,rfl⟩)
  go_ret3
  exact uh HP _ rfl
theorem shut_at {w : World} {v : Value} {l : List ByteArray} (i : Nat) (h : Strs w v l) (hl : l.length ≤ 20000) (hi : i < l.length) (hb : eqW (l[i]?.getD em) lbW = true) :
  Calls Tryz.prog 49 #[v,.int .i64 (i : Int)] w fun e w'=>e = .returned (.int .i64 (shI l i)) ∧ w' = w:=by
 have : l[i]?.getD em = l[i]:=by simp [hi]
 rw [this] at hb
 exact shut_any i h hl hi hb
theorem own_form {w : World} {B : Nat} {e : TypeId} {sz n : Nat} {v : Value} {xs : List Value} (h : w.ownsRow B e sz v n xs) (hn : 0 < n) : ∃ g cap,v = .slice (some ⟨g,0,none⟩) n cap:=by
 rcases h.2 with ⟨_,h0⟩ | ⟨g,cap,cur,hv,_⟩
 ·omega
 ·exact ⟨g,cap,hv⟩
theorem setTo_len (k n : Nat) (l : List Ins) : (setTo k n l).length = l.length:=by simp [setTo]
theorem ins_setTo (k n : Nat) (l : List Ins) : insCells (setTo k n l) = (insCells l).set (k * 6 + 4) (.int .i64 n):=by
 induction l generalizing k with
 | nil=>simp [insCells,setTo]
 | cons a r ih =>
  cases k with
  | zero=>simp [insCells,setTo,Ins.cells]
  | succ k =>
   have:=ih k
   simp only [insCells,setTo,List.modify_succ_cons,List.flatMap_cons] at *
   rw [this,show (k + 1) * 6 + 4 = (k * 6 + 4) + a.cells.length by simp [Ins.cells]; omega,List.set_append_right _ _ (by omega)]
   simp
theorem ins_to (k : Nat) (l : List Ins) (hk : k < l.length) : ∃ m : Nat,(insCells l)[k * 6 + 4]? = some (.int .i64 m):=by
 induction l generalizing k with
 | nil=>simp at hk
 | cons a r ih =>
  cases k with
  | zero=>exact ⟨a.to,by simp [insCells,Ins.cells]⟩
  | succ k =>
   obtain ⟨m,hm⟩:=ih k (by simpa using hk)
   refine ⟨m,?_⟩
   simp only [insCells,List.flatMap_cons] at *
   rw [show (k + 1) * 6 + 4 = (k * 6 + 4) + a.cells.length by simp [Ins.cells]; omega,List.getElem?_append_right (by omega),Nat.add_sub_cancel]
   exact hm
theorem own_to {w : World} {B : Nat} {e : TypeId} {n g cap k : Nat} {l : List Ins} (h : w.ownsRow B e 6 (.slice (some ⟨g,0,none⟩) n cap) n (insCells l)) (hk : k < l.length) : (∃ m : Nat,w.cell? ⟨g,k * 6 + 4,none⟩ = some (.int .i64 m)) ∧ w.frozen? ⟨g,k * 6 + 4,none⟩ = false:=by
 constructor
 ·obtain ⟨m,hm⟩:=ins_to k l hk
  have:=h.cells (g:=g) rfl (k * 6 + 4) _ hm
  rw [show (⟨g,0,none⟩ : Addr).add (k * 6 + 4) = ⟨g,k * 6 + 4,none⟩ by unfold Addr.add; split <;> simp_all] at this
  exact ⟨m,this⟩
 ·rcases h.2 with ⟨h0,_⟩ | ⟨g',cap',cur,hv,hB,hg,hn,hm,hs,ht⟩
  ·cases h0
  ·simp only [Value.slice.injEq,Option.some.injEq,Addr.mk.injEq] at hv
   obtain ⟨⟨rfl,_⟩,_,rfl⟩:=hv
   simp [World.frozen?,hg]
theorem own_setTo {w : World} {B : Nat} {e : TypeId} {n g cap : Nat} {l : List Ins} (h : w.ownsRow B e 6 (.slice (some ⟨g,0,none⟩) n cap) n (insCells l)) (hl : l.length = n) (k m : Nat) :
  (w.setCell ⟨g,k * 6 + 4,none⟩ (.int .i64 (m : Int))).ownsRow B e 6 (.slice (some ⟨g,0,none⟩) n cap) (setTo k m l).length (insCells (setTo k m l)):=by
 rw [setTo_len,hl,ins_setTo]; exact rown_set h _
theorem ct_step {B : Nat} {w w1 w2 : World} {F : List Nat} {v : Value} {n : Nat} {xs : List Value} {e : TypeId} {sz : Nat} {o o' : Obj} {g2 : Nat} (stp : Stp F w v.ownBlock.toList w1) (own : w1.ownsRow B e sz v n xs) (hB : B ≤ w1.heap.size) (hg : ((w1.alloc o).alloc o').grownBy w2 v.ownBlock) (hblk : some g2 = v.ownBlock ∨ g2 = w1.heap.size + 1 + 1) :
  Stp F w [g2] w2 ∧ Below B w1 w2 ∧ w2.heap[w1.heap.size]? = some o ∧ g2 ≠ w1.heap.size ∧ w1.heap.size < w2.heap.size:=by
 have hrow : ∀ k,v.ownBlock = some k → k ∈ F ∨ w.heap.size ≤ k:=fun k hk=>stp.foot k (by rw [hk]; simp)
 have hsz:=hg.size
 have hs0:=stp.size
 simp only [World.size_alloc] at hsz
 refine ⟨(((stp.alloc o).alloc o').grown hg hrow).refoot (fun k hk=>?_),?_,?_,?_,by omega⟩
 ·simp only [List.mem_singleton] at hk
  subst hk
  rcases hblk with h | h
  ·exact hrow k h.symm
  ·right; omega
 ·exact (((Below.refl B w1).alloc hB o).alloc (by simp; omega) o').grown hg (by simp; omega) (fun k hk=>(own.lt k hk).1)
 ·rw [hg.block _ (by simp; omega) (fun h=>by have:=(own.lt _ h.symm).2; omega),Below.heap_alloc _ _ _ (by simp)]
  exact heap_alloc_new w1 o
 ·rintro rfl
  rcases hblk with h | h
  ·have:=(own.lt _ h.symm).2; omega
  ·omega
theorem ct_step1 {B : Nat} {w w1 w2 : World} {F : List Nat} {v : Value} {n : Nat} {xs : List Value} {e : TypeId} {sz : Nat} {o : Obj} {g2 : Nat} (stp : Stp F w v.ownBlock.toList w1) (own : w1.ownsRow B e sz v n xs) (hB : B ≤ w1.heap.size) (hg : (w1.alloc o).grownBy w2 v.ownBlock) (hblk : some g2 = v.ownBlock ∨ g2 = w1.heap.size + 1) :
  Stp F w [g2] w2 ∧ Below B w1 w2 ∧ ∀ k,k < w1.heap.size → v.ownBlock ≠ some k → w2.heap[k]? = w1.heap[k]?:=by
 have hrow : ∀ k,v.ownBlock = some k → k ∈ F ∨ w.heap.size ≤ k:=fun k hk=>stp.foot k (by rw [hk]; simp)
 have hsz:=hg.size
 have hs0:=stp.size
 simp only [World.size_alloc] at hsz
 refine ⟨((stp.alloc o).grown hg hrow).refoot (fun k hk=>?_),?_,?_⟩
 ·simp only [List.mem_singleton] at hk
  subst hk
  rcases hblk with h | h
  ·exact hrow k h.symm
  ·right; omega
 ·exact ((Below.refl B w1).alloc hB o).grown hg (by simp; omega) (fun k hk=>(own.lt k hk).1)
 ·intro k hk hne
  rw [hg.block k (by simp; omega) (fun h=>hne h.symm),Below.heap_alloc _ _ _ hk]
section
variable {blk : List ByteArray → List Ins → Option (List Ins)} {l : List ByteArray} {c c2 c7 : List Ins} {b e f : Nat} {i1 : Ins} {hd : Bool}
theorem rct_none (h : rcH l = some (b,e)) (h0 : eqW (l[0]?.getD em) whW = hd) (hi : { rcI ((l.drop 2).take (b - 2)) with head:=hd } = i1) (hb : blk ((l.drop (b + 2)).take (e - (b + 2))) (c ++ [i1]) = none) : rct blk l c = none:=by
 unfold rct; rw [h]; dsimp only; rw [h0,hi,hb]
theorem rct_while (h : rcH l = some (b,e)) (h0 : eqW (l[0]?.getD em) whW = true) (hi : { rcI ((l.drop 2).take (b - 2)) with head:=true } = i1) (hb : blk ((l.drop (b + 2)).take (e - (b + 2))) (c ++ [i1]) = some c2) : rct blk l c = some (setTo c.length (c2.length + 1) (c2 ++ [gt c.length]),e + 1):=by
 unfold rct; rw [h]; dsimp only; rw [h0,hi,hb]; rfl
theorem rct_if (h : rcH l = some (b,e)) (h0 : eqW (l[0]?.getD em) whW = false) (hi : { rcI ((l.drop 2).take (b - 2)) with head:=false } = i1) (hb : blk ((l.drop (b + 2)).take (e - (b + 2))) (c ++ [i1]) = some c2) (he : (decide (e + 1 < l.length) && eqW (l[e + 1]?.getD em) elW) = false) : rct blk l c = some (setTo c.length c2.length c2,e + 1):=by
 unfold rct; rw [h]; dsimp only; rw [h0,hi,hb]; dsimp only; rw [he]; rfl
theorem rct_el1 (h : rcH l = some (b,e)) (h0 : eqW (l[0]?.getD em) whW = false) (hi : { rcI ((l.drop 2).take (b - 2)) with head:=false } = i1) (hb : blk ((l.drop (b + 2)).take (e - (b + 2))) (c ++ [i1]) = some c2) (he : (decide (e + 1 < l.length) && eqW (l[e + 1]?.getD em) elW) = true) (h1 : l.length ≤ e + 2 ∨ eqW (l[e + 2]?.getD em) lbW = false) : rct blk l c = none:=by
 unfold rct; rw [h]; dsimp only; rw [h0,hi,hb]; dsimp only; rw [he,if_pos h1]; rfl
theorem rct_el2 (h : rcH l = some (b,e)) (h0 : eqW (l[0]?.getD em) whW = false) (hi : { rcI ((l.drop 2).take (b - 2)) with head:=false } = i1) (hb : blk ((l.drop (b + 2)).take (e - (b + 2))) (c ++ [i1]) = some c2) (he : (decide (e + 1 < l.length) && eqW (l[e + 1]?.getD em) elW) = true) (h1 : ¬ (l.length ≤ e + 2 ∨ eqW (l[e + 2]?.getD em) lbW = false)) (h2 : shI l (e + 2) < 0) : rct blk l c = none:=by
 unfold rct; rw [h]; dsimp only; rw [h0,hi,hb]; dsimp only; rw [he,if_neg h1,if_pos h2]; rfl
theorem rct_el3 (h : rcH l = some (b,e)) (h0 : eqW (l[0]?.getD em) whW = false) (hi : { rcI ((l.drop 2).take (b - 2)) with head:=false } = i1) (hb : blk ((l.drop (b + 2)).take (e - (b + 2))) (c ++ [i1]) = some c2) (he : (decide (e + 1 < l.length) && eqW (l[e + 1]?.getD em) elW) = true) (h1 : ¬ (l.length ≤ e + 2 ∨ eqW (l[e + 2]?.getD em) lbW = false)) (h2 : shI l (e + 2) = (f : Int)) :
  rct blk l c = (blk ((l.drop (e + 3)).take (f - (e + 3))) (setTo c.length (c2.length + 1) (c2 ++ [gt 0]))).map (fun c7=>(setTo c2.length c7.length c7,f + 1)):=by
 unfold rct; rw [h]; dsimp only; rw [h0,hi,hb]; simp only [he,Bool.false_eq_true,if_false,if_true]
 rw [if_neg h1,if_neg (show ¬ shI l (e + 2) < 0 by rw [h2]; omega),h2]
 simp only [Int.toNat_natCast]
 cases blk ((l.drop (e + 3)).take (f - (e + 3))) (setTo c.length (c2.length + 1) (c2 ++ [gt 0])) <;> rfl
end
set_option maxRecDepth 100000 in
set_option maxHeartbeats 1000000 in
theorem rcontrol_good {B f : Nat} {blk : List ByteArray → List Ins → Option (List Ins)} (hblk : RblOK B blk f) {w : World} {c : Value} {l : List ByteArray} {cl : List Ins} {g off n cap b : Nat} {x y z : ByteArray} {hd : Bool} (hstr : StrB B w (.slice (some ⟨g,off,none⟩) n cap) l) (hn : n = l.length) (hB : B ≤ w.heap.size) (hown : w.ownsRow B 100 6 c cl.length (insCells cl)) (hlf : n ≤ f) (hbd : cl.length + 2 * n ≤ 2000)
  (hncap : n ≤ cap) (hm : cap ≤ 9223372036854775807) (hg : g < B) (hb : fndL l clW = b) (hcell : ∀ j,(h : j < l.length) → w.cell? ⟨g,off + j,none⟩ = some (.string l[j]))
  (h2 : 2 ≤ b) (hbn : b + 1 < n) (c0 : w.cell? ⟨g,off,none⟩ = some (.string x)) (c1 : w.cell? ⟨g,off + 1,none⟩ = some (.string y)) (cb : w.cell? ⟨g,off + (b + 1),none⟩ = some (.string z))
  (hx : (x.toList == [119,104,105,108,101]) = hd) (hy : (y.toList == [40]) = true) (hz : (z.toList == [123]) = true) (hl0 : eqW (l[0]?.getD em) whW = hd) (hlz : eqW (l[b + 1]?.getD em) lbW = true) (hg1 : ¬ (l.length < 2 ∨ eqW (l[1]?.getD em) opP = false ∨ l.length ≤ fndL l clW + 1 ∨ eqW (l[fndL l clW + 1]?.getD em) lbW = false)) :
  Calls Tryz.prog 73 #[.slice (some ⟨g,off,none⟩) n cap,c] w fun e w'=>CtPost B w c cl l.length (rct blk l cl) e w':=by
 obtain ⟨i0,hi,hz0,hz1,hz2⟩:=info_parts Tryz.infoIns
 obtain ⟨ao,ccap,rfl⟩:=slice_of_own hown
 have HF:=hide (find_cl hstr.str (by omega) b hb)
 have HST2:=hide (hstr.part rfl 2 b h2 (by omega) (some ⟨g,off + 2,none⟩) (fun g' off' e _=>by simp only [Option.some.injEq,Addr.mk.injEq] at e; obtain ⟨rfl,rfl,_⟩:=e; rfl))
 have HC:=hide (rcond_any (uh HST2).str)
 have HBLK:=hide hblk
 have HST:=hide hstr
 have HOWN:=hide hown
 have HB:=hide hb
 have HN:=hide hn
 have HCELL:=hide hcell
 have HL0:=hide hl0
 have HLZ:=hide hlz
 have HG1:=hide hg1
 have hc2 : ¬ cap = 2:=by omega
 clear hblk hstr hown hb hn hcell hl0 hlz hg1 HST2
 go_enter Tryz.func73,Tryz.ntmps73
 go_wp2_with (go_at_call 48; refine (uh HF).mono ?_; rintro e w' ⟨rfl,rfl⟩)
 refine (uh HC).mono ?_
 rintro e w1 ⟨⟨⟨o1,o2,o3,o4,o5,o6⟩,rfl,hins⟩,hb1⟩
 have HINS:=hide hins
 have hs1:=hb1.size
 have hB1 : B ≤ w1.heap.size:=Nat.le_trans hB hs1
 have HB1:=hide (hb1.mono hB)
 have HS1:=hide ((Stp.refl (Value.slice ao cl.length ccap).ownBlock.toList w').onBelow hb1)
 have c01 : w1.cell? ⟨g,off,none⟩ = some (.string x):=by rw [(hb1.mono hB).cell (p:=⟨g,off,none⟩) hg]; exact c0
 have HOWN1:=hide (rowBelow2 (uh HOWN) hb1)
 obtain ⟨s,hs⟩ : ∃ s,s = shI l (b + 1):=⟨_,rfl⟩
 have HSH : Hid (∀ w2,Below B w' w2 → Calls Tryz.prog 49 #[.slice (some ⟨g,off,none⟩) n cap,.int .i64 ((b : Int) + 1)] w2 fun e w3=>e = .returned (.int .i64 s) ∧ w3 = w2):=hide (fun w2 h=>by
  rw [hs]
  exact shut_at (b + 1) ((uh HST).below h).str (by rw [← uh HN]; omega) (by rw [← uh HN]; omega) (uh HLZ))
 have HS:=hide hs
 clear hins hb1 hs HC HF c0 c1 cb hy hz
 simp only [Ins.cells]
 by_cases hbad : rcB ((l.drop 2).take (b - 2)) = false ∨ s < 0
 ·have HNONE : Hid (rct blk l cl = none):=hide (by
   have : rcH l = none:=rcH_none2 (by rw [uh HB,← uh HS]; exact hbad)
   unfold rct; rw [this])
  have HPOST : Hid (∀ o,CtPost B w' (.slice ao cl.length ccap) cl l.length (rct blk l cl) (.returned (.tuple #[.slice ao cl.length ccap,.int .i64 0,.bool false])) (w1.alloc o)):=hide (fun o =>
   ⟨_,cl,0,false,rfl,(uh HOWN1).alloc _,(uh HS1).alloc _,Nat.le_refl _,Or.inl ⟨rfl,uh HNONE,by omega⟩⟩)
  cases hr : rcB ((l.drop 2).take (b - 2)) with
  | false =>
   clear hbad hr
   go_wp2_with (go_at_call 49; refine (uh HSH _ ((uh HB1).alloc hB1 _)).mono ?_; rintro e w' ⟨rfl,rfl⟩)
   go_ret3
   exact uh HPOST _
  | true =>
   have hsn : s < 0:=by rcases hbad with h | h; exact absurd h (by simp [hr]); exact h
   clear hbad hr
   go_wp2_with (go_at_call 49; refine (uh HSH _ ((uh HB1).alloc hB1 _)).mono ?_; rintro e w' ⟨rfl,rfl⟩)
   go_ret3
   exact uh HPOST _
 ·have hr : rcB ((l.drop 2).take (b - 2)) = true:=by
   cases h : rcB ((l.drop 2).take (b - 2)) with
   | true=>rfl
   | false=>exact absurd (Or.inl h) hbad
  obtain ⟨e,he,heb,hen⟩ : ∃ e : Nat,shI l (b + 1) = (e : Int) ∧ b + 1 + 1 ≤ e ∧ e < l.length:=shI_bd (by rw [← uh HS]; exact fun h=>hbad (Or.inr h))
  have HH : Hid (rcH l = some (b,e)):=hide (by
   rw [rcH_some (uh HG1) (by rw [uh HB,← uh HS]; exact hbad),uh HB,he]; rfl)
  obtain rfl : s = (e : Int):=(uh HS).trans he
  rw [← uh HN] at hen
  have HINS':=hide (uh HINS hr)
  rw [hr]
  have c02 : (w1.alloc (.cells #[.string o1,.string o2,.string o3,.string o4,.int .i64 o5,.bool o6] 100)).cell? ⟨g,off,none⟩ = some (.string x):=by
   rw [((Below.refl B w1).alloc hB1 _).cell (p:=⟨g,off,none⟩) hg]; exact c01
  clear hbad hr he HS HINS HG1 c01
  go_wp2_with first | (go_at_call 49; refine (uh HSH _ ((uh HB1).alloc hB1 _)).mono ?_; rintro e w' ⟨rfl,rfl⟩) | (at_builtin; refine wpList_app1 _ rfl (.tmp 67) (.tmp 69) 52 rfl B 100 i0 _ 6 80 Tryz.underlying52 hi hz0 hz1 hz2 rfl (by decide) _ cl.length (insCells cl) rfl (rowAlloc2 (uh HOWN1) _ _) ⟨_,0,none⟩ 1 [.string o1,.string o2,.string o3,.string o4,.int .i64 o5,.bool hd] rfl rfl (new_cells _ _ (by simp) [.string o1,.string o2,.string o3,.string o4,.int .i64 o5,.bool hd] _) (Ins.one ⟨o1,o2,o3,o4,o5,hd⟩) (by omega) (by omega) (by simp; omega) ?_)
  intro g2 cap2 w2 hown2 hgrow2 hblk2
  have R:=ct_step (uh HS1) (uh HOWN1) hB1 hgrow2 (by simpa using hblk2)
  obtain ⟨i1,hi1⟩ : ∃ i1 : Ins,i1 = ⟨o1,o2,o3,o4,o5,hd⟩:=⟨_,rfl⟩
  have HO2 : Hid (w2.ownsRow B 100 6 (.slice (some ⟨g2,0,none⟩) (cl.length + 1) cap2) (cl ++ [i1]).length (insCells (cl ++ [i1]))):=hide (own_cast hown2 (by simp) (by rw [insCells_snoc,hi1]; rfl))
  have HRI : Hid ({ rcI ((l.drop 2).take (b - 2)) with head:=hd } = i1):=hide (by rw [← uh HINS',hi1])
  have HSW2:=hide R.1
  have HBW2:=hide ((uh HB1).trans R.2.1)
  have HR8:=hide R.2.2.1
  have hg2:=R.2.2.2.1
  have hz12:=R.2.2.2.2
  have HST3:=hide (((uh HST).below (uh HBW2)).part rfl (b + 2) e (by omega) (by rw [← uh HN]; omega) (some ⟨g,off + (b + 2),none⟩) (fun g' off' e _=>by simp only [Option.some.injEq,Addr.mk.injEq] at e; obtain ⟨rfl,rfl,_⟩:=e; rfl))
  have HBC:=hide (uh HBLK w2 _ _ _ (cl ++ [i1]) (uh HST3) (by omega) (uh HO2) (by simp only [List.length_take,List.length_drop]; omega) (by simp only [List.length_take,List.length_drop,List.length_append,List.length_singleton]; omega))
  have hc3 : ¬ cap = b + 2:=by omega
  clear R hown2 hgrow2 hblk2 hi1 c02 HST3 HSH HLZ
  go_wp2_with fail
  refine (uh HBC).mono ?_
  rintro _ w3 ⟨c3,cl3,ok,rfl,hown3,hstp3,hge3,hle3,hres⟩
  simp only [List.length_take,List.length_drop,List.length_append,List.length_singleton] at hge3 hle3
  rw [← uh HN] at hle3
  have hL3 : cl3.length ≤ cl.length + 1 + 2 * (e - (b + 2)):=by omega
  obtain ⟨g3,cap3,rfl⟩:=own_form hown3 (by omega)
  have hstp3' : Stp [g2] w2 [g3] w3:=hstp3
  have hzs3:=hstp3'.size
  have hr83 : w3.heap[w1.heap.size]? = some (.cells #[.string o1,.string o2,.string o3,.string o4,.int .i64 o5,.bool hd] 100 (0,0)):=by
   rw [hstp3'.block _ hz12 (by simpa using Ne.symm hg2)]; exact uh HR8
  have hg3 : g3 ≠ w1.heap.size:=by
   rcases hstp3'.foot g3 (by simp) with h | h
   ·simp only [List.mem_singleton] at h; rw [h]; exact hg2
   ·omega
  have HSW3:=hide ((uh HSW2).trans hstp3')
  have HBW3:=hide ((uh HBW2).trans (hstp3'.below (by omega) (fun k hk=>by simp only [List.mem_singleton] at hk; subst hk; exact ((uh HO2).lt k rfl).1)))
  have HO3:=hide hown3
  have HR83:=hide hr83
  obtain ⟨⟨q0,q1,q2,q3,q4,q5⟩,-⟩:=cellsR hr83
  clear hown3 hstp3 hstp3' hle3 hr83 HBC HSW2 HBW2 HR8 hg2 HO2 q0 q1 q2 q3 q4
  rcases hres with ⟨rfl,hrb⟩ | ⟨rfl,hrb⟩
  ·have HNONE:=hide (rct_none (uh HH) (uh HL0) (uh HRI) hrb)
   clear hrb
   go_wp2_with fail
   go_ret3
   exact ⟨_,cl3,0,false,rfl,uh HO3,uh HSW3,by omega,Or.inl ⟨rfl,uh HNONE,by rw [← uh HN]; omega⟩⟩
  ·have HRB:=hide hrb
   clear hrb
   cases hd with
   | true =>
    have HE:=hide (rct_while (uh HH) (uh HL0) (uh HRI) (uh HRB))
    go_wp2_with (at_builtin; refine wpList_app1 _ rfl (.tmp 86) (.tmp 89) 52 rfl B 100 i0 _ 6 80 Tryz.underlying52 hi hz0 hz1 hz2 rfl (by decide) _ cl3.length (insCells cl3) rfl ((uh HO3).alloc _) ⟨_,0,none⟩ 1 [.string ⟨#[103,111,116,111]⟩,.string ⟨#[]⟩,.string ⟨#[]⟩,.string ⟨#[]⟩,.int .i64 cl.length,.bool false] rfl rfl (new_cells _ _ (by simp) [.string ⟨#[103,111,116,111]⟩,.string ⟨#[]⟩,.string ⟨#[]⟩,.string ⟨#[]⟩,.int .i64 cl.length,.bool false] _) (Ins.one (gt cl.length)) (by omega) (by omega) (by simp; omega) ?_)
    intro g4 cap4 w4 hown4 hgrow4 hblk4
    have R:=ct_step1 (v:=.slice (some ⟨g3,0,none⟩) cl3.length cap3) (uh HSW3) (uh HO3) (by omega) hgrow4 (by simpa using hblk4)
    have hown4' : w4.ownsRow B 100 6 (.slice (some ⟨g4,0,none⟩) (cl3.length + 1) cap4) (cl3.length + 1) (insCells (cl3 ++ [gt cl.length])):=by rw [insCells_snoc]; exact hown4
    obtain ⟨⟨m4,hm4⟩,hf4⟩:=own_to (k:=cl.length) hown4' (by simp; omega)
    have hr84 : w4.heap[w1.heap.size]? = some (.cells #[.string o1,.string o2,.string o3,.string o4,.int .i64 o5,.bool true] 100 (0,0)):=by
     rw [R.2.2 _ (by omega) (by simpa [Value.ownBlock] using hg3)]; exact uh HR83
    obtain ⟨⟨q0,q1,q2,q3,q4,q6⟩,-⟩:=cellsR hr84
    have HO4:=hide hown4'
    have HSW4:=hide R.1
    clear hown4 hgrow4 hblk4 hown4' R hr84 q0 q1 q2 q3 q4 q5 HR83 HSW3 HO3 HBW3
    go_wp2_with fail
    go_ret3
    exact ⟨_,setTo cl.length (cl3.length + 1) (cl3 ++ [gt cl.length]),e + 1,true,rfl,own_setTo (uh HO4) (by simp) _ _,(uh HSW4).setCell (p:=⟨g4,cl.length * 6 + 4,none⟩) ((uh HSW4).foot g4 (by simp)) _,by simp [setTo_len]; omega,Or.inr ⟨rfl,uh HE,by omega,by rw [← uh HN]; omega,by simp [setTo_len]; omega⟩⟩
   | false =>
    have CELLAT : Hid (∀ j,j < n → ∃ y,w3.cell? ⟨g,off + j,none⟩ = some (.string y) ∧ l[j]?.getD em = y):=hide (fun j hj=>by
     have hj' : j < l.length:=by rw [← uh HN]; exact hj
     exact ⟨l[j],by rw [(uh HBW3).cell (p:=⟨g,off + j,none⟩) hg]; exact uh HCELL j hj',by simp [hj']⟩)
    have HEL : Hid (elW.toList = [101,108,115,101]):=hide (ByteArray.toList_eq _)
    have HLB : Hid (lbW.toList = [123]):=hide (ByteArray.toList_eq _)
    cases hel : (decide (e + 1 < l.length) && eqW (l[e + 1]?.getD em) elW) with
    | false =>
     have HE:=hide (rct_if (uh HH) (uh HL0) (uh HRI) (uh HRB) hel)
     obtain ⟨⟨m4,hm4⟩,hf4⟩:=own_to (k:=cl.length) (uh HO3) (by omega)
     have HP : Hid (CtPost B w' (.slice ao cl.length ccap) cl l.length (rct blk l cl) (.returned (.tuple #[.slice (some ⟨g3,0,none⟩) cl3.length cap3,.int .i64 ((e : Int) + 1),.bool true])) (w3.setCell ⟨g3,cl.length * 6 + 4,none⟩ (.int .i64 (cl3.length : Int)))):=hide
      ⟨_,setTo cl.length cl3.length cl3,e + 1,true,rfl,own_setTo (uh HO3) rfl _ _,(uh HSW3).setCell (p:=⟨g3,cl.length * 6 + 4,none⟩) ((uh HSW3).foot g3 (by simp)) _,by simp [setTo_len]; omega,Or.inr ⟨rfl,uh HE,by omega,by rw [← uh HN]; omega,by simp [setTo_len]; omega⟩⟩
     by_cases hen1 : e + 1 < n
     ·obtain ⟨y1,hy1,hl1⟩:=uh CELLAT (e + 1) hen1
      have hy1' : (y1.toList == [101,108,115,101]) = false:=by
       rw [hl1,← uh HN] at hel
       simp only [hen1,decide_true,Bool.true_and] at hel
       rw [← uh HEL]; exact hel
      clear hel hl1
      go_wp2_with fail
      go_ret3
      exact uh HP
     ·clear hel
      go_wp2_with fail
      go_ret3
      exact uh HP
    | true =>
     have hen1 : e + 1 < n:=by
      rw [uh HN]
      simp only [Bool.and_eq_true,decide_eq_true_eq] at hel
      exact hel.1
     obtain ⟨y1,hy1,hl1⟩:=uh CELLAT (e + 1) hen1
     have hy1' : (y1.toList == [101,108,115,101]) = true:=by
      simp only [Bool.and_eq_true] at hel
      rw [hl1] at hel
      rw [← uh HEL]; exact hel.2
     have HELS:=hide hel
     have HPN : Hid (rct blk l cl = none → CtPost B w' (.slice ao cl.length ccap) cl l.length (rct blk l cl) (.returned (.tuple #[.slice (some ⟨g3,0,none⟩) cl3.length cap3,.int .i64 0,.bool false])) w3):=hide (fun h =>
      ⟨_,cl3,0,false,rfl,uh HO3,uh HSW3,by omega,Or.inl ⟨rfl,h,by rw [← uh HN]; omega⟩⟩)
     clear hel hl1
     by_cases hen2 : e + 2 < n
     ·obtain ⟨y2,hy2,hl2⟩:=uh CELLAT (e + 2) hen2
      cases hy2' : (y2.toList == [123]) with
      | false =>
       have HE:=hide (rct_el1 (uh HH) (uh HL0) (uh HRI) (uh HRB) (uh HELS) (Or.inr (by rw [hl2]; unfold eqW; rw [uh HLB]; exact hy2')))
       clear hl2
       go_wp2_with fail
       go_ret3
       exact uh HPN (uh HE)
      | true =>
       have HL2 : Hid (eqW (l[e + 2]?.getD em) lbW = true):=hide (by rw [hl2]; unfold eqW; rw [uh HLB]; exact hy2')
       have HN1 : Hid (¬ (l.length ≤ e + 2 ∨ eqW (l[e + 2]?.getD em) lbW = false)):=hide (by rw [uh HL2,← uh HN]; simp; omega)
       obtain ⟨s,hs⟩ : ∃ s,s = shI l (e + 2):=⟨_,rfl⟩
       have HSH : Hid (Calls Tryz.prog 49 #[.slice (some ⟨g,off,none⟩) n cap,.int .i64 ((e : Int) + 2)] w3 fun e w5=>e = .returned (.int .i64 s) ∧ w5 = w3):=hide (by
        rw [hs]
        exact shut_at (e + 2) ((uh HST).below (uh HBW3)).str (by rw [← uh HN]; omega) (by rw [← uh HN]; omega) (uh HL2))
       have HS:=hide hs
       clear hs hl2
       by_cases hs0 : s < 0
       ·have HE:=hide (rct_el2 (uh HH) (uh HL0) (uh HRI) (uh HRB) (uh HELS) (uh HN1) (by rw [← uh HS]; exact hs0))
        go_wp2_with (go_at_call 49; refine (uh HSH).mono ?_; rintro _ wx ⟨rfl,hwx⟩; have hwy:=hwx.symm; clear hwx; subst hwy)
        go_ret3
        exact uh HPN (uh HE)
       ·obtain ⟨f2,he2,heb2,hen3⟩ : ∃ f2 : Nat,shI l (e + 2) = (f2 : Int) ∧ e + 2 + 1 ≤ f2 ∧ f2 < l.length:=shI_bd (by rw [← uh HS]; exact hs0)
        have HE:=hide (rct_el3 (uh HH) (uh HL0) (uh HRI) (uh HRB) (uh HELS) (uh HN1) he2)
        obtain rfl : s = (f2 : Int):=(uh HS).trans he2
        rw [← uh HN] at hen3
        clear he2 hs0 HS
        go_wp2_with first | (go_at_call 49; refine (uh HSH).mono ?_; rintro _ wx ⟨rfl,hwx⟩; have hwy:=hwx.symm; clear hwx; subst hwy) | (at_builtin; refine wpList_app1 _ rfl (.tmp 143) (.tmp 145) 52 rfl B 100 i0 _ 6 80 Tryz.underlying52 hi hz0 hz1 hz2 rfl (by decide) _ cl3.length (insCells cl3) rfl ((uh HO3).alloc _) ⟨_,0,none⟩ 1 [.string ⟨#[103,111,116,111]⟩,.string ⟨#[]⟩,.string ⟨#[]⟩,.string ⟨#[]⟩,.int .i64 0,.bool false] rfl rfl (new_cells _ _ (by simp) [.string ⟨#[103,111,116,111]⟩,.string ⟨#[]⟩,.string ⟨#[]⟩,.string ⟨#[]⟩,.int .i64 0,.bool false] _) (Ins.one (gt 0)) (by omega) (by omega) (by simp; omega) ?_)
        intro g4 cap4 w4 hown4 hgrow4 hblk4
        have R:=ct_step1 (v:=.slice (some ⟨g3,0,none⟩) cl3.length cap3) (uh HSW3) (uh HO3) (by omega) hgrow4 (by simpa using hblk4)
        have hown4' : w4.ownsRow B 100 6 (.slice (some ⟨g4,0,none⟩) (cl3.length + 1) cap4) (cl3.length + 1) (insCells (cl3 ++ [gt 0])):=by rw [insCells_snoc]; exact hown4
        obtain ⟨⟨m4,hm4⟩,hf4⟩:=own_to (k:=cl.length) hown4' (by simp; omega)
        have hB4:=R.2.1.size
        obtain ⟨w5,hw5⟩ : ∃ w5,w5 = w4.setCell ⟨g4,cl.length * 6 + 4,none⟩ (.int .i64 ((cl3.length : Int) + 1)):=⟨_,rfl⟩
        obtain ⟨cl5,hcl5⟩ : ∃ cl5,cl5 = setTo cl.length (cl3.length + 1) (cl3 ++ [gt 0]):=⟨_,rfl⟩
        have hlen5 : cl5.length = cl3.length + 1:=by rw [hcl5,setTo_len]; simp
        have hown5 : w5.ownsRow B 100 6 (.slice (some ⟨g4,0,none⟩) (cl3.length + 1) cap4) cl5.length (insCells cl5):=by rw [hw5,hcl5]; exact own_setTo hown4' (by simp) _ _
        have hsw5 : Stp (Value.slice ao cl.length ccap).ownBlock.toList w' [g4] w5:=by rw [hw5]; exact R.1.setCell (p:=⟨g4,cl.length * 6 + 4,none⟩) (R.1.foot g4 (by simp)) _
        have hbw5 : Below B w' w5:=by rw [hw5]; exact ((uh HBW3).trans R.2.1).setCell (p:=⟨g4,cl.length * 6 + 4,none⟩) (hown4'.lt g4 rfl).1 _
        have hB5 : B ≤ w5.heap.size:=Nat.le_trans hB hbw5.size
        have HST5:=hide (((uh HST).below hbw5).part rfl (e + 3) f2 (by omega) (by rw [← uh HN]; omega) (some ⟨g,off + (e + 3),none⟩) (fun g' off' e _=>by simp only [Option.some.injEq,Addr.mk.injEq] at e; obtain ⟨rfl,rfl,_⟩:=e; rfl))
        have HBC:=hide (uh HBLK w5 _ _ _ cl5 (uh HST5) hB5 hown5 (by simp only [List.length_take,List.length_drop]; omega) (by simp only [List.length_take,List.length_drop]; omega))
        rw [← hcl5] at HE
        have HO5:=hide hown5
        have HSW5:=hide hsw5
        rw [hw5] at HBC
        have HW5:=hide hw5
        have hc5 : ¬ cap = e + 3:=by omega
        clear hown4 hgrow4 hblk4 hown4' R hown5 hsw5 hbw5 hw5 HSH HST5 HSW3 HO3 HBW3 HR83 hcl5 q5
        go_wp2_with fail
        refine (uh HBC).mono ?_
        rintro _ w7 ⟨c7,cl7,ok,rfl,hown7,hstp7,hge7,hle7,hres7⟩
        simp only [List.length_take,List.length_drop] at hle7
        rw [← uh HN] at hle7
        obtain ⟨g7,cap7,rfl⟩:=own_form hown7 (by omega)
        rw [← uh HW5] at hstp7
        have hstp7' : Stp [g4] w5 [g7] w7:=hstp7
        obtain ⟨⟨m7,hm7⟩,hf7⟩:=own_to (k:=cl3.length) hown7 (by omega)
        have HP : Hid (CtPost B w' (.slice ao cl.length ccap) cl l.length (rct blk l cl) (.returned (.tuple #[.slice (some ⟨g7,0,none⟩) cl7.length cap7,.int .i64 ((f2 : Int) + 1),.bool ok])) (w7.setCell ⟨g7,cl3.length * 6 + 4,none⟩ (.int .i64 (cl7.length : Int)))):=hide (by
         have hst:=(uh HSW5).trans hstp7'
         refine ⟨_,setTo cl3.length cl7.length cl7,f2 + 1,ok,rfl,own_setTo hown7 rfl _ _,hst.setCell (p:=⟨g7,cl3.length * 6 + 4,none⟩) (hst.foot g7 (by simp)) _,by simp only [setTo_len]; omega,?_⟩
         simp only [setTo_len,← uh HN]
         rcases hres7 with ⟨rfl,h⟩ | ⟨rfl,h⟩
         ·exact Or.inl ⟨rfl,by rw [uh HE,h]; rfl,by omega⟩
         ·exact Or.inr ⟨rfl,by rw [uh HE,h]; rfl,by omega,by omega,by omega⟩)
        clear hown7 hstp7 hstp7' hres7 HBC HO5 HSW5 HW5 hm4 hf4 hle7
        go_wp2_with fail
        go_ret3
        exact uh HP
     ·have HE:=hide (rct_el1 (uh HH) (uh HL0) (uh HRI) (uh HRB) (uh HELS) (Or.inl (by rw [← uh HN]; omega)))
      go_wp2_with fail
      go_ret3
      exact uh HPN (uh HE)
theorem em_l : em.toList = []:=ByteArray.toList_eq _
theorem lbW_l2 : lbW.toList = [123]:=ByteArray.toList_eq _
theorem rcontrol_all {B f : Nat} {blk : List ByteArray → List Ins → Option (List Ins)} (hblk : RblOK B blk f) : CtlOK B (rct blk) f:=by
 intro w v c l cl hstr hB hown hlf hbd hhd
 match l,hstr,hlf,hbd,hhd with
 | [],_,_,_,hhd=>simp [eqW,em_l,ifW_l,whW_l] at hhd
 | x :: r,hstr,hlf,hbd,hhd =>
  obtain ⟨g,off,n,cap,hg,rfl,hn,hncap,hm,c0,hcell⟩:=hstr.open
  obtain ⟨b,hb⟩ : ∃ b,fndL (x :: r) clW = b:=⟨_,rfl⟩
  unfold maxLen at hm
  by_cases hbad : n < 2 ∨ (2 ≤ n ∧ eqW ((x :: r)[1]?.getD em) opP = false) ∨ (2 ≤ n ∧ eqW ((x :: r)[1]?.getD em) opP = true ∧ n ≤ b + 1) ∨ (2 ≤ n ∧ eqW ((x :: r)[1]?.getD em) opP = true ∧ b + 1 < n ∧ eqW ((x :: r)[b + 1]?.getD em) lbW = false)
  ·exact rcontrol_bad hstr hn hown (by omega) hb hcell hbad
  ·have h2 : 2 ≤ n:=by omega
   have h3 : eqW ((x :: r)[1]?.getD em) opP = true:=by
    cases h : eqW ((x :: r)[1]?.getD em) opP with
    | true=>rfl
    | false=>exact absurd (Or.inr (Or.inl ⟨h2,h⟩)) hbad
   have h4 : b + 1 < n:=by
    rcases Nat.lt_or_ge (b + 1) n with h | h
    ·exact h
    ·exact absurd (Or.inr (Or.inr (Or.inl ⟨h2,h3,h⟩))) hbad
   have h5 : eqW ((x :: r)[b + 1]?.getD em) lbW = true:=by
    cases h : eqW ((x :: r)[b + 1]?.getD em) lbW with
    | true=>rfl
    | false=>exact absurd (Or.inr (Or.inr (Or.inr ⟨h2,h3,h4,h⟩))) hbad
   have k1 : 1 < (x :: r).length:=by omega
   have kb : b + 1 < (x :: r).length:=by omega
   have e1 : (x :: r)[1]?.getD em = (x :: r)[1]:=by rw [List.getElem?_eq_getElem k1]; rfl
   have eb : (x :: r)[b + 1]?.getD em = (x :: r)[b + 1]:=by rw [List.getElem?_eq_getElem kb]; rfl
   have hy : ((x :: r)[1].toList == [40]) = true:=by rw [e1] at h3; unfold eqW at h3; rw [opP_l] at h3; exact h3
   have hz : ((x :: r)[b + 1].toList == [123]) = true:=by rw [eb] at h5; unfold eqW at h5; rw [lbW_l2] at h5; exact h5
   have hx0 : eqW x clW = false:=by
    simp only [List.getElem?_cons_zero,Option.getD_some,Bool.or_eq_true] at hhd
    rcases hhd with h | h
    ·exact clW_ne (a:=[105,102]) (by simpa [eqW,ifW_l] using h) rfl
    ·exact clW_ne (a:=[119,104,105,108,101]) (by simpa [eqW,whW_l] using h) rfl
   have hb2 : 2 ≤ b:=by
    rw [← hb]
    cases r with
    | nil=>simp at k1
    | cons y r'=>exact fndL_two hx0 (clW_ne (a:=[40]) (by simpa using hy) rfl)
   exact rcontrol_good hblk hstr hn hB hown (by omega) (by omega) hncap hm hg hb hcell hb2 h4 c0 (hcell 1 k1) (hcell (b + 1) kb) (hd:=x.toList == [119,104,105,108,101]) rfl hy hz (by simp only [List.getElem?_cons_zero,Option.getD_some]; unfold eqW; rw [whW_l]) h5 (by rw [h3,hb,h5,← hn]; simp; omega)
theorem rbl_ok {B : Nat} : ∀ f,RblOK B (rbl f) f:=by
 intro f
 induction f with
 | zero=>intro w v c l cl _ _ _ h; omega
 | succ f ih =>
  intro w v c l cl hstr hB hown hlf hbd
  exact rblock_walk (rcontrol_all ih) w v c l cl hstr hB hown (by omega) hbd
theorem oneCell_str (x : ByteArray) : ∀ u ∈ [Value.string x],u.oneCell' = true:=by intro u hu; simp at hu; subst hu; rfl
theorem ext_zero (u : ByteArray) (h : 0 < u.size) : u.extract 0 1 = ⟨#[u[0]]⟩:=ext_one u 0 h
set_option maxRecDepth 100000 in
set_option maxHeartbeats 4000000 in
theorem rsplit_any (s : ByteArray) (w : World) (hs : s.size ≤ 20000) :
  Calls Tryz.prog 47 #[.string s] w fun e w'=>Below w.heap.size w w' ∧
   ((spl s.data.toList = none ∧ e = .returned (.tuple #[.slice none 0 0,.bool false])) ∨
    ∃ (ws : List ByteArray) (v : Value),spl s.data.toList = some (ws.map (·.data.toList)) ∧ w'.ownsRow w.heap.size 9 1 v ws.length (ws.map Value.string) ∧ e = .returned (.tuple #[v,.bool true])):=by
 obtain ⟨i0,hi,hz0,hz1,hz2⟩:=info_parts Tryz.infoStr
 go_enter Tryz.func47,Tryz.ntmps47
 go_wp2_with fail
 go_loopg [0,4] s.size (fun m sv v wr=>∃ (u : ByteArray) (ws : List ByteArray),m = u.size ∧ sv = .string u ∧ u.size ≤ s.size ∧ ws.length + u.size ≤ s.size ∧ wr.ownsRow w.heap.size 9 1 v ws.length (ws.map Value.string) ∧ Below w.heap.size w wr ∧ Hid (Got2 s.data.toList u ws))
 case atStart=>exact ⟨s,[],rfl,rfl,Nat.le_refl _,by simp,World.ownsRow_nil _ _ _ _,Below.refl _ _,hide (by simp [Got2])⟩
 case round =>
  obtain ⟨u,ws,rfl,rfl,hus,hwu,hown,hbl,hgot⟩:=hrel
  have hsz:=hbl.size
  by_cases hu : 0 < u.size
  ·go_wp2_with fail
   obtain ⟨wo,hwo⟩ : ∃ wo : World,wo = wr:=⟨_,rfl⟩
   clear hwo
   go_loop [5] (fun n=>∃ k : Nat,k ≤ u.size ∧ n = .int .i64 k ∧ Hid (∀ j,(hj : j < u.data.toList.length) → j < k → letB u.data.toList[j] = true)) (fun n=>u.size - (intOf n).toNat)
   case atStart=>exact ⟨0,Nat.zero_le _,rfl,fun _ _ h=>absurd h (by omega)⟩
   case round =>
    obtain ⟨k,hk,rfl,hall⟩:=hrel
    by_cases hgo : ∃ hlt : k < u.size,letB u[k] = true
    ·obtain ⟨hlt,hl⟩:=hgo
     have HL:=hide hl
     clear hl
     go_wp2_with (go_at_call 71; rw [ext_one u k hlt]; refine (hasL_any u[k] _).mono ?_; rw [uh HL]; rintro e w' ⟨rfl,rfl⟩)
     go_round
     case rel=>exact ⟨k + 1,by omega,by go_num,letters_step hall.out (fun _=>uh HL)⟩
     case measure=>simp [intOf]; omega
    ·have HK : Hid (lettersN u.data.toList = k):=hide (lettersN_stop _ k hall.out (by rw [size_toList]; exact hk) (fun hj=>by
      cases hl : letB (u.data.toList[k]'hj) with
      | false=>rfl
      | true=>exact absurd ⟨by rw [← size_toList]; exact hj,hl⟩ hgo))
     clear hall
     have HGO:=hide hgo
     clear hgo
     by_cases hkp : 0 < k
     ·have HNB:=hide (not_blank_let (lettersN_pos hu (by rw [uh HK]; exact hkp)))
      have HWL : Hid (wordLen u.data.toList = k):=hide (by rw [wordLen.eq_def,uh HK,if_pos hkp])
      by_cases hlt : k < u.size
      ·have HLF : Hid (letB u[k] = false):=hide (by
        cases hl : letB u[k] with
        | false=>rfl
        | true=>exact absurd ⟨hlt,hl⟩ (uh HGO))
       have hle:=wordLen_le u.data.toList
       rw [uh HWL,size_toList] at hle
       go_wp2_with (first | (go_at_call 71; rw [ext_one u k hlt]; refine (hasL_any u[k] _).mono ?_; rw [uh HLF]; rintro e w' ⟨rfl,rfl⟩) | (at_builtin; refine wpList_append_own _ rfl _ _ 50 rfl w.heap.size 9 i0 (.string ⟨#[]⟩) 1 16 Tryz.underlying50 hi hz0 hz1 hz2 rfl (by decide) _ _ _ rfl (hown.alloc _) ⟨_,0,none⟩ 1 1 [.string (u.extract 0 k)] rfl rfl (one_new _ _ _) (oneCell_str _) (by unfold maxLen; omega) (by omega) (by simp; omega) ?_))
       intro v' w1 hown' hgrow _
       have R:=app_one hown hbl hown' hgrow
       clear hown' hgrow hown hbl
       go_wp2_with fail
       go_roundg (u.extract k u.size).size
       case measure=>simp; omega
       case rel=>exact ⟨u.extract k u.size,ws ++ [u.extract 0 k],rfl,rfl,by simp; omega,by simp; omega,by simpa using R.1,R.2,hgot.out.word hu (uh HNB) (uh HWL) (by omega)⟩
      ·have hd : decide ((k : Int) < (u.size : Int)) = false:=by simp; omega
       have hle:=wordLen_le u.data.toList
       rw [uh HWL,size_toList] at hle
       go_wp2_with (first | (at_builtin; refine wpList_append_own _ rfl _ _ 50 rfl w.heap.size 9 i0 (.string ⟨#[]⟩) 1 16 Tryz.underlying50 hi hz0 hz1 hz2 rfl (by decide) _ _ _ rfl (hown.alloc _) ⟨_,0,none⟩ 1 1 [.string (u.extract 0 k)] rfl rfl (one_new _ _ _) (oneCell_str _) (by unfold maxLen; omega) (by omega) (by simp; omega) ?_))
       intro v' w1 hown' hgrow _
       have R:=app_one hown hbl hown' hgrow
       clear hown' hgrow hown hbl
       go_wp2_with fail
       go_roundg (u.extract k u.size).size
       case measure=>simp; omega
       case rel=>exact ⟨u.extract k u.size,ws ++ [u.extract 0 k],rfl,rfl,by simp; omega,by simp; omega,by simpa using R.1,R.2,hgot.out.word hu (uh HNB) (uh HWL) (by omega)⟩
     ·have HL0 : Hid (¬ 0 < lettersN u.data.toList):=hide (by rw [uh HK]; exact hkp)
      have hlt : k < u.size:=by omega
      have HLF : Hid (letB u[k] = false):=hide (by
       cases hl : letB u[k] with
       | false=>rfl
       | true=>exact absurd ⟨hlt,hl⟩ (uh HGO))
      by_cases hb1 : ((u[0].toNat : Int) == 32) = true
      ·go_wp2_with (go_at_call 71; rw [ext_one u k hlt]; refine (hasL_any u[k] _).mono ?_; rw [uh HLF]; rintro e w' ⟨rfl,rfl⟩)
       go_roundg (u.extract 1 u.size).size
       case measure=>simp; omega
       case rel=>exact ⟨u.extract 1 u.size,ws,rfl,rfl,by simp; omega,by simp; omega,hown,hbl,hgot.out.blank hu (Or.inl ((u8_eq _ 32 (by omega)).1 hb1))⟩
      ·have hb1f : ((u[0].toNat : Int) == 32) = false:=by simpa using hb1
       by_cases hb2 : ((u[0].toNat : Int) == 10) = true
       ·clear hb1
        go_wp2_with (go_at_call 71; rw [ext_one u k hlt]; refine (hasL_any u[k] _).mono ?_; rw [uh HLF]; rintro e w' ⟨rfl,rfl⟩)
        go_roundg (u.extract 1 u.size).size
        case measure=>simp; omega
        case rel=>exact ⟨u.extract 1 u.size,ws,rfl,rfl,by simp; omega,by simp; omega,hown,hbl,hgot.out.blank hu (Or.inr ((u8_eq _ 10 (by omega)).1 hb2))⟩
       ·have hb2f : ((u[0].toNat : Int) == 10) = false:=by simpa using hb2
        have HNB : Hid (¬ (u[0] = 32 ∨ u[0] = 10)):=hide (by
         rintro (e | e)
         ·exact hb1 ((u8_eq _ 32 (by omega)).2 e)
         ·exact hb2 ((u8_eq _ 10 (by omega)).2 e))
        clear hb1 hb2
        by_cases h2 : u.data.toList.take 2 = [45,62] ∨ u.data.toList.take 2 = [33,61]
        ·have hu2 : 1 < u.size:=by
          have hl:=List.length_take_le' 2 u.data.toList
          rw [size_toList] at hl
          rcases h2 with e | e <;> rw [e] at hl <;> simp at hl <;> omega
         have HWL : Hid (wordLen u.data.toList = 2):=hide (wl_two (uh HL0) h2)
         rw [← take_of_extract] at h2
         by_cases h3 : (u.extract 0 2).toList = [45,62]
         ·clear h2
          have hle:=wordLen_le u.data.toList
          rw [uh HWL,size_toList] at hle
          go_wp2_with (first | (go_at_call 71; rw [ext_one u k hlt]; refine (hasL_any u[k] _).mono ?_; rw [uh HLF]; rintro e w' ⟨rfl,rfl⟩) | (at_builtin; refine wpList_append_own _ rfl _ _ 50 rfl w.heap.size 9 i0 (.string ⟨#[]⟩) 1 16 Tryz.underlying50 hi hz0 hz1 hz2 rfl (by decide) _ _ _ rfl (hown.alloc _) ⟨_,0,none⟩ 1 1 [.string (u.extract 0 2)] rfl rfl (one_new _ _ _) (oneCell_str _) (by unfold maxLen; omega) (by omega) (by simp; omega) ?_))
          intro v' w1 hown' hgrow _
          have R:=app_one hown hbl hown' hgrow
          clear hown' hgrow hown hbl
          go_wp2_with fail
          go_roundg (u.extract 2 u.size).size
          case measure=>simp; omega
          case rel=>exact ⟨u.extract 2 u.size,ws ++ [u.extract 0 2],rfl,rfl,by simp; omega,by simp; omega,by simpa using R.1,R.2,hgot.out.word hu (uh HNB) (uh HWL) (by omega)⟩
         ·have h4:=h2.resolve_left h3
          clear h2
          have hle:=wordLen_le u.data.toList
          rw [uh HWL,size_toList] at hle
          go_wp2_with (first | (go_at_call 71; rw [ext_one u k hlt]; refine (hasL_any u[k] _).mono ?_; rw [uh HLF]; rintro e w' ⟨rfl,rfl⟩) | (at_builtin; refine wpList_append_own _ rfl _ _ 50 rfl w.heap.size 9 i0 (.string ⟨#[]⟩) 1 16 Tryz.underlying50 hi hz0 hz1 hz2 rfl (by decide) _ _ _ rfl (hown.alloc _) ⟨_,0,none⟩ 1 1 [.string (u.extract 0 2)] rfl rfl (one_new _ _ _) (oneCell_str _) (by unfold maxLen; omega) (by omega) (by simp; omega) ?_))
          intro v' w1 hown' hgrow _
          have R:=app_one hown hbl hown' hgrow
          clear hown' hgrow hown hbl
          go_wp2_with fail
          go_roundg (u.extract 2 u.size).size
          case measure=>simp; omega
          case rel=>exact ⟨u.extract 2 u.size,ws ++ [u.extract 0 2],rfl,rfl,by simp; omega,by simp; omega,by simpa using R.1,R.2,hgot.out.word hu (uh HNB) (uh HWL) (by omega)⟩
        ·have h3 : ((u.extract 0 2).toList == [45,62]) = false:=by simpa [take_of_extract] using fun e=>h2 (Or.inl e)
         have h4 : ((u.extract 0 2).toList == [33,61]) = false:=by simpa [take_of_extract] using fun e=>h2 (Or.inr e)
         have HWS:=hide (wl_sign (uh HL0) h2 hu)
         clear h2
         cases hsg : signB (u[0].toNat : Int) with
         | true =>
          have HWL : Hid (wordLen u.data.toList = 1):=hide (by rw [uh HWS,hsg]; rfl)
          have HSG:=hide hsg
          clear hsg
          by_cases hu2 : 1 < u.size
          ·skip
           have hle:=wordLen_le u.data.toList
           rw [uh HWL,size_toList] at hle
           go_wp2_with (first | (go_at_call 71; rw [ext_one u k hlt]; refine (hasL_any u[k] _).mono ?_; rw [uh HLF]; rintro e w' ⟨rfl,rfl⟩) | (go_at_call 71; rw [ext_zero u hu]; refine (hasS_any u[0] _).mono ?_; rw [uh HSG]; rintro e w' ⟨rfl,rfl⟩) | (at_builtin; refine wpList_append_own _ rfl _ _ 50 rfl w.heap.size 9 i0 (.string ⟨#[]⟩) 1 16 Tryz.underlying50 hi hz0 hz1 hz2 rfl (by decide) _ _ _ rfl (hown.alloc _) ⟨_,0,none⟩ 1 1 [.string (u.extract 0 1)] rfl rfl (one_new _ _ _) (oneCell_str _) (by unfold maxLen; omega) (by omega) (by simp; omega) ?_))
           intro v' w1 hown' hgrow _
           have R:=app_one hown hbl hown' hgrow
           clear hown' hgrow hown hbl
           go_wp2_with fail
           go_roundg (u.extract 1 u.size).size
           case measure=>simp; omega
           case rel=>exact ⟨u.extract 1 u.size,ws ++ [u.extract 0 1],rfl,rfl,by simp; omega,by simp; omega,by simpa using R.1,R.2,hgot.out.word hu (uh HNB) (uh HWL) (by omega)⟩
          ·have hu3 : decide ((1 : Int) < (u.size : Int)) = false:=by simp; omega
           have hle:=wordLen_le u.data.toList
           rw [uh HWL,size_toList] at hle
           go_wp2_with (first | (go_at_call 71; rw [ext_one u k hlt]; refine (hasL_any u[k] _).mono ?_; rw [uh HLF]; rintro e w' ⟨rfl,rfl⟩) | (go_at_call 71; rw [ext_zero u hu]; refine (hasS_any u[0] _).mono ?_; rw [uh HSG]; rintro e w' ⟨rfl,rfl⟩) | (at_builtin; refine wpList_append_own _ rfl _ _ 50 rfl w.heap.size 9 i0 (.string ⟨#[]⟩) 1 16 Tryz.underlying50 hi hz0 hz1 hz2 rfl (by decide) _ _ _ rfl (hown.alloc _) ⟨_,0,none⟩ 1 1 [.string (u.extract 0 1)] rfl rfl (one_new _ _ _) (oneCell_str _) (by unfold maxLen; omega) (by omega) (by simp; omega) ?_))
           intro v' w1 hown' hgrow _
           have R:=app_one hown hbl hown' hgrow
           clear hown' hgrow hown hbl
           go_wp2_with fail
           go_roundg (u.extract 1 u.size).size
           case measure=>simp; omega
           case rel=>exact ⟨u.extract 1 u.size,ws ++ [u.extract 0 1],rfl,rfl,by simp; omega,by simp; omega,by simpa using R.1,R.2,hgot.out.word hu (uh HNB) (uh HWL) (by omega)⟩
         | false =>
          have HWL : Hid (wordLen u.data.toList = 0):=hide (by rw [uh HWS,hsg]; rfl)
          have HSG:=hide hsg
          clear hsg
          go_wp2_with (first | (go_at_call 71; rw [ext_one u k hlt]; refine (hasL_any u[k] _).mono ?_; rw [uh HLF]; rintro e w' ⟨rfl,rfl⟩) | (go_at_call 71; rw [ext_zero u hu]; refine (hasS_any u[0] _).mono ?_; rw [uh HSG]; rintro e w' ⟨rfl,rfl⟩))
          all_goals
           go_ret2
           exact ⟨hbl,Or.inl ⟨hgot.out.none hu (uh HNB) (uh HWL),rfl⟩⟩
  ·have hd : decide ((0 : Int) < (u.size : Int)) = false:=decide_eq_false (by omega)
   go_wp2_with fail
   go_ret2
   exact ⟨hbl,Or.inr ⟨ws,_,hgot.out.stop (by omega),hown,rfl⟩⟩
theorem rsplitF_len (f : Nat) : ∀ (l : List UInt8) (L : List (List UInt8)),splitF f l = some L → (L.map List.length).sum ≤ l.length ∧ L.length ≤ l.length:=by
 induction f with
 | zero =>
  intro l L h
  match l,h with
  | [],h=>simp [splitF] at h; subst h; simp
  | _ :: _,h=>simp [splitF] at h
 | succ f ih =>
  intro l L h
  match l,h with
  | [],h=>simp [splitF] at h; subst h; simp
  | c :: r,h =>
   simp only [splitF] at h
   split at h
   ·have:=ih r L h; simp; omega
   ·split at h
    ·cases h
    ·rename_i hn
     obtain ⟨L',hL',rfl⟩:=Option.map_eq_some_iff.1 h
     have:=ih _ L' hL'
     have hw:=wordLen_le (c :: r)
     generalize hwl : wordLen (c :: r) = n at *
     simp only [List.length_drop,List.length_cons,List.map_cons,List.sum_cons,List.length_take] at *
     omega
def preW : ByteArray:=⟨#[112,114,101]⟩
theorem preW_l : preW.toList = [112,114,101]:=ByteArray.toList_eq _
def exI : Ins:=⟨⟨#[101,120,105,116]⟩,em,em,em,0,false⟩
def rrS (ws : List ByteArray) : Option (List RAt × List Ins) :=
 if ws.length = 0 ∨ eqW (ws[0]?.getD em) preW = false ∨ fndL ws lbW = ws.length then none
 else
  match rfo [] ((ws.drop 1).take (fndL ws lbW - 1)) with
  | none=>none
  | some al =>
   if shI ws (fndL ws lbW) = ((ws.length : Nat) : Int) - 1 then
    match rbl (ws.length + 1) ((ws.drop (fndL ws lbW + 1)).take (ws.length - 1 - (fndL ws lbW + 1))) [] with
    | none=>none
    | some cl=>some (al,cl)
   else none
def rrW (l : List UInt8) : List ByteArray:=((spl l).getD []).map (fun x=>⟨x.toArray⟩)
theorem rrW_of {l : List UInt8} {ws : List ByteArray} (h : spl l = some (ws.map (·.data.toList))) : rrW l = ws:=by
 unfold rrW; rw [h]
 simp only [Option.getD_some,List.map_map]
 conv=>rhs; rw [← List.map_id ws]
 apply List.map_congr_left
 intro x _
 simp
def rrE (l : List UInt8) : Nat :=
 if 240 < l.length then 1 else if spl l = none then 2 else if rrS (rrW l) = none then 3 else if 4 < (nmV (rrW l) (rrW l).length).length ∨ 8 < (nmH (rrW l) (rrW l).length).length then 4 else 0
theorem rrE_long {l : List UInt8} (h : 240 < l.length) : rrE l = 1:=by unfold rrE; rw [if_pos h]
theorem rrE_lex {l : List UInt8} (h : ¬ 240 < l.length) (h2 : spl l = none) : rrE l = 2:=by unfold rrE; rw [if_neg h,if_pos h2]
theorem rrE_syn {l : List UInt8} (h : ¬ 240 < l.length) (h2 : spl l ≠ none) (h3 : rrS (rrW l) = none) : rrE l = 3:=by unfold rrE; rw [if_neg h,if_neg h2,if_pos h3]
theorem rrE_names {l : List UInt8} (h : ¬ 240 < l.length) (h2 : spl l ≠ none) (h3 : rrS (rrW l) ≠ none) (h4 : 4 < (nmV (rrW l) (rrW l).length).length ∨ 8 < (nmH (rrW l) (rrW l).length).length) : rrE l = 4:=by
 unfold rrE; rw [if_neg h,if_neg h2,if_neg h3,if_pos h4]
theorem rrE_ok {l : List UInt8} (h : ¬ 240 < l.length) (h2 : spl l ≠ none) (h3 : rrS (rrW l) ≠ none) (h4 : ¬ (4 < (nmV (rrW l) (rrW l).length).length ∨ 8 < (nmH (rrW l) (rrW l).length).length)) : rrE l = 0:=by
 unfold rrE; rw [if_neg h,if_neg h2,if_neg h3,if_neg h4]
theorem rrS_none1 {ws : List ByteArray} (h : ws.length = 0 ∨ eqW (ws[0]?.getD em) preW = false ∨ fndL ws lbW = ws.length) : rrS ws = none:=by unfold rrS; rw [if_pos h]
theorem rrS_none2 {ws : List ByteArray} (h : rfo [] ((ws.drop 1).take (fndL ws lbW - 1)) = none ∨ shI ws (fndL ws lbW) ≠ ((ws.length : Nat) : Int) - 1) : rrS ws = none:=by
 unfold rrS; split
 ·rfl
 ·rcases h with h | h
  ·rw [h]
  ·split
   ·rfl
   ·rw [if_neg h]
theorem rrS_get {ws : List ByteArray} {al : List RAt} (h1 : ¬ (ws.length = 0 ∨ eqW (ws[0]?.getD em) preW = false ∨ fndL ws lbW = ws.length)) (h2 : rfo [] ((ws.drop 1).take (fndL ws lbW - 1)) = some al) (h3 : shI ws (fndL ws lbW) = ((ws.length : Nat) : Int) - 1) :
  rrS ws = (rbl (ws.length + 1) ((ws.drop (fndL ws lbW + 1)).take (ws.length - 1 - (fndL ws lbW + 1))) []).map (fun cl=>(al,cl)):=by
 unfold rrS; rw [if_neg h1,h2]; dsimp only; rw [if_pos h3]
 cases rbl (ws.length + 1) ((ws.drop (fndL ws lbW + 1)).take (ws.length - 1 - (fndL ws lbW + 1))) [] <;> rfl
def IsR (B : Nat) (w : World) (X : Nat) (ws : List ByteArray) (al : List RAt) (cl : List Ins) : Prop :=
 ∃ vv hv pv cv : Value,w.heap[X]? = some (.cells #[vv,hv,pv,cv,.string ⟨(jn ws).toArray⟩] 54 (0,0)) ∧ B ≤ X ∧
  w.ownsRow B 9 1 vv (nmV ws ws.length).length ((nmV ws ws.length).map Value.string) ∧ w.ownsRow B 9 1 hv (nmH ws ws.length).length ((nmH ws ws.length).map Value.string) ∧
  w.ownsRow B 139 3 pv al.length (raCells al) ∧ w.ownsRow B 100 6 cv (cl.length + 1) (insCells (cl ++ [exI]))
theorem find_lb {w : World} {v : Value} {l : List ByteArray} (h : Strs w v l) (hl : l.length ≤ 20000) (b : Nat) (hb : fndL l lbW = b) : Calls Tryz.prog 48 #[v,.int .i64 0,.string ⟨#[123]⟩] w fun e w'=>e = .returned (.int .i64 b) ∧ w' = w:=by
 rw [← hb]; exact find_any lbW h hl
def RrPost (s : ByteArray) (w : World) (e : Ending) (w' : World) : Prop :=
 Below w.heap.size w w' ∧ ((rrE s.data.toList ≠ 0 ∧ e = .returned (.tuple #[.pointer none,.int .i64 (rrE s.data.toList)])) ∨
  (rrE s.data.toList = 0 ∧ ∃ X al cl,rrS (rrW s.data.toList) = some (al,cl) ∧ e = .returned (.tuple #[.pointer (some ⟨X,0,none⟩),.int .i64 0]) ∧ IsR w.heap.size w' X (rrW s.data.toList) al cl))
theorem RrPost.bad {s : ByteArray} {w w' : World} {n : Nat} (hb : Below w.heap.size w w') (h : rrE s.data.toList = n) (hn : n ≠ 0) : RrPost s w (.returned (.tuple #[.pointer none,.int .i64 n])) w' :=
 ⟨hb,Or.inl ⟨by rw [h]; exact hn,by rw [h]⟩⟩
set_option maxRecDepth 100000 in
set_option maxHeartbeats 1000000 in
theorem rread_long (s : ByteArray) (w : World) (hlong : 240 < s.size) : Calls Tryz.prog 26 #[.string s] w fun e w'=>RrPost s w e w':=by
 have HE : Hid (rrE s.data.toList = 1):=hide (rrE_long (by rw [size_toList]; exact hlong))
 go_enter Tryz.func26,Tryz.ntmps26
 go_wp2_with fail
 go_ret2
 exact RrPost.bad (Below.refl _ _) (uh HE) (by decide)
theorem rlen {l : List UInt8} {ws : List ByteArray} (h : spl l = some (ws.map (·.data.toList))) : ws.length ≤ l.length:=by
 have h1:=(rsplitF_len _ _ _ h).2
 simpa using h1
set_option maxRecDepth 100000 in
set_option maxHeartbeats 1000000 in
theorem rread_bad (s : ByteArray) (w : World) (hlong : ¬ 240 < s.size) (hbad : spl s.data.toList = none ∨ ((rrW s.data.toList).length = 0 ∨ eqW ((rrW s.data.toList)[0]?.getD em) preW = false ∨ fndL (rrW s.data.toList) lbW = (rrW s.data.toList).length)) :
  Calls Tryz.prog 26 #[.string s] w fun e w'=>RrPost s w e w':=by
 have HL : Hid (¬ 240 < s.data.toList.length):=hide (by rw [size_toList]; exact hlong)
 have hd : decide ((240 : Int) < (s.size : Int)) = false:=by simp; omega
 have HBAD:=hide hbad
 clear hbad
 go_enter Tryz.func26,Tryz.ntmps26
 go_wp2_with fail
 refine (rsplit_any s w (by omega)).mono ?_
 rintro e w1 ⟨hbl,(⟨hnone,rfl⟩ | ⟨ws,v,hsome,hown,rfl⟩)⟩
 ·have HE : Hid (rrE s.data.toList = 2):=hide (rrE_lex (uh HL) hnone)
  clear hnone
  go_wp2_with fail
  go_ret2
  exact RrPost.bad hbl (uh HE) (by decide)
 ·have hlen:=rlen hsome
  rw [size_toList] at hlen
  have HW : Hid (rrW s.data.toList = ws):=hide (rrW_of hsome)
  have hbad : ws.length = 0 ∨ eqW (ws[0]?.getD em) preW = false ∨ fndL ws lbW = ws.length:=by
   have:=uh HBAD
   rw [hsome,uh HW] at this
   simpa using this
  have HE : Hid (rrE s.data.toList = 3):=hide (rrE_syn (uh HL) (by rw [hsome]; simp) (by rw [uh HW]; exact rrS_none1 hbad))
  have hst:=StrB.of (Strs.of_own hown)
  have hsz:=hbl.size
  have HP : Hid (∀ o,RrPost s w (.returned (.tuple #[.pointer none,.int .i64 3])) (w1.alloc o)):=hide (fun o=>RrPost.bad (hbl.alloc hsz o) (uh HE) (by decide))
  obtain ⟨b,hb⟩ : ∃ b,fndL ws lbW = b:=⟨_,rfl⟩
  have HF : Hid (∀ o,Calls Tryz.prog 48 #[v,.int .i64 0,.string ⟨#[123]⟩] (w1.alloc o) fun e w'=>e = .returned (.int .i64 b) ∧ w' = w1.alloc o):=hide (fun o=>find_lb (hst.below ((Below.refl _ _).alloc (Nat.le_refl _) o)).str (by omega) b hb)
  have hbl2:=fndL_le ws lbW
  rw [hb] at hbl2 hbad
  have HOWN:=hide hown
  have HST:=hide hst
  clear hown hst hbl hsome HBAD HW HE
  cases ws with
  | nil =>
   obtain ⟨ao,cap,rfl⟩:=slice_of_own (uh HOWN)
   simp only [List.length_nil] at *
   clear hb hbad
   go_wp2_with (go_at_call 48; refine (uh HF _).mono ?_; rintro e w' ⟨rfl,rfl⟩)
   go_ret2
   exact uh HP _
  | cons x r =>
   obtain ⟨g,off,n,cap,hg,rfl,hn,hncap,hm,c0,hcell⟩:=(uh HST).open
   rw [← hn] at hbad hbl2 hlen
   have hn1 : 1 ≤ n:=by rw [hn]; simp
   have c1 : ∀ o,(w1.alloc o).cell? ⟨g,off,none⟩ = some (.string x):=fun o=>by rw [((Below.refl w1.heap.size w1).alloc (Nat.le_refl _) o).cell (p:=⟨g,off,none⟩) hg]; exact c0
   have hbad' : (x.toList == [112,114,101]) = false ∨ ((x.toList == [112,114,101]) = true ∧ b = n):=by
    cases hx : (x.toList == [112,114,101]) with
    | false=>exact Or.inl rfl
    | true =>
     refine Or.inr ⟨rfl,?_⟩
     rcases hbad with h | h | h
     ·omega
     ·simp only [List.getElem?_cons_zero,Option.getD_some] at h
      unfold eqW at h; rw [preW_l,hx] at h; cases h
     ·exact h
   clear hbad hb hcell hn c0
   unfold maxLen at hm
   have c2:=c1 (.cells #[.slice none 0 0,.slice none 0 0,.slice none 0 0,.slice none 0 0,.string ⟨#[]⟩] 54)
   rcases hbad' with hx | ⟨hx,rfl⟩
   ·clear c1
    go_wp2_with (go_at_call 48; refine (uh HF _).mono ?_; rintro e w' ⟨rfl,rfl⟩)
    go_ret2
    exact uh HP _
   ·clear c1
    go_wp2_with (go_at_call 48; refine (uh HF _).mono ?_; rintro e w' ⟨rfl,rfl⟩)
    go_ret2
    exact uh HP _
end Go.Proofs.YtciihepbeacppaaGreat
