import Derived.Test.YtciihepbeacppaaGreatM07
namespace Go.Proofs.YtciihepbeacppaaGreat
open Go.RowKit
def skipW : ByteArray:=⟨#[115,107,105,112]⟩
def freeW : ByteArray:=⟨#[102,114,101,101]⟩
def newW : ByteArray:=⟨#[110,101,119]⟩
def copyW : ByteArray:=⟨#[99,111,112,121]⟩
def loadW : ByteArray:=⟨#[108,111,97,100]⟩
def storeW : ByteArray:=⟨#[115,116,111,114,101]⟩
def dotW : ByteArray:=⟨#[46]⟩
def nW : ByteArray:=⟨#[110]⟩
theorem skipW_l : skipW.toList = [115,107,105,112]:=ByteArray.toList_eq _
theorem freeW_l : freeW.toList = [102,114,101,101]:=ByteArray.toList_eq _
theorem newW_l : newW.toList = [110,101,119]:=ByteArray.toList_eq _
theorem dotW_l : dotW.toList = [46]:=ByteArray.toList_eq _
theorem nW_l : nW.toList = [110]:=ByteArray.toList_eq _
def rsI (l : List ByteArray) : Option Ins:=match l with
 | [a]=>if eqW a skipW then some ⟨skipW,em,em,em,0,false⟩ else none
 | [a,b]=>if eqW a freeW && lowB b then some ⟨freeW,b,em,em,0,false⟩ else none
 | [a,b,c]=>if lowB a && eqW b eqSW then (if eqW c nilW || eqW c newW then some ⟨c,a,em,em,0,false⟩ else if lowB c then some ⟨copyW,a,c,em,0,false⟩ else none) else none
 | [a,b,c,d,e] =>
  if lowB a && eqW b eqSW && lowB c && eqW d dotW && eqW e nW then some ⟨loadW,a,c,em,0,false⟩ else
  if lowB a && eqW b dotW && eqW c nW && eqW d eqSW && (lowB e || eqW e nilW) then some ⟨storeW,a,e,em,0,false⟩ else none
 | _=>none
theorem Tryz.infoBool : (Tryz.prog.info? 4).map (fun i=>(i.zero,i.size,i.bytes)) = some (some (.bool false),1,1):=by kernel_rfl
def bls (l : List ByteArray) (k : Nat) : List Value:=(List.range l.length).map (fun j=>.bool (if j < k then lowB (l[j]?.getD em) else false))
theorem bls_len (l : List ByteArray) (k : Nat) : (bls l k).length = l.length:=by simp [bls]
theorem bls_get (l : List ByteArray) (k j : Nat) (hj : j < l.length) : (bls l k)[j]? = some (.bool (if j < k then lowB (l[j]?.getD em) else false)):=by simp [bls,hj]
theorem bls_step (l : List ByteArray) (k : Nat) (hk : k < l.length) : (bls l k).set k (.bool (lowB l[k])) = bls l (k + 1):=by
 apply List.ext_getElem?
 intro j
 by_cases hj : j < l.length
 ·rw [bls_get _ _ _ hj]
  by_cases hjk : j = k
  ·subst hjk
   rw [List.getElem?_set_self (by rw [bls_len]; exact hj)]
   simp [hj]
  ·rw [List.getElem?_set_ne (by omega),bls_get _ _ _ hj]
   congr 2
   by_cases h : j < k
   ·rw [if_pos h,if_pos (by omega)]
   ·rw [if_neg h,if_neg (by omega)]
 ·rw [List.getElem?_eq_none (by rw [List.length_set,bls_len]; omega),List.getElem?_eq_none (by rw [bls_len]; omega)]
theorem bls_zero (l : List ByteArray) : (madeCells #[Value.bool false] l.length).toList = bls l 0:=by
 rw [toList_madeCells_one]
 simp [bls,List.map_const']
theorem rsI_1 (a : ByteArray) : rsI [a] = if a.toList == [115,107,105,112] then some ⟨skipW,em,em,em,0,false⟩ else none:=by simp only [rsI,eqW,skipW_l]
theorem rsI_2 (a b : ByteArray) : rsI [a,b] = if a.toList == [102,114,101,101] && lowB b then some ⟨freeW,b,em,em,0,false⟩ else none:=by simp only [rsI,eqW,freeW_l]
theorem rsI_3 (a b c : ByteArray) : rsI [a,b,c] = if lowB a && b.toList == [61] then (if c.toList == [110,105,108] || c.toList == [110,101,119] then some ⟨c,a,em,em,0,false⟩ else if lowB c then some ⟨copyW,a,c,em,0,false⟩ else none) else none:=by simp only [rsI,eqW,eqSW_l,nilW_l,newW_l]
theorem rsI_5 (a b c d e : ByteArray) : rsI [a,b,c,d,e] =
  if lowB a && b.toList == [61] && lowB c && d.toList == [46] && e.toList == [110] then some ⟨loadW,a,c,em,0,false⟩ else
  if lowB a && b.toList == [46] && c.toList == [110] && d.toList == [61] && (lowB e || e.toList == [110,105,108]) then some ⟨storeW,a,e,em,0,false⟩ else none:=by simp only [rsI,eqW,eqSW_l,dotW_l,nW_l,nilW_l]
theorem len1 {l : List ByteArray} (h : 1 = l.length) : ∃ a,l = [a]:=by
 match l,h with
 | [a],_=>exact ⟨a,rfl⟩
theorem len2 {l : List ByteArray} (h : 2 = l.length) : ∃ a b,l = [a,b]:=by
 match l,h with
 | [a,b],_=>exact ⟨a,b,rfl⟩
theorem len3 {l : List ByteArray} (h : 3 = l.length) : ∃ a b c,l = [a,b,c]:=by
 match l,h with
 | [a,b,c],_=>exact ⟨a,b,c,rfl⟩
theorem len5 {l : List ByteArray} (h : 5 = l.length) : ∃ a b c d e,l = [a,b,c,d,e]:=by
 match l,h with
 | [a,b,c,d,e],_=>exact ⟨a,b,c,d,e,rfl⟩
theorem below6 {W w : World} (h : Below W.heap.size W w) {a b c d e f : Value} : Below W.heap.size W ((((((w.setCell ⟨W.heap.size,0,none⟩ a).setCell ⟨W.heap.size,1,none⟩ b).setCell ⟨W.heap.size,2,none⟩ c).setCell ⟨W.heap.size,3,none⟩ d).setCell ⟨W.heap.size,4,none⟩ e).setCell ⟨W.heap.size,5,none⟩ f) :=
 (((((h.setCell (Nat.le_refl _) a).setCell (Nat.le_refl _) b).setCell (Nat.le_refl _) c).setCell (Nat.le_refl _) d).setCell (Nat.le_refl _) e).setCell (Nat.le_refl _) f
theorem rset {w : World} {P : Nat} {xs : Array Value} {t : TypeId} {j : Nat} (h : w.heap[P]? = some (.cells xs t (0,0))) (u : Value) :
  (w.setCell ⟨P,j,none⟩ u).heap[P]? = some (.cells (xs.setIfInBounds j u) t (0,0)):=by
 simp [World.setCell,Array.getElem?_modify,h]
theorem rown_set {w : World} {B : Nat} {e : TypeId} {sz n g cap j : Nat} {xs : List Value} (h : w.ownsRow B e sz (.slice (some ⟨g,0,none⟩) n cap) n xs) (u : Value) :
  (w.setCell ⟨g,j,none⟩ u).ownsRow B e sz (.slice (some ⟨g,0,none⟩) n cap) n (xs.set j u):=by
 refine ⟨by simpa using h.1,?_⟩
 rcases h.2 with ⟨h0,_⟩ | ⟨g',cap',cur,hv,hB,hg,hn,hm,hs,ht⟩
 ·cases h0
 ·simp only [Value.slice.injEq,Option.some.injEq,Addr.mk.injEq] at hv
  obtain ⟨⟨rfl,_⟩,_,rfl⟩:=hv
  refine .inr ⟨g,cap,cur.setIfInBounds j u,rfl,hB,rset hg u,hn,hm,by simpa using hs,?_⟩
  rw [Array.toList_setIfInBounds,List.take_set,ht]
theorem rown_cell {w : World} {B : Nat} {e : TypeId} {n g cap j : Nat} {xs : List Value} {u : Value} (h : w.ownsRow B e 1 (.slice (some ⟨g,0,none⟩) n cap) n xs) (hj : xs[j]? = some u) : w.cell? ⟨g,j,none⟩ = some u ∧ w.frozen? ⟨g,j,none⟩ = false:=by
 constructor
 ·have:=h.cells (g:=g) rfl j u hj
  rw [show (⟨g,0,none⟩ : Addr).add j = ⟨g,j,none⟩ by unfold Addr.add; split <;> simp_all] at this
  exact this
 ·rcases h.2 with ⟨h0,_⟩ | ⟨g',cap',cur,hv,hB,hg,hn,hm,hs,ht⟩
  ·cases h0
  ·simp only [Value.slice.injEq,Option.some.injEq,Addr.mk.injEq] at hv
   obtain ⟨⟨rfl,_⟩,_,rfl⟩:=hv
   simp [World.frozen?,hg]
set_option maxRecDepth 100000 in
set_option maxHeartbeats 4000000 in
theorem rsimple_any {w : World} {v : Value} {l : List ByteArray} (h : Strs w v l) (hl : l.length ≤ 20000) :
  Calls Tryz.prog 74 #[v] w fun e w'=>(∃ i : Ins,e = .returned (.tuple #[.agg i.cells.toArray,.bool (rsI l).isSome]) ∧ (∀ j,rsI l = some j → i = j)) ∧ Below w.heap.size w w':=by
 obtain ⟨i0,hi,hz0,hz1,hz2⟩:=info_parts Tryz.infoBool
 obtain ⟨ao,cap,rfl,hn,hm,hc⟩:=h
 have HC:=hide hc
 clear hc
 unfold maxLen at hm
 obtain ⟨n,hnl⟩ : ∃ n,n = l.length:=⟨_,rfl⟩
 have HNL:=hide hnl
 rw [← hnl] at hn hl ⊢
 clear hnl
 go_enter Tryz.func74,Tryz.ntmps74
 go_wp2_with (at_make; refine wpList_make_full _ rfl _ _ 200 rfl w.heap.size 4 i0 (.bool false) 1 Tryz.underlying200 hi hz0 hz1 .i64 .i64 _ _ n rfl rfl rfl rfl ?b2 ?b3 ?b4 ?_)
 case b2=>rw [hz2]; omega
 case b3=>unfold maxLen; omega
 case b4=>simp
 intro w1 hown1 hgrow1
 have hown0 : w1.ownsRow w.heap.size 4 1 (.slice (some ⟨w.heap.size + 1,0,none⟩) n n) n (bls l 0):=by
  rw [← bls_zero,← uh HNL]; simpa using hown1
 have hb1 : Below w.heap.size w w1:=((Below.refl _ _).alloc (Nat.le_refl _) _).grown hgrow1 (by simp) (fun k h=>by cases h)
 have hr1 : w1.heap[w.heap.size]? = some (.cells #[.string ⟨#[]⟩,.string ⟨#[]⟩,.string ⟨#[]⟩,.string ⟨#[]⟩,.int .i64 0,.bool false] 100 (0,0)):=by
  rw [hgrow1.block _ (by simp) (by simp)]; exact heap_alloc_new w _
 have HO1:=hide hown0
 have HB1:=hide hb1
 have HR1:=hide hr1
 clear hown0 hb1 hr1 hown1 hgrow1
 go_wp2_with fail
 go_loopw [6] (fun i wr=>∃ k : Nat,k ≤ n ∧ i = .int .i64 k ∧ Hid (wr.ownsRow w.heap.size 4 1 (.slice (some ⟨w.heap.size + 1,0,none⟩) n n) n (bls l k)) ∧ Hid (Below w.heap.size w wr) ∧
  Hid (wr.heap[w.heap.size]? = some (.cells #[.string ⟨#[]⟩,.string ⟨#[]⟩,.string ⟨#[]⟩,.string ⟨#[]⟩,.int .i64 0,.bool false] 100 (0,0)))) (fun i _=>n - (intOf i).toNat)
 case atStart=>exact ⟨0,Nat.zero_le _,rfl,HO1,HB1,HR1⟩
 case round =>
  obtain ⟨k,hk,rfl,hown,hbl,hr⟩:=hrel
  by_cases hlt : k < n
  ·have hll : k < l.length:=by rw [← uh HNL]; exact hlt
   obtain ⟨g,off,hao,hcell⟩:=uh HC (by intro h; rw [h] at hll; simp at hll)
   have hcx : wr.cell? ⟨g,off + k,none⟩ = some (.string l[k]):=by
    rw [(uh hbl).cell (World.block_lt_of_cell? w _ (hcell k hll))]; exact hcell k hll
   obtain ⟨d1,d2⟩:=rown_cell (uh hown) (bls_get l k k hll)
   clear hcell
   rw [hao]
   go_wp2_with (go_at_call 75; refine (lower_any _ _).mono ?_; rintro e w' ⟨rfl,rfl⟩)
   go_roundw
   case rel =>
    refine ⟨k + 1,by omega,by go_num,hide ?_,hide ((uh hbl).setCell (p:=⟨w.heap.size + 1,k,none⟩) (by show w.heap.size ≤ w.heap.size + 1; omega) _),hide ?_⟩
    ·rw [← bls_step l k hll]; exact rown_set (uh hown) _
    ·rw [Below.heap_setCell _ _ _ _ (by show w.heap.size ≠ w.heap.size + 1; omega)]; exact uh hr
   case measure=>simp [intOf]; omega
  ·have hd : decide ((k : Int) < (n : Int)) = false:=by simp; omega
   obtain rfl : k = n:=by omega
   clear hlt hk
   obtain ⟨z0,z1,z2,z3,z4,z5⟩:=cells6s (uh hr)
   have zf : ∀ j,wr.frozen? ⟨w.heap.size,j,none⟩ = false:=fun j=>by simp [World.frozen?,uh hr]
   have y0:=zf 0
   have y1:=zf 1
   have y2:=zf 2
   have y3:=zf 3
   have y4:=zf 4
   have y5:=zf 5
   clear zf
   by_cases h1 : k = 1
   ·skip
    subst h1
    obtain ⟨a,rfl⟩:=len1 (uh HNL)
    obtain ⟨g,off,hao,hcell⟩:=uh HC (by simp)
    rw [hao]
    have x0 : wr.cell? ⟨g,off,none⟩ = some (.string a):=((uh hbl).cell (p:=⟨g,off + 0,none⟩) (World.block_lt_of_cell? w _ (hcell 0 (by simp)))).trans (hcell 0 (by simp))
    have v0 : wr.cell? ⟨w.heap.size + 1,0,none⟩ = some (.bool (lowB a)):=(rown_cell (uh hown) (bls_get [a] 1 0 (by simp))).1
    clear hcell
    cases p0 : (a.toList == [115,107,105,112]) with
    | true =>
     have HN : Hid (rsI [a] = some ⟨skipW,em,em,em,0,false⟩):=hide (by rw [rsI_1,p0]; first | done | rfl)
     go_wp2_with fail
     exact bodyPost_ret (v:=.tuple #[.agg #[.string ⟨#[115,107,105,112]⟩,.string ⟨#[]⟩,.string ⟨#[]⟩,.string ⟨#[]⟩,.int .i64 0,.bool false],.bool true]) (by simp [results,Tryz.results74,go_sem,z0,z1,z2,z3,z4,z5]) rfl ⟨⟨⟨skipW,em,em,em,0,false⟩,by rw [uh HN]; rfl,fun j hj=>by rw [uh HN] at hj; cases hj; rfl⟩,below6 (uh hbl)⟩
    | false =>
     have HN : Hid (rsI [a] = none):=hide (by rw [rsI_1,p0]; first | done | rfl)
     go_wp2_with fail
     exact bodyPost_ret (v:=.tuple #[.agg #[.string ⟨#[]⟩,.string ⟨#[]⟩,.string ⟨#[]⟩,.string ⟨#[]⟩,.int .i64 0,.bool false],.bool false]) (by simp [results,Tryz.results74,go_sem,z0,z1,z2,z3,z4,z5]) rfl ⟨⟨⟨em,em,em,em,0,false⟩,by rw [uh HN]; rfl,fun j hj=>by rw [uh HN] at hj; cases hj⟩,below6 (uh hbl)⟩
   by_cases h2 : k = 2
   ·skip
    subst h2
    obtain ⟨a,b,rfl⟩:=len2 (uh HNL)
    obtain ⟨g,off,hao,hcell⟩:=uh HC (by simp)
    rw [hao]
    have x0 : wr.cell? ⟨g,off,none⟩ = some (.string a):=((uh hbl).cell (p:=⟨g,off + 0,none⟩) (World.block_lt_of_cell? w _ (hcell 0 (by simp)))).trans (hcell 0 (by simp))
    have v0 : wr.cell? ⟨w.heap.size + 1,0,none⟩ = some (.bool (lowB a)):=(rown_cell (uh hown) (bls_get [a,b] 2 0 (by simp))).1
    have x1 : wr.cell? ⟨g,off + 1,none⟩ = some (.string b):=((uh hbl).cell (p:=⟨g,off + 1,none⟩) (World.block_lt_of_cell? w _ (hcell 1 (by simp)))).trans (hcell 1 (by simp))
    have v1 : wr.cell? ⟨w.heap.size + 1,1,none⟩ = some (.bool (lowB b)):=(rown_cell (uh hown) (bls_get [a,b] 2 1 (by simp))).1
    clear hcell
    cases p0 : (a.toList == [102,114,101,101]) with
    | true =>
     cases p1 : lowB b with
     | true =>
      have HN : Hid (rsI [a,b] = some ⟨freeW,b,em,em,0,false⟩):=hide (by rw [rsI_2,p0,p1]; first | done | rfl)
      go_wp2_with fail
      exact bodyPost_ret (v:=.tuple #[.agg #[.string ⟨#[102,114,101,101]⟩,.string b,.string ⟨#[]⟩,.string ⟨#[]⟩,.int .i64 0,.bool false],.bool true]) (by simp [results,Tryz.results74,go_sem,z0,z1,z2,z3,z4,z5]) rfl ⟨⟨⟨freeW,b,em,em,0,false⟩,by rw [uh HN]; rfl,fun j hj=>by rw [uh HN] at hj; cases hj; rfl⟩,below6 (uh hbl)⟩
     | false =>
      have HN : Hid (rsI [a,b] = none):=hide (by rw [rsI_2,p0,p1]; first | done | rfl)
      go_wp2_with fail
      exact bodyPost_ret (v:=.tuple #[.agg #[.string ⟨#[]⟩,.string ⟨#[]⟩,.string ⟨#[]⟩,.string ⟨#[]⟩,.int .i64 0,.bool false],.bool false]) (by simp [results,Tryz.results74,go_sem,z0,z1,z2,z3,z4,z5]) rfl ⟨⟨⟨em,em,em,em,0,false⟩,by rw [uh HN]; rfl,fun j hj=>by rw [uh HN] at hj; cases hj⟩,below6 (uh hbl)⟩
    | false =>
     have HN : Hid (rsI [a,b] = none):=hide (by rw [rsI_2,p0]; first | done | rfl)
     go_wp2_with fail
     exact bodyPost_ret (v:=.tuple #[.agg #[.string ⟨#[]⟩,.string ⟨#[]⟩,.string ⟨#[]⟩,.string ⟨#[]⟩,.int .i64 0,.bool false],.bool false]) (by simp [results,Tryz.results74,go_sem,z0,z1,z2,z3,z4,z5]) rfl ⟨⟨⟨em,em,em,em,0,false⟩,by rw [uh HN]; rfl,fun j hj=>by rw [uh HN] at hj; cases hj⟩,below6 (uh hbl)⟩
   by_cases h3 : k = 3
   ·skip
    subst h3
    obtain ⟨a,b,c,rfl⟩:=len3 (uh HNL)
    obtain ⟨g,off,hao,hcell⟩:=uh HC (by simp)
    rw [hao]
    have x0 : wr.cell? ⟨g,off,none⟩ = some (.string a):=((uh hbl).cell (p:=⟨g,off + 0,none⟩) (World.block_lt_of_cell? w _ (hcell 0 (by simp)))).trans (hcell 0 (by simp))
    have v0 : wr.cell? ⟨w.heap.size + 1,0,none⟩ = some (.bool (lowB a)):=(rown_cell (uh hown) (bls_get [a,b,c] 3 0 (by simp))).1
    have x1 : wr.cell? ⟨g,off + 1,none⟩ = some (.string b):=((uh hbl).cell (p:=⟨g,off + 1,none⟩) (World.block_lt_of_cell? w _ (hcell 1 (by simp)))).trans (hcell 1 (by simp))
    have v1 : wr.cell? ⟨w.heap.size + 1,1,none⟩ = some (.bool (lowB b)):=(rown_cell (uh hown) (bls_get [a,b,c] 3 1 (by simp))).1
    have x2 : wr.cell? ⟨g,off + 2,none⟩ = some (.string c):=((uh hbl).cell (p:=⟨g,off + 2,none⟩) (World.block_lt_of_cell? w _ (hcell 2 (by simp)))).trans (hcell 2 (by simp))
    have v2 : wr.cell? ⟨w.heap.size + 1,2,none⟩ = some (.bool (lowB c)):=(rown_cell (uh hown) (bls_get [a,b,c] 3 2 (by simp))).1
    clear hcell
    cases p0 : lowB a with
    | true =>
     cases p1 : (b.toList == [61]) with
     | true =>
      cases p2 : (c.toList == [110,105,108]) with
      | true =>
       have HN : Hid (rsI [a,b,c] = some ⟨c,a,em,em,0,false⟩):=hide (by rw [rsI_3,p0,p1,p2]; first | done | rfl)
       go_wp2_with fail
       go_region
       go_wp2_with fail
       exact bodyPost_ret (v:=.tuple #[.agg #[.string c,.string a,.string ⟨#[]⟩,.string ⟨#[]⟩,.int .i64 0,.bool false],.bool true]) (by simp [results,Tryz.results74,go_sem,z0,z1,z2,z3,z4,z5]) rfl ⟨⟨⟨c,a,em,em,0,false⟩,by rw [uh HN]; rfl,fun j hj=>by rw [uh HN] at hj; cases hj; rfl⟩,(below6 (uh hbl)).drew⟩
      | false =>
       cases p3 : (c.toList == [110,101,119]) with
       | true =>
        have HN : Hid (rsI [a,b,c] = some ⟨c,a,em,em,0,false⟩):=hide (by rw [rsI_3,p0,p1,p2,p3]; first | done | rfl)
        go_wp2_with fail
        go_region
        go_wp2_with fail
        exact bodyPost_ret (v:=.tuple #[.agg #[.string c,.string a,.string ⟨#[]⟩,.string ⟨#[]⟩,.int .i64 0,.bool false],.bool true]) (by simp [results,Tryz.results74,go_sem,z0,z1,z2,z3,z4,z5]) rfl ⟨⟨⟨c,a,em,em,0,false⟩,by rw [uh HN]; rfl,fun j hj=>by rw [uh HN] at hj; cases hj; rfl⟩,(below6 (uh hbl)).drew⟩
       | false =>
        cases p4 : lowB c with
        | true =>
         have HN : Hid (rsI [a,b,c] = some ⟨copyW,a,c,em,0,false⟩):=hide (by rw [rsI_3,p0,p1,p2,p3,p4]; first | done | rfl)
         go_wp2_with fail
         go_region
         go_wp2_with fail
         exact bodyPost_ret (v:=.tuple #[.agg #[.string ⟨#[99,111,112,121]⟩,.string a,.string c,.string ⟨#[]⟩,.int .i64 0,.bool false],.bool true]) (by simp [results,Tryz.results74,go_sem,z0,z1,z2,z3,z4,z5]) rfl ⟨⟨⟨copyW,a,c,em,0,false⟩,by rw [uh HN]; rfl,fun j hj=>by rw [uh HN] at hj; cases hj; rfl⟩,(below6 (uh hbl)).drew⟩
        | false =>
         have HN : Hid (rsI [a,b,c] = none):=hide (by rw [rsI_3,p0,p1,p2,p3,p4]; first | done | rfl)
         go_wp2_with fail
         exact bodyPost_ret (v:=.tuple #[.agg #[.string ⟨#[]⟩,.string ⟨#[]⟩,.string ⟨#[]⟩,.string ⟨#[]⟩,.int .i64 0,.bool false],.bool false]) (by simp [results,Tryz.results74,go_sem,z0,z1,z2,z3,z4,z5]) rfl ⟨⟨⟨em,em,em,em,0,false⟩,by rw [uh HN]; rfl,fun j hj=>by rw [uh HN] at hj; cases hj⟩,below6 (uh hbl)⟩
     | false =>
      have HN : Hid (rsI [a,b,c] = none):=hide (by rw [rsI_3,p0,p1]; first | done | rfl)
      go_wp2_with fail
      exact bodyPost_ret (v:=.tuple #[.agg #[.string ⟨#[]⟩,.string ⟨#[]⟩,.string ⟨#[]⟩,.string ⟨#[]⟩,.int .i64 0,.bool false],.bool false]) (by simp [results,Tryz.results74,go_sem,z0,z1,z2,z3,z4,z5]) rfl ⟨⟨⟨em,em,em,em,0,false⟩,by rw [uh HN]; rfl,fun j hj=>by rw [uh HN] at hj; cases hj⟩,below6 (uh hbl)⟩
    | false =>
     have HN : Hid (rsI [a,b,c] = none):=hide (by rw [rsI_3,p0]; first | done | rfl)
     go_wp2_with fail
     exact bodyPost_ret (v:=.tuple #[.agg #[.string ⟨#[]⟩,.string ⟨#[]⟩,.string ⟨#[]⟩,.string ⟨#[]⟩,.int .i64 0,.bool false],.bool false]) (by simp [results,Tryz.results74,go_sem,z0,z1,z2,z3,z4,z5]) rfl ⟨⟨⟨em,em,em,em,0,false⟩,by rw [uh HN]; rfl,fun j hj=>by rw [uh HN] at hj; cases hj⟩,below6 (uh hbl)⟩
   by_cases h5 : k = 5
   ·skip
    subst h5
    obtain ⟨a,b,c,d,e,rfl⟩:=len5 (uh HNL)
    obtain ⟨g,off,hao,hcell⟩:=uh HC (by simp)
    rw [hao]
    have x0 : wr.cell? ⟨g,off,none⟩ = some (.string a):=((uh hbl).cell (p:=⟨g,off + 0,none⟩) (World.block_lt_of_cell? w _ (hcell 0 (by simp)))).trans (hcell 0 (by simp))
    have v0 : wr.cell? ⟨w.heap.size + 1,0,none⟩ = some (.bool (lowB a)):=(rown_cell (uh hown) (bls_get [a,b,c,d,e] 5 0 (by simp))).1
    have x1 : wr.cell? ⟨g,off + 1,none⟩ = some (.string b):=((uh hbl).cell (p:=⟨g,off + 1,none⟩) (World.block_lt_of_cell? w _ (hcell 1 (by simp)))).trans (hcell 1 (by simp))
    have v1 : wr.cell? ⟨w.heap.size + 1,1,none⟩ = some (.bool (lowB b)):=(rown_cell (uh hown) (bls_get [a,b,c,d,e] 5 1 (by simp))).1
    have x2 : wr.cell? ⟨g,off + 2,none⟩ = some (.string c):=((uh hbl).cell (p:=⟨g,off + 2,none⟩) (World.block_lt_of_cell? w _ (hcell 2 (by simp)))).trans (hcell 2 (by simp))
    have v2 : wr.cell? ⟨w.heap.size + 1,2,none⟩ = some (.bool (lowB c)):=(rown_cell (uh hown) (bls_get [a,b,c,d,e] 5 2 (by simp))).1
    have x3 : wr.cell? ⟨g,off + 3,none⟩ = some (.string d):=((uh hbl).cell (p:=⟨g,off + 3,none⟩) (World.block_lt_of_cell? w _ (hcell 3 (by simp)))).trans (hcell 3 (by simp))
    have v3 : wr.cell? ⟨w.heap.size + 1,3,none⟩ = some (.bool (lowB d)):=(rown_cell (uh hown) (bls_get [a,b,c,d,e] 5 3 (by simp))).1
    have x4 : wr.cell? ⟨g,off + 4,none⟩ = some (.string e):=((uh hbl).cell (p:=⟨g,off + 4,none⟩) (World.block_lt_of_cell? w _ (hcell 4 (by simp)))).trans (hcell 4 (by simp))
    have v4 : wr.cell? ⟨w.heap.size + 1,4,none⟩ = some (.bool (lowB e)):=(rown_cell (uh hown) (bls_get [a,b,c,d,e] 5 4 (by simp))).1
    clear hcell
    cases p0 : lowB a with
    | true =>
     cases p1 : (b.toList == [61]) with
     | true =>
      have q1 : (b.toList == [46]) = false:=by
       have e : b.toList = [61]:=by simpa using p1
       rw [e]; rfl
      cases p2 : lowB c with
      | true =>
       cases p3 : (d.toList == [46]) with
       | true =>
        cases p4 : (e.toList == [110]) with
        | true =>
         have HN : Hid (rsI [a,b,c,d,e] = some ⟨loadW,a,c,em,0,false⟩):=hide (by rw [rsI_5,p0,p1,q1,p2,p3,p4]; first | done | rfl)
         go_wp2_with fail
         go_region
         go_wp2_with fail
         exact bodyPost_ret (v:=.tuple #[.agg #[.string ⟨#[108,111,97,100]⟩,.string a,.string c,.string ⟨#[]⟩,.int .i64 0,.bool false],.bool true]) (by simp [results,Tryz.results74,go_sem,z0,z1,z2,z3,z4,z5]) rfl ⟨⟨⟨loadW,a,c,em,0,false⟩,by rw [uh HN]; rfl,fun j hj=>by rw [uh HN] at hj; cases hj; rfl⟩,(below6 (uh hbl)).drew⟩
        | false =>
         have HN : Hid (rsI [a,b,c,d,e] = none):=hide (by rw [rsI_5,p0,p1,q1,p2,p3,p4]; first | done | rfl)
         go_wp2_with fail
         exact bodyPost_ret (v:=.tuple #[.agg #[.string ⟨#[]⟩,.string ⟨#[]⟩,.string ⟨#[]⟩,.string ⟨#[]⟩,.int .i64 0,.bool false],.bool false]) (by simp [results,Tryz.results74,go_sem,z0,z1,z2,z3,z4,z5]) rfl ⟨⟨⟨em,em,em,em,0,false⟩,by rw [uh HN]; rfl,fun j hj=>by rw [uh HN] at hj; cases hj⟩,below6 (uh hbl)⟩
       | false =>
        have HN : Hid (rsI [a,b,c,d,e] = none):=hide (by rw [rsI_5,p0,p1,q1,p2,p3]; first | done | rfl)
        go_wp2_with fail
        exact bodyPost_ret (v:=.tuple #[.agg #[.string ⟨#[]⟩,.string ⟨#[]⟩,.string ⟨#[]⟩,.string ⟨#[]⟩,.int .i64 0,.bool false],.bool false]) (by simp [results,Tryz.results74,go_sem,z0,z1,z2,z3,z4,z5]) rfl ⟨⟨⟨em,em,em,em,0,false⟩,by rw [uh HN]; rfl,fun j hj=>by rw [uh HN] at hj; cases hj⟩,below6 (uh hbl)⟩
      | false =>
       have HN : Hid (rsI [a,b,c,d,e] = none):=hide (by rw [rsI_5,p0,p1,q1,p2]; first | done | rfl)
       go_wp2_with fail
       exact bodyPost_ret (v:=.tuple #[.agg #[.string ⟨#[]⟩,.string ⟨#[]⟩,.string ⟨#[]⟩,.string ⟨#[]⟩,.int .i64 0,.bool false],.bool false]) (by simp [results,Tryz.results74,go_sem,z0,z1,z2,z3,z4,z5]) rfl ⟨⟨⟨em,em,em,em,0,false⟩,by rw [uh HN]; rfl,fun j hj=>by rw [uh HN] at hj; cases hj⟩,below6 (uh hbl)⟩
     | false =>
      cases q1 : (b.toList == [46]) with
      | true =>
       cases q2 : (c.toList == [110]) with
       | true =>
        cases q3 : (d.toList == [61]) with
        | true =>
         cases q4 : lowB e with
         | true =>
          have HN : Hid (rsI [a,b,c,d,e] = some ⟨storeW,a,e,em,0,false⟩):=hide (by rw [rsI_5,p0,p1,q1,q2,q3,q4]; first | done | rfl)
          go_wp2_with fail
          go_region
          go_wp2_with fail
          exact bodyPost_ret (v:=.tuple #[.agg #[.string ⟨#[115,116,111,114,101]⟩,.string a,.string e,.string ⟨#[]⟩,.int .i64 0,.bool false],.bool true]) (by simp [results,Tryz.results74,go_sem,z0,z1,z2,z3,z4,z5]) rfl ⟨⟨⟨storeW,a,e,em,0,false⟩,by rw [uh HN]; rfl,fun j hj=>by rw [uh HN] at hj; cases hj; rfl⟩,(below6 (uh hbl)).drew⟩
         | false =>
          cases q5 : (e.toList == [110,105,108]) with
          | true =>
           have HN : Hid (rsI [a,b,c,d,e] = some ⟨storeW,a,e,em,0,false⟩):=hide (by rw [rsI_5,p0,p1,q1,q2,q3,q4,q5]; first | done | rfl)
           go_wp2_with fail
           go_region
           go_wp2_with fail
           exact bodyPost_ret (v:=.tuple #[.agg #[.string ⟨#[115,116,111,114,101]⟩,.string a,.string e,.string ⟨#[]⟩,.int .i64 0,.bool false],.bool true]) (by simp [results,Tryz.results74,go_sem,z0,z1,z2,z3,z4,z5]) rfl ⟨⟨⟨storeW,a,e,em,0,false⟩,by rw [uh HN]; rfl,fun j hj=>by rw [uh HN] at hj; cases hj; rfl⟩,(below6 (uh hbl)).drew⟩
          | false =>
           have HN : Hid (rsI [a,b,c,d,e] = none):=hide (by rw [rsI_5,p0,p1,q1,q2,q3,q4,q5]; first | done | rfl)
           go_wp2_with fail
           exact bodyPost_ret (v:=.tuple #[.agg #[.string ⟨#[]⟩,.string ⟨#[]⟩,.string ⟨#[]⟩,.string ⟨#[]⟩,.int .i64 0,.bool false],.bool false]) (by simp [results,Tryz.results74,go_sem,z0,z1,z2,z3,z4,z5]) rfl ⟨⟨⟨em,em,em,em,0,false⟩,by rw [uh HN]; rfl,fun j hj=>by rw [uh HN] at hj; cases hj⟩,below6 (uh hbl)⟩
        | false =>
         have HN : Hid (rsI [a,b,c,d,e] = none):=hide (by rw [rsI_5,p0,p1,q1,q2,q3]; first | done | rfl)
         go_wp2_with fail
         exact bodyPost_ret (v:=.tuple #[.agg #[.string ⟨#[]⟩,.string ⟨#[]⟩,.string ⟨#[]⟩,.string ⟨#[]⟩,.int .i64 0,.bool false],.bool false]) (by simp [results,Tryz.results74,go_sem,z0,z1,z2,z3,z4,z5]) rfl ⟨⟨⟨em,em,em,em,0,false⟩,by rw [uh HN]; rfl,fun j hj=>by rw [uh HN] at hj; cases hj⟩,below6 (uh hbl)⟩
       | false =>
        have HN : Hid (rsI [a,b,c,d,e] = none):=hide (by rw [rsI_5,p0,p1,q1,q2]; first | done | rfl)
        go_wp2_with fail
        exact bodyPost_ret (v:=.tuple #[.agg #[.string ⟨#[]⟩,.string ⟨#[]⟩,.string ⟨#[]⟩,.string ⟨#[]⟩,.int .i64 0,.bool false],.bool false]) (by simp [results,Tryz.results74,go_sem,z0,z1,z2,z3,z4,z5]) rfl ⟨⟨⟨em,em,em,em,0,false⟩,by rw [uh HN]; rfl,fun j hj=>by rw [uh HN] at hj; cases hj⟩,below6 (uh hbl)⟩
      | false =>
       have HN : Hid (rsI [a,b,c,d,e] = none):=hide (by rw [rsI_5,p0,p1,q1]; first | done | rfl)
       go_wp2_with fail
       exact bodyPost_ret (v:=.tuple #[.agg #[.string ⟨#[]⟩,.string ⟨#[]⟩,.string ⟨#[]⟩,.string ⟨#[]⟩,.int .i64 0,.bool false],.bool false]) (by simp [results,Tryz.results74,go_sem,z0,z1,z2,z3,z4,z5]) rfl ⟨⟨⟨em,em,em,em,0,false⟩,by rw [uh HN]; rfl,fun j hj=>by rw [uh HN] at hj; cases hj⟩,below6 (uh hbl)⟩
    | false =>
     have HN : Hid (rsI [a,b,c,d,e] = none):=hide (by rw [rsI_5,p0]; first | done | rfl)
     go_wp2_with fail
     exact bodyPost_ret (v:=.tuple #[.agg #[.string ⟨#[]⟩,.string ⟨#[]⟩,.string ⟨#[]⟩,.string ⟨#[]⟩,.int .i64 0,.bool false],.bool false]) (by simp [results,Tryz.results74,go_sem,z0,z1,z2,z3,z4,z5]) rfl ⟨⟨⟨em,em,em,em,0,false⟩,by rw [uh HN]; rfl,fun j hj=>by rw [uh HN] at hj; cases hj⟩,below6 (uh hbl)⟩
   have e1 : ((k : Int) == 1) = false:=by simp; omega
   have e2 : ((k : Int) == 2) = false:=by simp; omega
   have e3 : ((k : Int) == 3) = false:=by simp; omega
   have e5 : ((k : Int) == 5) = false:=by simp; omega
   have HN : Hid (rsI l = none):=hide (by
    have:=uh HNL
    match l,this with
    | [],_=>rfl
    | [_],h=>simp at h; omega
    | [_,_],h=>simp at h; omega
    | [_,_,_],h=>simp at h; omega
    | [_,_,_,_],_=>rfl
    | [_,_,_,_,_],h=>simp at h; omega
    | _ :: _ :: _ :: _ :: _ :: _ :: _,_=>rfl)
   clear h1 h2 h3 h5
   go_wp2_with fail
   refine bodyPost_ret (v:=.tuple #[.agg #[.string ⟨#[]⟩,.string ⟨#[]⟩,.string ⟨#[]⟩,.string ⟨#[]⟩,.int .i64 0,.bool false],.bool false]) (by simp [results,Tryz.results74,go_sem,z0,z1,z2,z3,z4,z5]) rfl ⟨⟨insZ,by rw [uh HN]; rfl,fun j hj=>by rw [uh HN] at hj; cases hj⟩,?_⟩
   exact below6 (uh hbl)
end Go.Proofs.YtciihepbeacppaaGreat
