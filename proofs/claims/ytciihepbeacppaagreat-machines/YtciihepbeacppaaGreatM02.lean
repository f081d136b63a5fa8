import Derived.Test.YtciihepbeacppaaGreatM01
import Derived.Test.YtciihepbeacppaaGreatM00
import Derived.Deep.RegionLaw
import Derived.Laws.CopyOwn
import Derived.Laws.OwnMore
import Derived.Deep.LoopGhost
namespace Go.Proofs.YtciihepbeacppaaGreat
open Go.RowKit
section
variable {P : Program} (w : World)
theorem wpList_app1 {ops : Array Oper} {rest : List Oper} {o : Oper} {a : Act} {Q : Exit → Act → World → Prop}
  (hg : o.guard = none) (s x : Operand) (t : TypeId) (hop : o.op = Op.call { callee:=Callee.builtin Builtin.append,args:=#[s,x],argTypes:=#[t,t] })
  (base : Nat) (e : TypeId) (i : TypeInfo) (z : Value) (size bytes : Nat) (ht : P.underlying t = some (.slice e)) (hi : P.info? e = some i) (hz : i.zero = some z)
  (hsize : i.size = size) (hby : i.bytes = bytes) (hzs : z.cells.size = size) (hsz : 0 < size)
  (v : Value) (n : Nat) (xs : List Value) (hs : a.eval s = v) (hown : w.ownsRow base e size v n xs)
  (ad : Addr) (c : Nat) (news : List Value) (hx : a.eval x = .slice (some ad) 1 c) (hl : news.length = size) (hnews : ∀ j u,news[j]? = some u → w.cell? (ad.add j) = some u) (h1 : ∀ u ∈ news,u.oneCell' = true)
  (h63 : n + 1 ≤ 1000000) (hb : bytes ≤ 1000) (hbase : base ≤ w.heap.size)
  (hK : ∀ g cap w',w'.ownsRow base e size (.slice (some ⟨g,0,none⟩) (n + 1) cap) (n + 1) (xs ++ news) → w.grownBy w' v.ownBlock → (some g = v.ownBlock ∨ g = w.heap.size) → wpList P ops Q rest (a.put o.dst (.slice (some ⟨g,0,none⟩) (n + 1) cap)) w') :
  wpList P ops Q (o :: rest) a w:=by
 refine wpList_plain hg fun K hK'=>?_
 obtain ⟨v',w',hrun,r1,r2,r3,g,cap,rfl⟩:=run_app1 (P:=P) w base t o.type e i z size bytes ht hi hz hsize hby hzs hsz v n xs hown ad c news hl hnews h1 h63 hb hbase
 unfold Oper.wp
 simp [execOp,hop,resolve,invoke,builtin,hs,hx,hrun,Result.andThen]
 exact hK' _ _ (hK g cap w' r1 r2 (by simpa [Value.ownBlock] using r3))
end
theorem new_cells (w : World) (b : Nat) (hb : b = w.heap.size) (xs : List Value) (T : TypeId) : ∀ (j : Nat) (u : Value),xs[j]? = some u → (w.alloc (.cells xs.toArray T)).cell? ((⟨b,0,none⟩ : Addr).add j) = some u:=by
 intro j u hj
 subst hb
 rw [show (⟨w.heap.size,0,none⟩ : Addr).add j = ⟨w.heap.size,j,none⟩ by unfold Addr.add; split <;> simp_all]
 rw [World.cell?_alloc_mark]
 simpa using hj
theorem Atm.one (a : Atm) : ∀ u ∈ a.cells,u.oneCell' = true:=by
 intro u hu; simp [Atm.cells] at hu; rcases hu with rfl | rfl | rfl | rfl | rfl <;> rfl
theorem atCells_snoc (l : List Atm) (a : Atm) : atCells (l ++ [a]) = atCells l ++ a.cells:=by simp [atCells]
theorem Tryz.infoAtom : (Tryz.prog.info? 239).map (fun i=>(i.zero,i.size,i.bytes)) = some (some (.agg #[.int .i64 0,.int .i64 0,.int .i64 0,.int .i64 0,.int .i64 0]),5,40):=by kernel_rfl
theorem own_one (w : World) (b B : Nat) (hb : b = w.heap.size) (hB : B ≤ w.heap.size) (T : TypeId) (sz : Nat) (xs : List Value) (hx : xs.length = sz) : (w.alloc (.cells xs.toArray T)).ownsRow B T sz (.slice (some ⟨b,0,none⟩) 1 1) 1 xs:=by
 subst hb; subst hx
 exact ⟨by simp,.inr ⟨w.heap.size,1,xs.toArray,rfl,hB,heap_alloc_new w _,Nat.le_refl _,by decide,by simp,by simp⟩⟩
section
variable {B : Nat} {WV : Value} {w : World} {P : Nat} {ws : List ByteArray} {s : PS} {F : List Nat} {wv vv hv nv : Value}
theorem rowStep {w w' : World} {B : Nat} {e : TypeId} {sz n : Nat} {v : Value} {xs : List Value} {F F' : List Nat} (h : w.ownsRow B e sz v n xs) (hS : Stp F w F' w') (ho : ∀ k,v.ownBlock = some k → k ∉ F) : w'.ownsRow B e sz v n xs :=
 ownsRow_of_eq h (fun k hk=>hS.block k (h.lt k hk).2 (ho k hk))
theorem rowAlloc2 {w : World} {B : Nat} {e : TypeId} {sz n : Nat} {v : Value} {xs : List Value} (h : w.ownsRow B e sz v n xs) (o o' : Obj) : ((w.alloc o).alloc o').ownsRow B e sz v n xs:=(h.alloc o).alloc o'
theorem form_step {wr w3 w4 : World} {F2 F3 : List Nat} {st' : PS} {v : Value} {al : List Atm} {o o' : Obj} {g n cap : Nat} (hS : Stp F w F2 wr) (hown : wr.ownsRow w.heap.size 239 5 v al.length (atCells al)) (hout : ∀ k,v.ownBlock = some k → k ∉ F2)
  (hI3 : IsQ B WV w3 P ws st' F3) (hS3 : Stp F2 wr F3 w3) (hg : ((w3.alloc o).alloc o').grownBy w4 v.ownBlock) (hb : some g = v.ownBlock ∨ g = w3.heap.size + 1 + 1) :
  IsQ B WV w4 P ws st' F3 ∧ Stp F w F3 w4 ∧ ∀ k,(Value.slice (some ⟨g,0,none⟩) n cap).ownBlock = some k → k ∉ F3:=by
 have hnot : ∀ k,v.ownBlock = some k → k ∉ F3:=by
  intro k hk hm
  rcases hS3.foot k hm with h | h
  ·exact hout k hk h
  ·have:=(hown.lt k hk).2; omega
 have hS3':=((hS.trans hS3).alloc o).alloc o'
 refine ⟨⟨((hI3.m.alloc o).alloc o').of_eq (fun k hk=>hg.block k (by have:=(hI3.m.mem k hk).2; simp; omega) (fun e=>hnot k e.symm hk)),hI3.f⟩,hS3'.grown hg (fun k hk=>Or.inr (hown.lt k hk).1),?_⟩
 intro k hk hm
 simp [Value.ownBlock] at hk
 subst hk
 rcases hb with hb | hb
 ·exact hnot g hb.symm hm
 ·have:=(hI3.m.mem g hm).2; omega
theorem foG_stop (n : Nat) (h : acB ws kStar s = false) : foG ws n s = ([],s):=by
 cases n with
 | zero=>rfl
 | succ n=>simp [foG,h]
theorem foG_go (n : Nat) (h : acB ws kStar s = true) : foG ws (n + 1) s = (atA ws s.adv :: (foG ws n (atS ws s.adv)).1,(foG ws n (atS ws s.adv)).2):=by simp [foG,h]
set_option maxRecDepth 100000 in
set_option maxHeartbeats 2000000 in
theorem formula_any (h : IsQ B WV w P ws s F) :
  Calls Tryz.prog 121 #[.pointer (some ⟨P,0,none⟩)] w fun e w'=>∃ v F',e = .returned v ∧ IsQ B WV w' P ws (foS ws s) F' ∧ Stp F w F' w' ∧
   w'.ownsRow w.heap.size 239 5 v (foA ws s).length (atCells (foA ws s)) ∧ (∀ k,v.ownBlock = some k → k ∉ F'):=by
 obtain ⟨i0,hi,hz0,hz1,hz2⟩:=info_parts Tryz.infoAtom
 have HQ:=hide h
 obtain ⟨hl,_,_,_⟩:=h.f
 clear h
 go_enter Tryz.func121,Tryz.ntmps121
 go_wp2_with fail
 refine (atom_any (uh HQ)).mono ?_
 rintro e w1 ⟨rfl,F1,hI1,hS1⟩
 have HI1:=hide hI1
 have HS1:=hide hS1
 clear hI1 hS1
 obtain ⟨A0,hA0⟩ : ∃ A0,A0 = atA ws s:=⟨_,rfl⟩
 have HA0:=hide hA0
 rw [← hA0]
 clear hA0
 obtain ⟨k0,k1,k2,k3,k4⟩:=A0
 simp only [Atm.cells]
 go_wp2_with fail
 go_loopg [4] (ws.length + 1) (fun m v wr=>∃ (st : PS) (al : List Atm) (F2 : List Nat),IsQ B WV wr P ws st F2 ∧ Stp F w F2 wr ∧ wr.ownsRow w.heap.size 239 5 v al.length (atCells al) ∧ (∀ k,v.ownBlock = some k → k ∉ F2) ∧ al.length ≤ st.pos + 1 ∧
  Hid (ws.length < m + st.pos ∧ foA ws s = al ++ (foG ws m st).1 ∧ foS ws s = (foG ws m st).2))
 case atStart =>
  refine ⟨atS ws s,[⟨k0,k1,k2,k3,k4⟩],F1,((uh HI1).alloc _).alloc _,((uh HS1).alloc _).alloc _,?_,?_,by simp,?_⟩
  ·have hsz1:=(uh HS1).size
   exact own_cast (own_one (w1.alloc _) (w1.heap.size + 1) w.heap.size (by simp) (by simp; omega) _ 5 [.int .i64 k0,.int .i64 k1,.int .i64 k2,.int .i64 k3,.int .i64 k4] rfl) rfl (by simp [atCells,Atm.cells])
  ·intro k hk hm
   simp [Value.ownBlock] at hk
   have:=((uh HI1).m.mem k hm).2
   omega
  ·exact ⟨by omega,by rw [foA,← uh HA0]; rfl,rfl⟩
 case round =>
  obtain ⟨st,al,F2,hI,hS,hown,hout,hlen,hhid⟩:=hrel
  obtain ⟨_,hpos,_,_⟩:=hI.f
  have HI:=hide hI
  have HS:=hide hS
  have HOWN:=hide hown
  have HOUT:=hide hout
  have HA:=accept_any kStar (by decide) hI
  clear hI hS hown hout
  cases hb : acB ws kStar st with
  | false =>
   have HS0 : Hid (acS ws kStar st = st):=hide (if_neg (by simp [hb]))
   rw [hb,uh HS0] at HA
   replace HA:=hide HA
   have HB:=hide hb
   clear hb
   go_wp2_with fail
   refine (uh HA).mono ?_
   rintro e w2 ⟨rfl,hI2,hS2⟩
   have HI2:=hide hI2
   have HS2:=hide hS2
   clear hI2 hS2
   go_wp2_with fail
   go_ret
   obtain ⟨_,hfa,hfs⟩:=uh hhid
   rw [foG_stop _ (uh HB)] at hfa hfs
   refine ⟨_,F2,rfl,by rw [hfs]; exact uh HI2,(uh HS).trans (uh HS2),?_,uh HOUT⟩
   rw [hfa,List.append_nil]
   exact ownsRow_of_eq (uh HOWN) (fun k hk=>(uh HS2).block k ((uh HOWN).lt k hk).2 (uh HOUT k hk))
  | true =>
   have HS0 : Hid (acS ws kStar st = st.adv):=hide (if_pos hb)
   rw [hb,uh HS0] at HA
   replace HA:=hide HA
   have HB:=hide hb
   have hplt : st.pos < ws.length:=acB_lt (by decide) hb
   clear hb
   go_wp2_with fail
   refine (uh HA).mono ?_
   rintro e w2 ⟨rfl,hI2,hS2⟩
   have HI2:=hide hI2
   have HS2:=hide hS2
   clear hI2 hS2
   go_wp2_with fail
   refine (atom_any (uh HI2)).mono ?_
   rintro e w3 ⟨rfl,F3,hI3,hS3⟩
   have HI3:=hide hI3
   have HS3:=hide ((uh HS2).trans hS3)
   clear hI3 hS3
   obtain ⟨A1,hA1⟩ : ∃ A1,A1 = atA ws st.adv:=⟨_,rfl⟩
   have HA1:=hide hA1
   rw [← hA1]
   clear hA1
   obtain ⟨j0,j1,j2,j3,j4⟩:=A1
   simp only [Atm.cells]
   go_wp2_with (at_builtin; refine wpList_app1 _ rfl (.tmp 14) (.tmp 16) 102 rfl w.heap.size 239 i0 _ 5 40 Tryz.underlying102 hi hz0 hz1 hz2 rfl (by decide) _ al.length (atCells al) rfl (rowAlloc2 (rowStep (uh HOWN) (uh HS3) (uh HOUT)) _ _) ⟨_,0,none⟩ 1 [.int .i64 j0,.int .i64 j1,.int .i64 j2,.int .i64 j3,.int .i64 j4] rfl rfl ?c1 ?c2 ?c3 ?c4 ?c5 ?_)
   case c1=>exact new_cells (w3.alloc _) _ (by simp) [.int .i64 j0,.int .i64 j1,.int .i64 j2,.int .i64 j3,.int .i64 j4] _
   case c2=>exact Atm.one ⟨j0,j1,j2,j3,j4⟩
   case c3=>omega
   case c4=>omega
   case c5=>have:=(uh HS).size; have:=(uh HS3).size; simp; omega
   intro g cap w4 hown4 hgrow4 hblk4
   have R:=form_step (n:=al.length + 1) (cap:=cap) (uh HS) (uh HOWN) (uh HOUT) (uh HI3) (uh HS3) hgrow4 hblk4
   have HR:=hide R
   have HO4:=hide hown4
   clear R hown4 hgrow4 hblk4
   go_wp2_with fail
   obtain ⟨hfm,hfa,hfs⟩:=uh hhid
   obtain ⟨m,rfl⟩ : ∃ m,gk = m + 1:=⟨gk - 1,by omega⟩
   rw [foG_go _ (uh HB),← uh HA1] at hfa hfs
   go_roundg m
   case measure=>omega
   case rel =>
    have hp2:=atS_pos (ws:=ws) (s:=st.adv)
    have hpa : st.adv.pos = st.pos + 1:=rfl
    refine ⟨atS ws st.adv,al ++ [⟨j0,j1,j2,j3,j4⟩],F3,(uh HR).1,(uh HR).2.1,?_,(uh HR).2.2,by simp; omega,⟨by omega,?_,hfs⟩⟩
    ·exact own_cast (uh HO4) (by simp) (by rw [atCells_snoc]; rfl)
    ·rw [hfa]; simp
end
def Bk (w : World) (A : Nat) (T : TypeId) (xs : List Value) : Prop:=w.heap[A]? = some (.cells xs.toArray T (0,0))
section
variable {w w' : World} {A T : Nat} {xs : List Value}
theorem Bk.lt (h : Bk w A T xs) : A < w.heap.size:=(Array.getElem?_eq_some_iff.1 h).1
theorem Bk.of_eq (h : Bk w A T xs) (he : w'.heap[A]? = w.heap[A]?) : Bk w' A T xs:=he.trans h
theorem Bk.cell (h : Bk w A T xs) (j : Nat) {u : Value} (hj : xs[j]? = some u) : w.cell? ⟨A,j,none⟩ = some u:=by
 rw [cell_of_row w A j xs.toArray T (0,0) h]; simpa using hj
theorem Bk.frz (h : Bk w A T xs) (j : Nat) : w.frozen? ⟨A,j,none⟩ = false:=frozen_of_row w A j xs.toArray T h
theorem Bk.set (h : Bk w A T xs) (j : Nat) (u : Value) : Bk (w.setCell ⟨A,j,none⟩ u) A T (xs.set j u):=by
 have:=heap_setCell_same w A j xs.toArray T u h
 unfold Bk; rw [this]; simp
theorem Bk.new (w : World) (T : TypeId) (xs : List Value) : Bk (w.alloc (.cells xs.toArray T)) w.heap.size T xs:=heap_alloc_new w _
theorem Bk.alloc (h : Bk w A T xs) (o : Obj) : Bk (w.alloc o) A T xs:=h.of_eq (Below.heap_alloc _ _ _ h.lt)
theorem Bk.below (h : Bk w A T xs) (hb : Below w.heap.size w w') : Bk w' A T xs:=h.of_eq (hb.block _ h.lt)
theorem Bk.stp {F F' : List Nat} (h : Bk w A T xs) (hs : Stp F w F' w') (hA : A ∉ F) : Bk w' A T xs:=h.of_eq (hs.block _ h.lt hA)
theorem Bk.setO (h : Bk w A T xs) {p : Addr} (hp : p.block ≠ A) (u : Value) : Bk (w.setCell p u) A T xs:=h.of_eq (Below.heap_setCell _ _ _ _ (fun e=>hp e.symm))
end
section
variable {w w' : World} {B e sz n : Nat} {v : Value} {xs : List Value}
theorem own_stp {F F' : List Nat} (h : w.ownsRow B e sz v n xs) (hs : Stp F w F' w') (hA : ∀ k,v.ownBlock = some k → k ∉ F) : w'.ownsRow B e sz v n xs:=rowStep h hs hA
theorem own_setO (h : w.ownsRow B e sz v n xs) {p : Addr} (hp : v.ownBlock ≠ some p.block) (u : Value) : (w.setCell p u).ownsRow B e sz v n xs :=
 ownsRow_of_eq h (fun k hk=>Below.heap_setCell _ _ _ _ (by rintro rfl; exact hp hk))
theorem own_le {B' : Nat} (h : w.ownsRow B e sz v n xs) (hb : B' ≤ B) : w.ownsRow B' e sz v n xs:=by
 refine ⟨h.1,?_⟩
 rcases h.2 with hn | ⟨g,cap,cur,rfl,hB,hg,rest⟩
 ·exact .inl hn
 ·exact .inr ⟨g,cap,cur,rfl,Nat.le_trans hb hB,hg,rest⟩
theorem own_bw (h : w.ownsRow B e sz v n xs) (hb : Below w.heap.size w w') : w'.ownsRow B e sz v n xs:=ownsRow_of_eq h (fun k hk=>hb.block k (h.lt k hk).2)
theorem own_slc (h : w.ownsRow B e sz v n xs) : ∃ ao cap,v = .slice ao n cap ∧ n ≤ cap ∧ cap ≤ 9223372036854775807:=by
 rcases h.2 with ⟨rfl,rfl⟩ | ⟨g,cap,cur,rfl,_,_,h1,h2,_⟩
 ·exact ⟨_,_,rfl,by omega,by omega⟩
 ·exact ⟨_,_,rfl,h1,by unfold maxLen at h2; omega⟩
theorem own_pos (h : w.ownsRow B e sz v n xs) (hn : 0 < n) : ∃ g cap,v = .slice (some ⟨g,0,none⟩) n cap ∧ n ≤ cap ∧ cap ≤ 9223372036854775807 ∧ g < w.heap.size:=by
 have hh:=h
 rcases h.2 with ⟨rfl,rfl⟩ | ⟨g,cap,cur,rfl,_,_,h1,h2,_⟩
 ·omega
 ·exact ⟨_,_,rfl,h1,by unfold maxLen at h2; omega,(hh.lt g rfl).2⟩
end
theorem Stp.foots {F F' F'' : List Nat} {w w' : World} (h : Stp F w F' w') (hf : ∀ k ∈ F'',k ∈ F ∨ w.heap.size ≤ k) : Stp F w F'' w':=⟨h.os,h.tape,h.output,h.size,h.block,hf⟩
theorem Stp.wide {F F' G : List Nat} {w w' : World} (h : Stp F w F' w') (hf : ∀ k ∈ F,k ∈ G) : Stp G w G w':=⟨h.os,h.tape,h.output,h.size,fun k hk hG=>h.block k hk (fun hF=>hG (hf k hF)),fun _ hk=>Or.inl hk⟩
theorem Stp.ofBw {F : List Nat} {w w' : World} (h : Below w.heap.size w w') : Stp F w F w':=⟨h.os,h.tape,h.output,h.size,fun k hk _=>h.block k hk,fun _ hk=>Or.inl hk⟩
theorem addr_add (b o j : Nat) : (⟨b,o,none⟩ : Addr).add j = ⟨b,o + j,none⟩:=by unfold Addr.add; split <;> simp_all
section
variable {P : Program}
theorem run_copy_rowN (w : World) (dT sT ty elem : TypeId) (g o dLen dCap : Nat) (a : Addr) (sLen sCap sz : Nat) (cur : Array Value) (t : TypeId) (cs : List Value)
  (hu : P.underlying dT = some (.slice elem)) (hs : (P.info? elem).map (·.size) = some sz)
  (hg : w.heap[g]? = some (.cells cur t (0,0))) (hn : cs.length = Nat.min sLen dLen * sz)
  (hsrc : ∀ j v,cs[j]? = some v → w.cell? (a.add j) = some v) (hfit : o + cs.length ≤ cur.size) (h1 : ∀ v ∈ cs,v.oneCell' = true) :
  (Builtin.copy_ #[dT,sT] ty #[.slice (some ⟨g,o,none⟩) dLen dCap,.slice (some a) sLen sCap]).run P w =
   .ok (goInt (Nat.min sLen dLen)) (w.setRow g (cur.toList.take o ++ cs ++ cur.toList.drop (o + cs.length)).toArray):=by
 have hl:=run_loadCells_list (P:=P) w a cs hsrc
 have hst:=run_storeCells_at P g o t cs 0 cur w hg (by simpa using hfit) h1
 cases hq : P.info? elem with
 | none=>simp [hq] at hs
 | some i =>
  have hi : i.size = sz:=by simpa [hq] using hs
  simp [Builtin.copy_,run_underlying hu,Builtin.lenOf,Builtin.firstCells,sizeOf,typeInfo,hq,hi,← hn,hl,hst]
theorem run_copy_noneN (w : World) (dT sT ty elem : TypeId) (dp sp : Option Addr) (dLen dCap sLen sCap sz : Nat)
  (hu : P.underlying dT = some (.slice elem)) (hs : (P.info? elem).map (·.size) = some sz) (hn : Nat.min sLen dLen = 0) :
  (Builtin.copy_ #[dT,sT] ty #[.slice dp dLen dCap,.slice sp sLen sCap]).run P w = .ok (goInt 0) w:=by
 cases hq : P.info? elem with
 | none=>simp [hq] at hs
 | some i =>
  have hn' : min sLen dLen = 0:=hn
  cases dp <;> cases sp <;> simp [Builtin.copy_,run_underlying hu,Builtin.lenOf,Builtin.firstCells,sizeOf,typeInfo,hq,hn',storeCells,loadCells,loadCellsFrom]
theorem splice_nil {α : Type} (L : List α) (off : Nat) : splice L off [] = L:=by simp [splice]
theorem step_copyN {ops : Array Oper} {o : Oper} {a : Act} {w : World} {K : Act → World → Prop} {Q : Exit → Act → World → Prop} {E : Prop} (hgd : o.guard = none) (d s : Operand) (dT sT : TypeId)
  (ho : o.op = .call { callee:=.builtin .copy,args:=#[d,s],argTypes:=#[dT,sT] }) (elem : TypeId) (sz : Nat) (hsz0 : 0 < sz) (hu : P.underlying dT = some (.slice elem)) (hsz : (P.info? elem).map (·.size) = some sz)
  (dp sp : Option Addr) (dLen dCap sLen sCap : Nat) (hd : a.eval d = .slice dp dLen dCap) (hs : a.eval s = .slice sp sLen sCap)
  (B e g n cap : Nat) (xs : List Value) (hrow : w.ownsRow B e sz (.slice (some ⟨g,0,none⟩) n cap) n xs) (off : Nat) (cs : List Value) (hn : cs.length = Nat.min sLen dLen * sz)
  (hpos : 0 < cs.length → dp = some ⟨g,off,none⟩ ∧ ∃ ad,sp = some ad ∧ ∀ j v,cs[j]? = some v → w.cell? (ad.add j) = some v)
  (hfit : off + cs.length ≤ n * sz) (h1 : ∀ v ∈ cs,v.oneCell' = true)
  (h : ∀ w',w'.ownsRow B e sz (.slice (some ⟨g,0,none⟩) n cap) n (splice xs off cs) → Stp [g] w [g] w' → K (a.put o.dst (goInt (Nat.min sLen dLen))) w') :
  if Region.wanted o (yielded ops a.tmps) = true then Oper.wp P o a w K Q else E:=by
 have hw : Region.wanted o (yielded ops a.tmps) = true:=by simp [Region.wanted,hgd]
 rw [if_pos hw]
 by_cases h0 : cs.length = 0
 ·obtain rfl : cs = []:=List.eq_nil_of_length_eq_zero h0
  have hm : Nat.min sLen dLen = 0:=by
   rcases Nat.eq_zero_or_pos (Nat.min sLen dLen) with h | h
   ·exact h
   ·have:=Nat.mul_pos h hsz0
    rw [← hn] at this
    simp at this
  have hrun:=run_copy_noneN (P:=P) w dT sT o.type elem dp sp dLen dCap sLen sCap sz hu hsz hm
  have hk:=h w (by rw [splice_nil]; exact hrow) (Stp.refl _ _)
  rw [hm] at hk
  unfold Oper.wp
  simp [execOp,ho,resolve,invoke,builtin,hd,hs,hrun,Result.andThen]
  exact hk
 ·obtain ⟨rfl,ad,rfl,hsrc⟩:=hpos (by omega)
  have hxl:=hrow.1
  rcases hrow.2 with ⟨h',_⟩ | ⟨g',cap',cur,h',hb,hg,hnc,hcm,hcs,htake⟩
  ·simp at h'
  ·simp only [Value.slice.injEq,Option.some.injEq,Addr.mk.injEq,and_true,true_and] at h'
   obtain ⟨rfl,rfl⟩:=h'
   have hle : n * sz ≤ cur.size:=by rw [hcs]; exact Nat.mul_le_mul_right _ hnc
   have hrun:=run_copy_rowN (P:=P) w dT sT o.type elem g off dLen dCap ad sLen sCap sz cur e cs hu hsz hg hn hsrc (by omega) h1
   have hk:=h (w.setRow g (cur.toList.take off ++ cs ++ cur.toList.drop (off + cs.length)).toArray)
    ⟨by rw [length_splice _ _ _ (by omega)]; exact hxl,.inr ⟨g,cap,_,rfl,hb,setRow_heap w g cur _ e _ hg,hnc,hcm,by simp; omega,by
     rw [← htake]
     unfold splice
     rw [List.take_take,Nat.min_eq_left (by omega),List.drop_take]
     have e1 : (cur.toList.take off).length = off:=by simp; omega
     rw [List.append_assoc,List.take_append,List.take_append,e1]
     congr 1
     ·rw [List.take_of_length_le (by omega)]
     ·rw [List.take_of_length_le (by omega)]
      congr 2
      omega⟩⟩
    ⟨rfl,rfl,rfl,by simp,fun k _ hk=>setRow_other w g k _ (by simpa using fun e=>hk (by simp [e])),fun _ hk=>Or.inl hk⟩
   unfold Oper.wp
   simp only [List.append_assoc] at hk hrun
   simp [execOp,ho,resolve,invoke,builtin,hd,hs,hrun,Result.andThen]
   exact hk
end
theorem Tryz.infoIntQ : (Tryz.prog.info? 3).map (fun i=>(i.zero,i.size,i.bytes)) = some (some (.int .i64 0),1,8):=by kernel_rfl
theorem below_boxQ (w : World) (o : Obj) : Below w.heap.size w (w.alloc o):=(Below.refl _ _).alloc (Nat.le_refl _) o
set_option maxRecDepth 100000 in
set_option maxHeartbeats 1000000 in
theorem cat_any {w : World} {X o : Nat} {v : Value} {l : List (Int × Int)} (i : Nat) (hi : i < l.length) (hc : w.cell? ⟨X,o,none⟩ = some v) (h : w.ownsRow 0 231 2 v l.length (ceC l)) :
  Calls Tryz.prog 150 #[.pointer (some ⟨X,o,none⟩),.int .i64 i] w fun e w'=>e = .returned (.agg #[.int .i64 l[i].1,.int .i64 l[i].2]) ∧ Below w.heap.size w w':=by
 obtain ⟨ao,cap,rfl,hm,hcn,hcell⟩:=ce_of_own h
 obtain ⟨g,hao,hgl,hcel⟩:=hcell (by intro h; rw [h] at hi; simp at hi)
 subst hao
 obtain ⟨x1,x2⟩:=hcel i hi
 generalize l[i].1 = p1 at *
 generalize l[i].2 = p2 at *
 have hb:=below_boxQ w (.cells #[Value.int .i64 0,.int .i64 0] 231)
 have c0:=(hb.cell (World.block_lt_of_cell? w _ hc)).trans hc
 have c1:=(hb.cell (World.block_lt_of_cell? w _ x1)).trans x1
 have c2:=(hb.cell (World.block_lt_of_cell? w _ x2)).trans x2
 have HB:=hide hb
 clear hcell hcel h hb
 go_enter Tryz.func150,Tryz.ntmps150
 go_wp2_with fail
 refine bodyPost_ret (v:=.agg #[.int .i64 p1,.int .i64 p2]) (by simp [results,Tryz.results150,go_sem]) rfl ⟨rfl,?_⟩
 exact below_boxQ _ _
def lkS (l : List (Int × Int)) (i : Nat) (n : Int) : List (Int × Int):=l.set i ((l.getD i (0,0)).1,n)
theorem ceC_cons (c : Int × Int) (l : List (Int × Int)) : ceC (c :: l) = .int .i64 c.1 :: .int .i64 c.2 :: ceC l:=rfl
theorem ceC_lk {l : List (Int × Int)} {i : Nat} (n : Int) (hi : i < l.length) : (ceC l).set (i * 2 + 1) (.int .i64 n) = ceC (lkS l i n):=by
 induction l generalizing i with
 | nil=>simp at hi
 | cons c l ih =>
  cases i with
  | zero=>rfl
  | succ i =>
   have hi' : i < l.length:=by simpa using hi
   have e : lkS (c :: l) (i + 1) n = c :: lkS l i n:=by simp [lkS]
   rw [e,ceC_cons,ceC_cons,show (i + 1) * 2 + 1 = (i * 2 + 1) + 1 + 1 by omega,List.set_cons_succ,List.set_cons_succ,ih hi']
theorem lkS_len (l : List (Int × Int)) (i : Nat) (n : Int) : (lkS l i n).length = l.length:=by simp [lkS]
set_option maxRecDepth 100000 in
set_option maxHeartbeats 1000000 in
theorem clink_any {w : World} {X o : Nat} {v : Value} {l : List (Int × Int)} (a n : Int) (hc : w.cell? ⟨X,o,none⟩ = some v) (h : w.ownsRow 0 231 2 v l.length (ceC l)) (hs : Srt l) :
  Calls Tryz.prog 109 #[.pointer (some ⟨X,o,none⟩),.int .i64 a,.int .i64 n] w fun e w' =>
   (fdA l a = none ∧ e = .returned (.bool false) ∧ w' = w) ∨
   (∃ i,fdA l a = some i ∧ e = .returned (.bool true) ∧ w'.ownsRow 0 231 2 v l.length (ceC (lkS l i n)) ∧ Stp v.ownBlock.toList w v.ownBlock.toList w'):=by
 have HF:=hide (cfind_any a hc h hs)
 have HR:=hide h
 cases hf : fdA l a with
 | none =>
  have e : fdI l a = -1:=by unfold fdI; rw [hf]
  rw [e] at HF
  clear h hs hf e
  go_enter Tryz.func109,Tryz.ntmps109
  go_wp2_with (go_at_call 149; refine (uh HF).mono ?_; rintro e w' ⟨rfl,rfl⟩)
  go_ret
  exact Or.inl ⟨trivial,rfl,rfl⟩
 | some i =>
  have e : fdI l a = (i : Int):=by unfold fdI; rw [hf]
  rw [e] at HF
  obtain ⟨hi,-⟩:=fdA_some hf
  obtain ⟨g,cap,rfl,hcn,hm,hgl⟩:=own_pos h (by omega)
  have x2:=(h.cellAt (i * 2 + 1) (by omega)).trans (ce_get hi).2
  have f2:=h.frozenAt (i * 2 + 1)
  generalize l[i].2 = p2 at *
  clear h hs hf e
  go_enter Tryz.func109,Tryz.ntmps109
  go_wp2_with (go_at_call 149; refine (uh HF).mono ?_; rintro e w' ⟨rfl,rfl⟩)
  go_ret
  refine Or.inr ⟨i,rfl,rfl,?_,(Stp.refl _ _).setCell (Or.inl (by simp [Value.ownBlock])) _⟩
  rw [← ceC_lk n hi]
  exact ((uh HR).stored (i * 2 + 1) (.int .i64 n)).1
def nuK (l : List (Int × Int)) (k : Nat) : List Value:=(ceC l).take (2 * k) ++ List.replicate (2 * l.length - 2 * k) (.int .i64 0)
theorem nuK_len {l : List (Int × Int)} {k : Nat} (h : k ≤ l.length) : (nuK l k).length = 2 * l.length:=by simp [nuK,ceC_len]; omega
theorem nuK_zero (l : List (Int × Int)) : nuK l 0 = List.replicate (2 * l.length) (.int .i64 0):=by simp [nuK]
theorem nuK_end (l : List (Int × Int)) : nuK l l.length = ceC l:=by
 unfold nuK; rw [List.take_of_length_le (by rw [ceC_len]; omega),Nat.sub_self]; simp
theorem nuK_step {l : List (Int × Int)} {k : Nat} (h : k < l.length) : ((nuK l k).set (2 * k) (.int .i64 l[k].1)).set (2 * k + 1) (.int .i64 l[k].2) = nuK l (k + 1):=by
 have hl : (List.take (2 * k) (ceC l)).length = 2 * k:=by simp [ceC_len]; omega
 have e1 : (ceC l).take (2 * (k + 1)) = (ceC l).take (2 * k) ++ [.int .i64 l[k].1,.int .i64 l[k].2]:=by
  have g:=ce_get h
  rw [show k * 2 = 2 * k by omega] at g
  have h2 : 2 * k < (ceC l).length:=by rw [ceC_len]; omega
  have h3 : 2 * k + 1 < (ceC l).length:=by rw [ceC_len]; omega
  rw [show 2 * (k + 1) = 2 * k + 1 + 1 by omega,List.take_succ_eq_append_getElem h3,List.take_succ_eq_append_getElem h2,List.append_assoc]
  rw [List.getElem?_eq_getElem h2,Option.some.injEq] at g
  rw [List.getElem?_eq_getElem h3,Option.some.injEq] at g
  rw [g.1,g.2]; rfl
 unfold nuK
 rw [e1,List.set_append_right _ _ (by omega),List.set_append_right _ _ (by omega),hl,Nat.sub_self,show 2 * k + 1 - 2 * k = 1 by omega,
  show 2 * l.length - 2 * k = (2 * l.length - 2 * (k + 1)) + 1 + 1 by omega,List.replicate_succ,List.replicate_succ]
 simp
set_option maxRecDepth 100000 in
set_option maxHeartbeats 2000000 in
theorem cnumbers_any {w : World} {X o : Nat} {v : Value} {l : List (Int × Int)} (hc : w.cell? ⟨X,o,none⟩ = some v) (h : w.ownsRow 0 231 2 v l.length (ceC l)) (hl : l.length ≤ 100000) :
  Calls Tryz.prog 99 #[.pointer (some ⟨X,o,none⟩)] w fun e w'=>∃ g,e = .returned (.slice (some ⟨g,0,none⟩) (2 * l.length) (2 * l.length)) ∧ w'.ownsRow w.heap.size 3 1 (.slice (some ⟨g,0,none⟩) (2 * l.length) (2 * l.length)) (2 * l.length) (ceC l) ∧ Below w.heap.size w w':=by
 obtain ⟨i0,hi,hz0,hz1,hz2⟩:=info_parts (Tryz.infoIntQ)
 obtain ⟨ao,cap,rfl,hm,hcn,hcell⟩:=ce_of_own h
 have HC:=hide hcell
 have hXl:=World.block_lt_of_cell? w _ hc
 clear hcell h
 go_enter Tryz.func99,Tryz.ntmps99
 go_wp2_with (at_make; refine wpList_make_full _ rfl _ _ 29 rfl w.heap.size 3 i0 (.int .i64 0) 1 Tryz.underlying29 hi hz0 hz1 .i64 .i64 _ _ (2 * l.length) ?a1 ?a2 rfl rfl ?b2 ?b3 ?b4 ?_)
 case b2=>omega
 case b3=>unfold maxLen; omega
 intro w1 hown1 hgrow1
 have hb1 : Below w.heap.size w w1:=(Below.refl _ _).grown hgrow1 (Nat.le_refl _) (fun k h=>by cases h)
 have hr1 : w1.ownsRow w.heap.size 3 1 (.slice (some ⟨w.heap.size,0,none⟩) (2 * l.length) (2 * l.length)) (2 * l.length) (nuK l 0):=by
  rw [nuK_zero]
  simpa [Value.cells,toList_madeCells_one] using hown1
 have HB1:=hide hb1
 have HR1:=hide hr1
 clear hown1 hgrow1 hb1 hr1
 go_wp2_with fail
 go_loopw [4] (fun i wr=>∃ k : Nat,k ≤ l.length ∧ i = .int .i64 k ∧ Hid (wr.ownsRow w.heap.size 3 1 (.slice (some ⟨w.heap.size,0,none⟩) (2 * l.length) (2 * l.length)) (2 * l.length) (nuK l k)) ∧ Hid (Below w.heap.size w wr)) (fun i _=>l.length - (intOf i).toNat)
 case atStart=>exact ⟨0,Nat.zero_le _,rfl,HR1,HB1⟩
 case round =>
  obtain ⟨k,hk,rfl,hrow,hbw⟩:=hrel
  have c0:=((uh hbw).cell (p:=⟨X,o,none⟩) hXl).trans hc
  by_cases hlt : k < l.length
  ·have hd : decide ((k : Int) < (l.length : Int)) = true:=by simp; omega
   obtain ⟨g,hao,hgl,hcell⟩:=uh HC (by intro h; rw [h] at hlt; simp at hlt)
   subst hao
   obtain ⟨y1,y2⟩:=hcell k hlt
   have x1:=((uh hbw).cell (p:=⟨g,k * 2,none⟩) hgl).trans y1
   have x2:=((uh hbw).cell (p:=⟨g,k * 2 + 1,none⟩) hgl).trans y2
   have HST:=hide (nuK_step hlt)
   have hnl:=nuK_len hk
   have d1 : ∃ u,wr.cell? ⟨w.heap.size,2 * k,none⟩ = some u:=by
    rw [(uh hrow).cellAt (2 * k) (by omega)]; exact ⟨_,List.getElem?_eq_getElem (by omega)⟩
   obtain ⟨u1,d1⟩:=d1
   have f1:=(uh hrow).frozenAt (2 * k)
   have d2 : ∃ u,wr.cell? ⟨w.heap.size,2 * k + 1,none⟩ = some u:=by
    rw [(uh hrow).cellAt (2 * k + 1) (by omega)]; exact ⟨_,List.getElem?_eq_getElem (by omega)⟩
   obtain ⟨u2,d2⟩:=d2
   have f2:=(uh hrow).frozenAt (2 * k + 1)
   generalize l[k].1 = p1 at *
   generalize l[k].2 = p2 at *
   have HR2:=hide (((uh hrow).stored (2 * k) (.int .i64 p1)).1.stored (2 * k + 1) (.int .i64 p2)).1
   rw [uh HST] at HR2
   have HB2:=hide (((uh hbw).setCell (p:=⟨w.heap.size,2 * k,none⟩) (Nat.le_refl _) (.int .i64 p1)).setCell (p:=⟨w.heap.size,2 * k + 1,none⟩) (Nat.le_refl _) (.int .i64 p2))
   have hgn : g ≠ w.heap.size:=by omega
   have hXn : X ≠ w.heap.size:=by omega
   clear hcell y1 y2 hrow hbw hnl
   go_wp2_with fail
   go_roundw
   case rel=>exact ⟨k + 1,by omega,by go_num,HR2,HB2⟩
   case measure=>simp [intOf]; omega
  ·have hd : decide ((k : Int) < (l.length : Int)) = false:=by simp; omega
   have hkl : k = l.length:=by omega
   subst hkl
   rw [nuK_end] at hrow
   go_wp2_with fail
   go_ret
   exact ⟨_,rfl,uh hrow,uh hbw⟩
theorem Tryz.infoCell : (Tryz.prog.info? 231).map (fun i=>(i.zero,i.size,i.bytes)) = some (some (.agg #[.int .i64 0,.int .i64 0]),2,16):=by kernel_rfl
theorem Tryz.sizeCell : (Tryz.prog.info? 231).map (·.size) = some 2:=by kernel_rfl
theorem ceC_one (l : List (Int × Int)) : ∀ u ∈ ceC l,u.oneCell' = true:=by
 induction l with
 | nil=>intro u hu; cases hu
 | cons c l ih =>
  intro u hu
  rw [ceC_cons] at hu
  simp only [List.mem_cons] at hu
  rcases hu with rfl | rfl | hu
  ·rfl
  ·rfl
  ·exact ih u hu
theorem ceC_drop (l : List (Int × Int)) (i : Nat) : (ceC l).drop (i * 2) = ceC (l.drop i):=by
 induction i generalizing l with
 | zero=>simp
 | succ i ih =>
  cases l with
  | nil=>simp [ceC]
  | cons c l=>rw [ceC_cons,show (i + 1) * 2 = i * 2 + 1 + 1 by omega,List.drop_succ_cons,List.drop_succ_cons,List.drop_succ_cons,ih]
theorem ceC_take (l : List (Int × Int)) (i : Nat) : (ceC l).take (i * 2) = ceC (l.take i):=by
 induction i generalizing l with
 | zero=>simp [ceC]
 | succ i ih =>
  cases l with
  | nil=>simp [ceC]
  | cons c l=>rw [ceC_cons,show (i + 1) * 2 = i * 2 + 1 + 1 by omega,List.take_succ_cons,List.take_succ_cons,List.take_succ_cons,ceC_cons,ih]
theorem ceC_add {l : List (Int × Int)} {i : Nat} (a n : Int) (hi : i ≤ l.length) :
  ((splice (ceC l ++ [.int .i64 0,.int .i64 0]) ((i + 1) * 2) (ceC (l.drop i))).set (i * 2) (.int .i64 a)).set (i * 2 + 1) (.int .i64 n) = ceC (l.take i ++ (a,n) :: l.drop i):=by
 have hl : (ceC (l.take i)).length = i * 2:=by rw [ceC_len,List.length_take]; omega
 have h1 : (ceC l ++ [Value.int .i64 0,.int .i64 0]).drop ((i + 1) * 2 + (ceC (l.drop i)).length) = []:=by
  apply List.drop_eq_nil_of_le
  simp only [List.length_append,ceC_len,List.length_drop,List.length_cons,List.length_nil]
  omega
 have h2 : ∃ p q,(ceC l ++ [Value.int .i64 0,.int .i64 0]).take ((i + 1) * 2) = ceC (l.take i) ++ [p,q]:=by
  by_cases h : i < l.length
  ·refine ⟨.int .i64 l[i].1,.int .i64 l[i].2,?_⟩
   rw [List.take_append_of_le_length (by rw [ceC_len]; omega),ceC_take,List.take_succ_eq_append_getElem h,ceC_app]
   rfl
  ·have : i = l.length:=by omega
   subst this
   refine ⟨.int .i64 0,.int .i64 0,?_⟩
   rw [List.take_of_length_le (by simp [ceC_len]; omega),List.take_length]
 obtain ⟨p,q,h2⟩:=h2
 unfold splice
 rw [h1,List.append_nil,h2,List.append_assoc,List.set_append_right _ _ (by omega),List.set_append_right _ _ (by omega),hl,Nat.sub_self,show i * 2 + 1 - i * 2 = 1 by omega,ceC_app,ceC_cons]
 rfl
set_option maxRecDepth 100000 in
set_option maxHeartbeats 4000000 in
theorem cadd_any {w : World} {X o : Nat} {T : TypeId} {xs : List Value} {v : Value} {l : List (Int × Int)} (a n : Int) (hX : Bk w X T xs) (ho : xs[o]? = some v) (h : w.ownsRow 0 231 2 v l.length (ceC l)) (hs : Srt l) (hne : v.ownBlock ≠ some X) (hl : l.length ≤ 100000) (hf : fdA l a = none) :
  Calls Tryz.prog 96 #[.pointer (some ⟨X,o,none⟩),.int .i64 a,.int .i64 n] w fun e w' =>
   e = .returned (.bool true) ∧ ∃ v',Bk w' X T (xs.set o v') ∧ w'.ownsRow 0 231 2 v' (l.length + 1) (ceC (adA l a n)) ∧ v'.ownBlock ≠ some X ∧ Stp (X :: v.ownBlock.toList) w (X :: v'.ownBlock.toList) w':=by
 obtain ⟨i0,hi0,hz0,hz1,hz2⟩:=info_parts Tryz.infoCell
 have hc:=hX.cell o ho
 have hXl:=hX.lt
 have HP:=hide (cplace_any a hc h hs)
 have HR:=hide h
 have HX:=hide hX
 have HN:=hide hne
 have HAd : Hid (adA l a n = l.take (lowA l a) ++ (a,n) :: l.drop (lowA l a)):=hide rfl
 have hil:=lowA_le l a
 obtain ⟨i,hi⟩ : ∃ i,i = lowA l a:=⟨_,rfl⟩
 rw [← hi] at HP HAd hil
 have key : (∃ g cap y,v = .slice (some ⟨g,0,none⟩) l.length cap ∧ i < l.length ∧ w.cell? ⟨g,i * 2,none⟩ = some (.int .i64 y) ∧ (y == a) = false) ∨ (∃ ao cap,v = .slice ao l.length cap ∧ ¬ i < l.length ∧ decide ((i : Int) < (l.length : Int)) = false):=by
  by_cases hlt : i < l.length
  ·obtain ⟨g,cap,hv,_,_,_⟩:=own_pos h (by omega)
   rw [hv] at h
   refine Or.inl ⟨g,cap,_,hv,hlt,(h.cellAt (i * 2) (by omega)).trans (ce_get hlt).1,?_⟩
   have : fdA l a ≠ some i:=by rw [hf]; simp
   simp only [beq_eq_false_iff_ne]
   intro e
   subst hi
   exact this (fdI_hit hlt e)
  ·obtain ⟨ao,cap,hv,_⟩:=own_slc h
   exact Or.inr ⟨ao,cap,hv,hlt,by simp; omega⟩
 have HO:=hide ho
 obtain ⟨bl,hbl⟩ : ∃ bl,bl = v.ownBlock:=⟨_,rfl⟩
 have HBL:=hide hbl
 clear hbl
 clear hi hf hX ho hs hne h
 rcases key with ⟨g,cap,y,rfl,hlt,hy,hya⟩ | ⟨ao,cap,rfl,hlt0,hlt⟩
 all_goals
  go_enter Tryz.func96,Tryz.ntmps96
  go_wp2_with fail
  refine (uh HP).mono ?_
  rintro e w' ⟨rfl,rfl⟩
  go_wp2_with (at_builtin; refine wpList_app1 _ rfl (.tmp 34) (.tmp 36) 165 rfl 0 231 i0 _ 2 16 Tryz.underlying165 hi0 hz0 hz1 hz2 rfl (by decide) _ l.length (ceC l) rfl ((uh HR).alloc _) ⟨_,0,none⟩ 1 [.int .i64 0,.int .i64 0] rfl rfl ?c1 ?c2 ?c3 ?c4 ?c5 ?_)
  case c1=>exact new_cells _ _ rfl _ _
  case c2=>intro u hu; simp at hu; subst hu; rfl
  case c3=>omega
  case c4=>omega
  case c5=>simp
  intro g2 cap2 w2 hown2 hgrow2 hblk2
  have hX2 : Bk w2 X T xs:=((uh HX).alloc _).of_eq (hgrow2.block X (by simp; omega) (fun e=>uh HN e.symm))
  obtain ⟨hn2,hgs2⟩ : l.length + 1 ≤ cap2 ∧ cap2 ≤ 9223372036854775807:=by
   obtain ⟨_,_,e,h1,h2⟩:=own_slc hown2
   cases e; exact ⟨h1,h2⟩
  have c2:=hX2.cell o (uh HO)
  have f2:=hX2.frz o
  have hg2X : (Value.slice (some ⟨g2,0,none⟩) (l.length + 1) cap2).ownBlock ≠ some X:=by
   simp only [Value.ownBlock,ne_eq,Option.some.injEq]
   rintro rfl
   rcases hblk2 with e | e
   ·exact uh HN e.symm
   ·first | omega | (simp at e; omega)
  have HX3:=hide (hX2.set o (Value.slice (some ⟨g2,0,none⟩) (l.length + 1) cap2))
  have HR3:=hide (own_setO (p:=⟨X,o,none⟩) hown2 hg2X (Value.slice (some ⟨g2,0,none⟩) (l.length + 1) cap2))
  have HS3:=hide ((((((Stp.refl (X :: bl.toList) w').alloc _).grown hgrow2 (fun k hk=>Or.inl (by rw [uh HBL,hk]; simp))).setCell (p:=⟨X,o,none⟩) (Or.inl (List.mem_cons_self ..)) (Value.slice (some ⟨g2,0,none⟩) (l.length + 1) cap2)).foots (F'':=[X,g2]) (fun k hk=>by
   simp only [List.mem_cons,List.not_mem_nil,or_false] at hk
   rcases hk with rfl | rfl
   ·exact Or.inl (List.mem_cons_self ..)
   ·rcases hblk2 with e | e
    ·exact Or.inl (by rw [uh HBL,← e]; simp)
    ·exact Or.inr (by first | omega | (simp at e; omega)))))
  have HG2:=hide hg2X
  clear hown2 hgrow2 hblk2 hX2 hg2X
  go_wp2_with fail
  obtain ⟨w3,hw3⟩ : ∃ w3,w3 = w2.setCell ⟨X,o,none⟩ (Value.slice (some ⟨g2,0,none⟩) (l.length + 1) cap2):=⟨_,rfl⟩
  rw [← hw3] at HX3 HR3 HS3 ⊢
  clear hw3 c2 f2
  have c3 : w3.cell? ⟨X,o,none⟩ = some (Value.slice (some ⟨g2,0,none⟩) (l.length + 1) cap2):=(uh HX3).cell o (by rw [List.getElem?_set_self (List.getElem?_eq_some_iff.1 (uh HO)).1])
  have hwr : IntKind.i64.wrap ((i : Int) + 1) = (i : Int) + 1:=by rw [IntKind.wrap_i64]; omega
  have hp0 : (0 : Int) ≤ (i : Int) + 1:=by omega
  have hp1 : (i : Int) + 1 ≤ (l.length : Int) + 1:=by omega
  have hp2 : ((i : Int) + 1).toNat = i + 1:=by omega
  have hni : ¬ cap2 = i:=by omega
  have hp3 : (i : Int) ≤ (l.length : Int) + 1:=by omega
  obtain ⟨A,hA,HA⟩ : ∃ A : Addr,(if cap2 = i + 1 then some (⟨g2,0,none⟩ : Addr) else some ⟨g2,(i + 1) * 2,none⟩) = some A ∧ Hid (i < l.length → A = ⟨g2,(i + 1) * 2,none⟩):=by
   by_cases h : cap2 = i + 1
   ·exact ⟨_,if_pos h,hide (fun h'=>by omega)⟩
   ·exact ⟨_,if_neg h,hide (fun _=>rfl)⟩
  have D1 : Hid ((ceC (l.drop i)).length = Nat.min (l.length + 1 - i) (l.length - i) * 2):=hide (by
   rw [ceC_len,List.length_drop,show Nat.min (l.length + 1 - i) (l.length - i) = l.length - i from Nat.min_eq_right (by omega)])
  have D2 : Hid (0 < (ceC (l.drop i)).length → some A = some ⟨g2,(i + 1) * 2,none⟩ ∧ ∃ ad,some (⟨g2,i * 2,none⟩ : Addr) = some ad ∧ ∀ j v,(ceC (l.drop i))[j]? = some v → w3.cell? (ad.add j) = some v):=hide (fun hpos=>by
   rw [ceC_len,List.length_drop] at hpos
   refine ⟨by rw [uh HA (by omega)],_,rfl,fun j v hj=>?_⟩
   rw [show (⟨g2,i * 2,none⟩ : Addr).add j = ⟨g2,i * 2 + j,none⟩ from addr_add _ _ _]
   have hjl:=(List.getElem?_eq_some_iff.1 hj).1
   rw [ceC_len,List.length_drop] at hjl
   rw [(uh HR3).cellAt (i * 2 + j) (by omega),List.getElem?_append_left (by rw [ceC_len]; omega),← hj,← ceC_drop,List.getElem?_drop])
  have D3 : Hid ((i + 1) * 2 + (ceC (l.drop i)).length ≤ (l.length + 1) * 2):=hide (by rw [ceC_len,List.length_drop]; omega)
  have HR3d : Hid (w3.drew.ownsRow 0 231 2 (.slice (some ⟨g2,0,none⟩) (l.length + 1) cap2) (l.length + 1) (ceC l ++ [.int .i64 0,.int .i64 0])):=hide (uh HR3)
  go_region_law (refine step_copyN rfl (.tmp 46) (.tmp 52) 165 165 rfl 231 2 (by decide) Tryz.underlying165 Tryz.sizeCell (some A) (some ⟨g2,i * 2,none⟩) (l.length - i) (cap2 - (i + 1)) (l.length + 1 - i) (cap2 - i) (by rfl) (by rfl) 0 231 g2 (l.length + 1) cap2 _ (uh HR3d) ((i + 1) * 2) (ceC (l.drop i)) (uh D1) (uh D2) (uh D3) (ceC_one _) ?_; intro w4 hrow4 hst4)
  all_goals
   have hgX : X ≠ g2:=fun e=>uh HG2 (by rw [e]; rfl)
   have hX4 : Bk w4 X T (xs.set o (Value.slice (some ⟨g2,0,none⟩) (l.length + 1) cap2)):=(uh HX3).of_eq (hst4.block X (uh HX3).lt (by simpa using hgX))
   have c4 : w4.cell? ⟨X,o,none⟩ = some (Value.slice (some ⟨g2,0,none⟩) (l.length + 1) cap2):=hX4.cell o (by rw [List.getElem?_set_self (List.getElem?_eq_some_iff.1 (uh HO)).1])
   have hl4:=hrow4.1
   obtain ⟨u1,y1⟩ : ∃ u,w4.cell? ⟨g2,i * 2,none⟩ = some u:=by
    rw [hrow4.cellAt (i * 2) (by omega)]; exact ⟨_,List.getElem?_eq_getElem (by omega)⟩
   obtain ⟨u2,y2⟩ : ∃ u,w4.cell? ⟨g2,i * 2 + 1,none⟩ = some u:=by
    rw [hrow4.cellAt (i * 2 + 1) (by omega)]; exact ⟨_,List.getElem?_eq_getElem (by omega)⟩
   have z1:=hrow4.frozenAt (i * 2)
   have z2:=hrow4.frozenAt (i * 2 + 1)
   have HR5:=hide ((hrow4.stored (i * 2) (.int .i64 a)).1.stored (i * 2 + 1) (.int .i64 n)).1
   rw [ceC_add a n hil,← uh HAd] at HR5
   have HX5:=hide ((hX4.setO (p:=⟨g2,i * 2,none⟩) (fun e=>hgX e.symm) (.int .i64 a)).setO (p:=⟨g2,i * 2 + 1,none⟩) (fun e=>hgX e.symm) (.int .i64 n))
   have HS5:=hide ((uh HS3).drew.trans ((((hst4.wide (G:=[X,g2]) (by simp)).setCell (p:=⟨g2,i * 2,none⟩) (Or.inl (by simp)) (.int .i64 a)).setCell (p:=⟨g2,i * 2 + 1,none⟩) (Or.inl (by simp)) (.int .i64 n))))
   have i1 : (i : Int) < (l.length : Int) + 1:=by omega
   clear hrow4 hst4 hX4 hl4 c3 hA hp0 hp1 hp2 hp3 hwr
   go_wp2_with fail
   go_ret
   exact ⟨rfl,_,uh HX5,uh HR5,uh HG2,by rw [← uh HBL]; exact uh HS5⟩
set_option maxRecDepth 100000 in
set_option maxHeartbeats 1000000 in
theorem cadd_no {w : World} {X o : Nat} {v : Value} {l : List (Int × Int)} (a n : Int) {i : Nat} (hc : w.cell? ⟨X,o,none⟩ = some v) (h : w.ownsRow 0 231 2 v l.length (ceC l)) (hs : Srt l) (hf : fdA l a = some i) :
  Calls Tryz.prog 96 #[.pointer (some ⟨X,o,none⟩),.int .i64 a,.int .i64 n] w fun e w'=>e = .returned (.bool false) ∧ w' = w:=by
 have HP:=hide (cplace_any a hc h hs)
 obtain ⟨hi,-⟩:=fdA_some hf
 have hlow : lowA l a = i ∧ ∃ h : i < l.length,l[i].1 = a:=by
  have hf2:=hf
  unfold fdA at hf
  split at hf
  ·split at hf
   ·injection hf with hf
    subst hf
    exact ⟨rfl,‹_›,‹_›⟩
   ·cases hf
  ·cases hf
 rw [hlow.1] at HP
 obtain ⟨_,he⟩:=hlow.2
 obtain ⟨g,cap,rfl,hcn,hm,hgl⟩:=own_pos h (by omega)
 have x1:=(h.cellAt (i * 2) (by omega)).trans (ce_get hi).1
 rw [he] at x1
 clear h hs hf hlow he
 go_enter Tryz.func96,Tryz.ntmps96
 go_wp2_with (go_at_call 144; refine (uh HP).mono ?_; rintro e w' ⟨rfl,rfl⟩)
 go_ret
 exact ⟨rfl,rfl⟩
def rmS (l : List (Int × Int)) (i : Nat) : List (Int × Int):=l.eraseIdx i
theorem rmS_len {l : List (Int × Int)} {i : Nat} (h : i < l.length) : (rmS l i).length = l.length - 1:=by simp [rmS,List.length_eraseIdx,h]
theorem ceC_rm {l : List (Int × Int)} {i : Nat} (hi : i < l.length) : (splice (ceC l) (i * 2) (ceC (l.drop (i + 1)))).take ((l.length - 1) * 2) = ceC (rmS l i):=by
 have h1 : (ceC (l.take i)).length = i * 2:=by rw [ceC_len,List.length_take]; omega
 have h2 : (ceC (l.drop (i + 1))).length = (l.length - 1) * 2 - i * 2:=by rw [ceC_len,List.length_drop]; omega
 unfold splice rmS
 rw [ceC_take,← List.append_assoc,List.take_append_of_le_length (by rw [List.length_append,h1,h2]; omega),List.take_of_length_le (by rw [List.length_append,h1,h2]; omega),List.eraseIdx_eq_take_drop_succ,ceC_app]
set_option maxRecDepth 100000 in
set_option maxHeartbeats 4000000 in
theorem cremove_any {w : World} {X o : Nat} {T : TypeId} {xs : List Value} {v : Value} {l : List (Int × Int)} (a : Int) (hX : Bk w X T xs) (ho : xs[o]? = some v) (h : w.ownsRow 0 231 2 v l.length (ceC l)) (hs : Srt l) (hne : v.ownBlock ≠ some X) :
  Calls Tryz.prog 111 #[.pointer (some ⟨X,o,none⟩),.int .i64 a] w fun e w' =>
   (fdA l a = none ∧ e = .returned (.bool false) ∧ w' = w) ∨
   (∃ i,fdA l a = some i ∧ e = .returned (.bool true) ∧ ∃ v',Bk w' X T (xs.set o v') ∧ w'.ownsRow 0 231 2 v' (l.length - 1) (ceC (rmS l i)) ∧ v'.ownBlock = v.ownBlock ∧ Stp (X :: v.ownBlock.toList) w (X :: v.ownBlock.toList) w'):=by
 have hc:=hX.cell o ho
 have HF:=hide (cfind_any a hc h hs)
 have HR:=hide h
 have HX:=hide hX
 have HO:=hide ho
 cases hf : fdA l a with
 | none =>
  have e : fdI l a = -1:=by unfold fdI; rw [hf]
  rw [e] at HF
  clear h hs hf e hX ho hne
  go_enter Tryz.func111,Tryz.ntmps111
  go_wp2_with (go_at_call 149; refine (uh HF).mono ?_; rintro e w' ⟨rfl,rfl⟩)
  go_ret
  exact Or.inl ⟨trivial,rfl,rfl⟩
 | some i =>
  have e : fdI l a = (i : Int):=by unfold fdI; rw [hf]
  rw [e] at HF
  obtain ⟨hi,-⟩:=fdA_some hf
  obtain ⟨g,cap,rfl,hcn,hm,hgl⟩:=own_pos h (by omega)
  have hgX : X ≠ g:=fun e=>hne (by rw [e]; rfl)
  clear h hs hf e hX ho hne
  go_enter Tryz.func111,Tryz.ntmps111
  go_wp2_with (go_at_call 149; refine (uh HF).mono ?_; rintro e w' ⟨rfl,rfl⟩)
  have hwr : IntKind.i64.wrap ((i : Int) + 1) = (i : Int) + 1:=by rw [IntKind.wrap_i64]; omega
  have hp0 : (0 : Int) ≤ (i : Int) + 1:=by omega
  have hp1 : (i : Int) + 1 ≤ (l.length : Int):=by omega
  have hp2 : ((i : Int) + 1).toNat = i + 1:=by omega
  have hp3 : (i : Int) ≤ (l.length : Int):=by omega
  have hni : ¬ cap = i:=by omega
  obtain ⟨A,hA,HA⟩ : ∃ A : Addr,(if cap = i + 1 then some (⟨g,0,none⟩ : Addr) else some ⟨g,(i + 1) * 2,none⟩) = some A ∧ Hid (i + 1 < l.length → A = ⟨g,(i + 1) * 2,none⟩):=by
   by_cases h : cap = i + 1
   ·exact ⟨_,if_pos h,hide (fun h'=>by omega)⟩
   ·exact ⟨_,if_neg h,hide (fun _=>rfl)⟩
  have D1 : Hid ((ceC (l.drop (i + 1))).length = Nat.min (l.length - (i + 1)) (l.length - i) * 2):=hide (by
   rw [ceC_len,List.length_drop,show Nat.min (l.length - (i + 1)) (l.length - i) = l.length - (i + 1) from Nat.min_eq_left (by omega)])
  have D2 : Hid (0 < (ceC (l.drop (i + 1))).length → some (⟨g,i * 2,none⟩ : Addr) = some ⟨g,i * 2,none⟩ ∧ ∃ ad,some A = some ad ∧ ∀ j v,(ceC (l.drop (i + 1)))[j]? = some v → w'.cell? (ad.add j) = some v):=hide (fun hpos=>by
   rw [ceC_len,List.length_drop] at hpos
   refine ⟨rfl,_,rfl,fun j v hj=>?_⟩
   rw [uh HA (by omega),show (⟨g,(i + 1) * 2,none⟩ : Addr).add j = ⟨g,(i + 1) * 2 + j,none⟩ from addr_add _ _ _]
   have hjl:=(List.getElem?_eq_some_iff.1 hj).1
   rw [ceC_len,List.length_drop] at hjl
   rw [(uh HR).cellAt ((i + 1) * 2 + j) (by omega),← hj,← ceC_drop,List.getElem?_drop])
  have D3 : Hid (i * 2 + (ceC (l.drop (i + 1))).length ≤ l.length * 2):=hide (by rw [ceC_len,List.length_drop]; omega)
  have HRd : Hid (w'.drew.ownsRow 0 231 2 (.slice (some ⟨g,0,none⟩) l.length cap) l.length (ceC l)):=hide (uh HR)
  go_region_law (refine step_copyN rfl (.tmp 16) (.tmp 23) 165 165 rfl 231 2 (by decide) Tryz.underlying165 Tryz.sizeCell (some ⟨g,i * 2,none⟩) (some A) (l.length - i) (cap - i) (l.length - (i + 1)) (cap - (i + 1)) (by rfl) (by rfl) 0 231 g l.length cap _ (uh HRd) (i * 2) (ceC (l.drop (i + 1))) (uh D1) (uh D2) (uh D3) (ceC_one _) ?_; intro w4 hrow4 hst4)
  all_goals
   have hX4 : Bk w4 X T xs:=(uh HX).of_eq (hst4.block X (uh HX).lt (by simpa using hgX))
   have c4:=hX4.cell o (uh HO)
   have f4:=hX4.frz o
   have HX5:=hide (hX4.set o (.slice (some ⟨g,0,none⟩) (l.length - 1) cap))
   have HR4:=hide hrow4
   have HS4:=hide hst4
   have hq0 : IntKind.i64.wrap ((l.length : Int) - 1) = (l.length : Int) - 1:=by rw [IntKind.wrap_i64]; omega
   have hq1 : (0 : Int) ≤ (l.length : Int) - 1:=by omega
   have hq2 : (l.length : Int) - 1 ≤ (cap : Int):=by omega
   have hq3 : ((l.length : Int) - 1).toNat = l.length - 1:=by omega
   clear hrow4 hst4 hX4 hA hp0 hp1 hp2 hp3 hwr
   go_wp2_with fail
   go_region
   all_goals
    go_wp2_with fail
    go_ret
    refine Or.inr ⟨i,rfl,rfl,.slice (some ⟨g,0,none⟩) (l.length - 1) cap,uh HX5,?_,rfl,?_⟩
    ·rw [← ceC_rm hi]
     refine own_setO (p:=⟨X,o,none⟩) ?_ (by simpa [Value.ownBlock] using fun e=>hgX e.symm) _
     have h4:=uh HR4
     have hl4:=h4.1
     rcases h4.2 with ⟨h',_⟩ | ⟨g',cap',cur,h',hb,hg,hnc,hcm,hcs,htake⟩
     ·simp at h'
     ·simp only [Value.slice.injEq,Option.some.injEq,Addr.mk.injEq,and_true,true_and] at h'
      obtain ⟨rfl,rfl⟩:=h'
      refine ⟨by rw [List.length_take]; omega,.inr ⟨g,cap,cur,rfl,hb,hg,by omega,hcm,hcs,?_⟩⟩
      rw [← htake,List.take_take,Nat.min_eq_left (by omega)]
    ·exact ((Stp.refl _ _).drew.trans ((uh HS4).wide (by simp [Value.ownBlock]))).drew.setCell (p:=⟨X,o,none⟩) (Or.inl (List.mem_cons_self ..)) _
def wkA (lk : Int → Option Int) : Nat → List Int → Int → List Int
 | 0,V,_=>V
 | m + 1,V,a=>match lk a with
  | none=>V
  | some n=>if a ∈ V then V else wkA lk m (a :: V) n
def rchA (lk : Int → Option Int) (n : Nat) (V : List Int) (st : List Int) : List Int:=st.foldl (wkA lk (n + 1)) V
def lkA (l : List (Int × Int)) (a : Int) : Option Int:=(fdA l a).map (fun i=>(l.getD i (0,0)).2)
def seA (l : List (Int × Int)) (V : List Int) : List Bool:=l.map (fun c=>decide (c.1 ∈ V))
structure Met (l : List (Int × Int)) (V : List Int) : Prop where
 nd : V.Nodup
 sub : ∀ a ∈ V,a ∈ l.map (·.1)
theorem Met.le {l : List (Int × Int)} {V : List Int} (h : Met l V) : V.length ≤ l.length:=by
 have:=h.nd.length_le_of_subset h.sub
 simpa using this
theorem Met.nil (l : List (Int × Int)) : Met l []:=⟨List.nodup_nil,fun _ h=>by cases h⟩
theorem Met.cons {l : List (Int × Int)} {V : List Int} (h : Met l V) {a : Int} (ha : a ∉ V) (hm : a ∈ l.map (·.1)) : Met l (a :: V) :=
 ⟨List.nodup_cons.2 ⟨ha,h.nd⟩,fun b hb=>by rcases List.mem_cons.1 hb with rfl | hb; exact hm; exact h.sub b hb⟩
theorem seA_set {l : List (Int × Int)} (hs : Srt l) {V : List Int} {i : Nat} (hi : i < l.length) : (seA l V).set i true = seA l (l[i].1 :: V):=by
 apply List.ext_getElem
 ·simp [seA]
 ·intro j h1 h2
  simp only [seA,List.length_set,List.length_map] at h1 h2
  rw [List.getElem_set]
  by_cases e : i = j
  ·subst e; simp [seA]
  ·have hne : l[j].1 ≠ l[i].1:=by
    rcases Nat.lt_or_gt_of_ne e with h | h
    ·have:=List.pairwise_iff_getElem.1 hs i j hi h1 h; omega
    ·have:=List.pairwise_iff_getElem.1 hs j i h1 hi h; omega
   simp [seA,e,hne]
theorem fdA_mem {l : List (Int × Int)} {a : Int} {i : Nat} (h : fdA l a = some i) : a ∈ l.map (·.1):=by
 obtain ⟨hi,he⟩:=fdA_some h
 exact List.mem_map.2 ⟨l[i],List.getElem_mem hi,he⟩
theorem Tryz.infoBoolQ : (Tryz.prog.info? 4).map (fun i=>(i.zero,i.size,i.bytes)) = some (some (.bool false),1,1):=by kernel_rfl
theorem seA_len (l : List (Int × Int)) (V : List Int) : (seA l V).length = l.length:=by simp [seA]
theorem seA_nil (l : List (Int × Int)) : (seA l []).map Value.bool = List.replicate l.length (.bool false):=by
 apply List.ext_getElem
 ·simp [seA]
 ·intro j h1 h2; simp [seA]
theorem wkA_none {lk : Int → Option Int} {m : Nat} {V : List Int} {a : Int} (h : lk a = none) : wkA lk m V a = V:=by
 cases m with
 | zero=>rfl
 | succ m=>unfold wkA; rw [h]
theorem wkA_in {lk : Int → Option Int} {m : Nat} {V : List Int} {a n : Int} (h : lk a = some n) (hV : a ∈ V) : wkA lk m V a = V:=by
 cases m with
 | zero=>rfl
 | succ m=>unfold wkA; rw [h]; simp only; rw [if_pos hV]
theorem wkA_go {lk : Int → Option Int} {m : Nat} {V : List Int} {a n : Int} (h : lk a = some n) (hV : a ∉ V) : wkA lk (m + 1) V a = wkA lk m (a :: V) n:=by
 rw [wkA,h]; simp only; rw [if_neg hV]
theorem Met.lt {l : List (Int × Int)} {V : List Int} (h : Met l V) {a : Int} (ha : a ∉ V) (hm : a ∈ l.map (·.1)) : V.length < l.length:=by
 have:=(h.cons ha hm).le
 simp only [List.length_cons] at this
 omega
set_option maxRecDepth 100000 in
set_option maxHeartbeats 4000000 in
theorem creach_any {w : World} {X o : Nat} {v fv : Value} {l : List (Int × Int)} {st : List Int} (hc : w.cell? ⟨X,o,none⟩ = some v) (h : w.ownsRow 0 231 2 v l.length (ceC l)) (hs : Srt l) (hl : l.length ≤ 100000) (hst : w.ownsRow 0 3 1 fv st.length (st.map (Value.int .i64))) (hsl : st.length ≤ 4) :
  Calls Tryz.prog 148 #[.pointer (some ⟨X,o,none⟩),fv] w fun e w'=>e = .returned (.bool ((rchA (lkA l) l.length [] st).length == l.length)) ∧ Below w.heap.size w w':=by
 obtain ⟨i0,hi,hz0,hz1,hz2⟩:=info_parts (Tryz.infoBoolQ)
 have HR:=hide h
 have HS:=hide hs
 have HST:=hide hst
 obtain ⟨ao,cap,rfl,hm,hcn,hcell⟩:=ce_of_own h
 obtain ⟨fo,fcap,rfl,hfn,hfm⟩:=own_slc hst
 have HC:=hide hcell
 have HFd : Hid (∀ (a : Int) (w1 : World),Below w.heap.size w w1 → Calls Tryz.prog 149 #[.pointer (some ⟨X,o,none⟩),.int .i64 a] w1 fun e w'=>e = .returned (.int .i64 (fdI l a)) ∧ w' = w1):=hide (fun a w1 hb=>cfind_any a ((hb.cell (World.block_lt_of_cell? w _ hc)).trans hc) (own_bw h hb) hs)
 have hXl:=World.block_lt_of_cell? w _ hc
 clear hcell h hs hst
 go_enter Tryz.func148,Tryz.ntmps148
 go_wp2_with (at_make; refine wpList_make_full _ rfl _ _ 200 rfl w.heap.size 4 i0 (.bool false) 1 Tryz.underlying200 hi hz0 hz1 .i64 .i64 _ _ l.length rfl rfl rfl rfl ?b2 ?b3 ?b4 ?_)
 case b2=>omega
 case b3=>unfold maxLen; omega
 intro w1 hown1 hgrow1
 have hb1 : Below w.heap.size w w1:=(Below.refl _ _).grown hgrow1 (Nat.le_refl _) (fun k h=>by cases h)
 have hr1 : w1.ownsRow w.heap.size 4 1 (.slice (some ⟨w.heap.size,0,none⟩) l.length l.length) l.length ((seA l []).map Value.bool):=by
  rw [seA_nil]
  simpa [Value.cells,toList_madeCells_one] using hown1
 have HB1:=hide hb1
 have HR1:=hide hr1
 clear hown1 hgrow1 hb1 hr1
 go_wp2_with fail
 obtain ⟨N,hN⟩ : ∃ N,N = w.heap.size:=⟨_,rfl⟩
 rw [← hN] at HB1 HR1 hXl ⊢
 have HNe:=hide hN
 clear hN
 go_loopg [6,7] st.length (fun gn c k wr=>∃ (j : Nat) (V : List Int),j + gn = st.length ∧ k = .int .i64 j ∧ c = .int .i64 (V.length : Nat) ∧ Hid (rchA (lkA l) l.length V (st.drop j) = rchA (lkA l) l.length [] st) ∧ Hid (Met l V) ∧ Hid (wr.ownsRow N 4 1 (.slice (some ⟨N,0,none⟩) l.length l.length) l.length ((seA l V).map Value.bool)) ∧ Hid (Below N w wr))
 case atStart=>exact ⟨0,[],by omega,rfl,rfl,hide rfl,hide (Met.nil l),HR1,HB1⟩
 case round =>
  obtain ⟨j,V,hj,rfl,rfl,hE,hM,hrow,hbw⟩:=hrel
  have hVl:=(uh hM).le
  by_cases hlt : j < st.length
  ·have hd : decide ((j : Int) < (st.length : Int)) = true:=by simp; omega
   obtain ⟨fg,fcap',hfe,-,-,hfgl⟩:=own_pos (uh HST) (by omega)
   cases hfe
   have y1:=(uh HST).cellAt j (by omega)
   rw [List.getElem?_map,List.getElem?_eq_getElem hlt] at y1
   have x1:=((uh hbw).cell (p:=⟨fg,j,none⟩) (by rw [uh HNe]; exact hfgl)).trans y1
   simp only [Option.map_some] at x1
   have HEs : Hid (rchA (lkA l) l.length V (st.drop j) = rchA (lkA l) l.length (wkA (lkA l) (l.length + 1) V st[j]) (st.drop (j + 1))):=hide (by
    rw [List.drop_eq_getElem_cons hlt]; rfl)
   generalize st[j] = a at *
   have HF1:=hide (uh HFd a wr (by rw [← uh HNe]; exact uh hbw))
   clear y1
   go_wp2_with fail
   refine (uh HF1).mono ?_
   rintro e w2 ⟨rfl,rfl⟩
   go_wp2_with fail
   go_loopw [6,8] (fun c i wr=>∃ (V' : List Int) (b : Int) (m : Nat),l.length < m + V'.length ∧ c = .int .i64 (V'.length : Nat) ∧ i = .int .i64 (fdI l b) ∧ Hid (wkA (lkA l) m V' b = wkA (lkA l) (l.length + 1) V a) ∧ Hid (Met l V') ∧ Hid (wr.ownsRow N 4 1 (.slice (some ⟨N,0,none⟩) l.length l.length) l.length ((seA l V').map Value.bool)) ∧ Hid (Below N w wr)) (fun c _ _=>l.length - (intOf c).toNat)
   case atStart=>exact ⟨V,a,l.length + 1,by omega,rfl,rfl,hide rfl,hM,hrow,hbw⟩
   case round =>
    clear hM hrow hbw hVl x1 HF1
    obtain ⟨V',b,m,hm',rfl,rfl,hW,hM,hrow,hbw⟩:=hrel
    have hVl:=(uh hM).le
    cases hf : fdA l b with
    | none =>
     have ei : fdI l b = -1:=by unfold fdI; rw [hf]
     have hW2 : wkA (lkA l) (l.length + 1) V a = V':=by
      rw [← uh hW]; exact wkA_none (by unfold lkA; rw [hf]; rfl)
     rw [ei]
     have HW2:=hide hW2
     clear hf ei hW2
     go_wp2_with fail
     go_roundg (gk - 1)
     case rel=>exact ⟨j + 1,V',by omega,by go_num,rfl,hide (by rw [← uh HW2,← uh HEs]; exact uh hE),hM,hrow,hbw⟩
     case measure=>omega
    | some i =>
     have ei : fdI l b = (i : Int):=by unfold fdI; rw [hf]
     obtain ⟨hil,hib⟩:=fdA_some hf
     have hlk : lkA l b = some l[i].2:=by unfold lkA; rw [hf]; simp [hil]
     have hcs:=(uh hrow).cellAt i (by omega)
     rw [List.getElem?_map,List.getElem?_eq_getElem (by rw [seA_len]; exact hil)] at hcs
     have hse : (seA l V')[i]'(by rw [seA_len]; exact hil) = decide (b ∈ V'):=by simp [seA,hib]
     simp only [Option.map_some,hse] at hcs
     have hfz:=(uh hrow).frozenAt i
     rw [ei]
     by_cases hin : b ∈ V'
     ·have hW2 : wkA (lkA l) (l.length + 1) V a = V':=by rw [← uh hW]; exact wkA_in hlk hin
      rw [decide_eq_true hin] at hcs
      have HW2:=hide hW2
      clear hf ei hW2 hse hin hlk
      go_wp2_with fail
      go_roundg (gk - 1)
      case rel=>exact ⟨j + 1,V',by omega,by go_num,rfl,hide (by rw [← uh HW2,← uh HEs]; exact uh hE),hM,hrow,hbw⟩
      case measure=>omega
     ·have hlt2:=(uh hM).lt hin (fdA_mem hf)
      obtain ⟨m,rfl⟩ : ∃ m',m = m' + 1:=⟨m - 1,by omega⟩
      have HW2 : Hid (wkA (lkA l) m (b :: V') l[i].2 = wkA (lkA l) (l.length + 1) V a):=hide (by rw [← uh hW,wkA_go hlk hin])
      have HM2:=hide ((uh hM).cons hin (fdA_mem hf))
      rw [decide_eq_false hin] at hcs
      have hr2:=((uh hrow).stored i (.bool true)).1
      have hse2 : ((seA l V').map Value.bool).set i (.bool true) = (seA l (b :: V')).map Value.bool:=by rw [← hib,← seA_set (uh HS) hil,List.map_set]
      rw [hse2] at hr2
      have HR2:=hide hr2
      have hb2:=(uh hbw).setCell (p:=⟨N,i,none⟩) (Nat.le_refl _) (.bool true)
      obtain ⟨g,hao,hgl,hcell⟩:=uh HC (by intro h; rw [h] at hil; simp at hil)
      subst hao
      have y2:=(hcell i hil).2
      have hgN : g < N:=by rw [uh HNe]; exact hgl
      have x0:=(hb2.cell (p:=⟨X,o,none⟩) hXl).trans hc
      have x2:=(hb2.cell (p:=⟨g,i * 2 + 1,none⟩) hgN).trans y2
      generalize l[i].2 = nx at *
      have HF2:=hide (uh HFd nx (wr.setCell ⟨N,i,none⟩ (.bool true)) (by rw [← uh HNe]; exact hb2))
      have HB2:=hide hb2
      clear hf ei hse hin hlk hr2 hse2 hb2 hcell y2 hib hrow hbw hM
      go_wp2_with fail
      refine (uh HF2).mono ?_
      rintro e w3 ⟨rfl,rfl⟩
      go_wp2_with fail
      go_roundw
      case rel=>exact ⟨b :: V',nx,m,by simp only [List.length_cons]; omega,by simp only [List.length_cons]; go_num,rfl,HW2,HM2,HR2,HB2⟩
      case measure=>simp [intOf]; omega
  ·have hd : decide ((j : Int) < (st.length : Int)) = false:=by simp; omega
   have hjl : j = st.length:=by omega
   have hfin : rchA (lkA l) l.length [] st = V:=by rw [← uh hE,hjl,List.drop_length]; rfl
   have HFin:=hide hfin
   have x0:=((uh hbw).cell (p:=⟨X,o,none⟩) hXl).trans hc
   clear hfin hjl
   go_wp2_with fail
   go_ret
   exact ⟨ret_bool (by rw [uh HFin,Bool.eq_iff_iff]; simp only [beq_iff_eq]; omega),by rw [← uh HNe]; exact uh hbw⟩
end Go.Proofs.YtciihepbeacppaaGreat
