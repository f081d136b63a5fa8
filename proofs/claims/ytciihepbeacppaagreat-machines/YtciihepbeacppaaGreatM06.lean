import Derived.Test.YtciihepbeacppaaGreatM02
import Derived.Test.YtciihepbeacppaaGreatWX
import Derived.BigQuiet
import Derived.Deep.QuietTactic
import Derived.Deep.RegionWith
import Derived.Deep.Cut
import Derived.Deep.CutRange
import Derived.Deep.DeepCutAuto
import Derived.Deep.RegionHeld3
namespace Go.Proofs.YtciihepbeacppaaGreat
open Go.RowKit
theorem below_drewQ (w : World) (n : Nat) : Below w.heap.size w (w.drewN n):=⟨rfl,rfl,rfl,Nat.le_refl _,fun _ _=>rfl⟩
structure MS where
 nd : Nat
 wh : Nat
 st : List Int
 cs : List (Int × Int)
def ptrA (A : Nat) : Value:=.pointer (some ⟨A,0,none⟩)
def inV (l : List Int) : List Value:=l.map (Value.int .i64)
theorem inV_get {l : List Int} {k : Nat} (h : k < l.length) : (inV l)[k]? = some (.int .i64 (l.getD k 0)):=by simp [inV,h]
structure Cp (w : World) (Q : Nat) (ws : List ByteArray) (s : PS) (al : List Atm) (vv pv nv : Value) : Prop where
 bk : Bk w Q 105 [.string ⟨(jn ws).toArray⟩,vv,pv,nv]
 vr : w.ownsRow 0 5 1 vv s.vars.length (bc s.vars)
 pr : w.ownsRow 0 239 5 pv al.length (atCells al)
 nr : w.ownsRow 0 186 6 nv s.nodes.length (ndCells s.nodes)
def cpB (Q : Nat) (vv pv nv : Value) : List Nat:=Q :: (vv.ownBlock.toList ++ (pv.ownBlock.toList ++ nv.ownBlock.toList))
section
variable {w w' : World} {Q : Nat} {ws : List ByteArray} {s : PS} {al : List Atm} {vv pv nv : Value}
theorem Cp.of_eq (h : Cp w Q ws s al vv pv nv) (he : ∀ k ∈ cpB Q vv pv nv,w'.heap[k]? = w.heap[k]?) : Cp w' Q ws s al vv pv nv :=
 ⟨h.bk.of_eq (he Q (by simp [cpB])),ownsRow_of_eq h.vr (fun k hk=>he k (by simp [cpB,hk])),ownsRow_of_eq h.pr (fun k hk=>he k (by simp [cpB,hk])),ownsRow_of_eq h.nr (fun k hk=>he k (by simp [cpB,hk]))⟩
theorem Cp.lt (h : Cp w Q ws s al vv pv nv) : ∀ k ∈ cpB Q vv pv nv,k < w.heap.size:=by
 intro k hk
 simp only [cpB,List.mem_cons,List.mem_append,Option.mem_toList] at hk
 rcases hk with rfl | hk | hk | hk
 ·exact h.bk.lt
 ·exact (h.vr.lt k hk).2
 ·exact (h.pr.lt k hk).2
 ·exact (h.nr.lt k hk).2
theorem Cp.below (h : Cp w Q ws s al vv pv nv) (hb : Below w.heap.size w w') : Cp w' Q ws s al vv pv nv:=h.of_eq (fun k hk=>hb.block k (h.lt k hk))
theorem Cp.stp {F F' : List Nat} (h : Cp w Q ws s al vv pv nv) (hs : Stp F w F' w') (hd : ∀ k ∈ cpB Q vv pv nv,k ∉ F) : Cp w' Q ws s al vv pv nv:=h.of_eq (fun k hk=>hs.block k (h.lt k hk) (hd k hk))
end
theorem IsC.cp {B : Nat} {w : World} {Q : Nat} {ws : List ByteArray} {s : PS} {al : List Atm} (h : IsC B w Q ws s al) : ∃ vv pv nv,Cp w Q ws s al vv pv nv ∧ ∀ k ∈ cpB Q vv pv nv,B ≤ k:=by
 obtain ⟨vv,pv,nv,h0,hB,h1,h2,h3⟩:=h
 refine ⟨vv,pv,nv,⟨h0,own_le h1 (Nat.zero_le _),own_le h2 (Nat.zero_le _),own_le h3 (Nat.zero_le _)⟩,fun k hk=>?_⟩
 simp only [cpB,List.mem_cons,List.mem_append,Option.mem_toList] at hk
 rcases hk with rfl | hk | hk | hk
 ·exact hB
 ·exact (h1.lt k hk).1
 ·exact (h2.lt k hk).1
 ·exact (h3.lt k hk).1
def mFp (R : Nat) (sv cv : Value) : List Nat:=R :: (sv.ownBlock.toList ++ cv.ownBlock.toList)
structure Mc (w : World) (R Q : Nat) (ws : List ByteArray) (s : PS) (al : List Atm) (m : MS) (vv pv nv sv cv : Value) : Prop where
 bk : Bk w R 169 [ptrA Q,.int .i64 (m.nd : Int),.int .i64 (m.wh : Int),sv,cv]
 st : w.ownsRow 0 3 1 sv m.st.length (inV m.st)
 cs : w.ownsRow 0 231 2 cv m.cs.length (ceC m.cs)
 srt : Srt m.cs
 nd : (mFp R sv cv).Nodup
 cp : Cp w Q ws s al vv pv nv
 dc : ∀ k ∈ cpB Q vv pv nv,k ∉ mFp R sv cv
 ls : m.st.length ≤ 4
section
variable {w w' : World} {R Q : Nat} {ws : List ByteArray} {s : PS} {al : List Atm} {m : MS} {vv pv nv sv cv : Value}
theorem Mc.nds (h : Mc w R Q ws s al m vv pv nv sv cv) : sv.ownBlock ≠ some R ∧ cv.ownBlock ≠ some R ∧ ∀ k,sv.ownBlock = some k → cv.ownBlock ≠ some k:=by
 have:=h.nd
 unfold mFp at this
 rw [List.nodup_cons,List.nodup_append] at this
 obtain ⟨h1,-,-,h4⟩:=this
 simp only [List.mem_append,Option.mem_toList,not_or] at h1
 exact ⟨h1.1,h1.2,fun k hk hc=>h4 k (by simpa using hk) k (by simpa using hc) rfl⟩
theorem Mc.lt (h : Mc w R Q ws s al m vv pv nv sv cv) : ∀ k ∈ mFp R sv cv,k < w.heap.size:=by
 intro k hk
 simp only [mFp,List.mem_cons,List.mem_append,Option.mem_toList] at hk
 rcases hk with rfl | hk | hk
 ·exact h.bk.lt
 ·exact (h.st.lt k hk).2
 ·exact (h.cs.lt k hk).2
theorem Mc.of_eq (h : Mc w R Q ws s al m vv pv nv sv cv) (he : ∀ k,k ∈ mFp R sv cv ∨ k ∈ cpB Q vv pv nv → w'.heap[k]? = w.heap[k]?) : Mc w' R Q ws s al m vv pv nv sv cv :=
 ⟨h.bk.of_eq (he R (Or.inl (by simp [mFp]))),ownsRow_of_eq h.st (fun k hk=>he k (Or.inl (by simp [mFp,hk]))),ownsRow_of_eq h.cs (fun k hk=>he k (Or.inl (by simp [mFp,hk]))),h.srt,h.nd,h.cp.of_eq (fun k hk=>he k (Or.inr hk)),h.dc,h.ls⟩
theorem Mc.below (h : Mc w R Q ws s al m vv pv nv sv cv) (hb : Below w.heap.size w w') : Mc w' R Q ws s al m vv pv nv sv cv:=h.of_eq (fun k hk=>hb.block k (by rcases hk with hk | hk; exact h.lt k hk; exact h.cp.lt k hk))
theorem Mc.c0 (h : Mc w R Q ws s al m vv pv nv sv cv) : w.cell? ⟨R,0,none⟩ = some (.pointer (some ⟨Q,0,none⟩)):=h.bk.cell 0 rfl
theorem Mc.c1 (h : Mc w R Q ws s al m vv pv nv sv cv) : w.cell? ⟨R,1,none⟩ = some (.int .i64 (m.nd : Int)):=h.bk.cell 1 rfl
theorem Mc.c2 (h : Mc w R Q ws s al m vv pv nv sv cv) : w.cell? ⟨R,2,none⟩ = some (.int .i64 (m.wh : Int)):=h.bk.cell 2 rfl
theorem Mc.c3 (h : Mc w R Q ws s al m vv pv nv sv cv) : w.cell? ⟨R,3,none⟩ = some sv:=h.bk.cell 3 rfl
theorem Mc.c4 (h : Mc w R Q ws s al m vv pv nv sv cv) : w.cell? ⟨R,4,none⟩ = some cv:=h.bk.cell 4 rfl
theorem Mc.setR (h : Mc w R Q ws s al m vv pv nv sv cv) (j : Nat) (u : Value) (m' : MS) (he : [ptrA Q,.int .i64 (m.nd : Int),.int .i64 (m.wh : Int),sv,cv].set j u = [ptrA Q,.int .i64 (m'.nd : Int),.int .i64 (m'.wh : Int),sv,cv]) (h1 : m'.st = m.st) (h2 : m'.cs = m.cs) :
  Mc (w.setCell ⟨R,j,none⟩ u) R Q ws s al m' vv pv nv sv cv:=by
 have hb:=h.bk.set j u
 rw [he] at hb
 obtain ⟨n1,n2,n3⟩:=h.nds
 have ho : ∀ k,k ≠ R → (w.setCell ⟨R,j,none⟩ u).heap[k]? = w.heap[k]?:=fun k hk=>Below.heap_setCell _ _ _ _ (fun e=>hk e)
 refine ⟨hb,?_,?_,by rw [h2]; exact h.srt,h.nd,?_,h.dc,by rw [h1]; exact h.ls⟩
 ·rw [h1]; exact ownsRow_of_eq h.st (fun k hk=>ho k (by rintro rfl; exact n1 hk))
 ·rw [h2]; exact ownsRow_of_eq h.cs (fun k hk=>ho k (by rintro rfl; exact n2 hk))
 ·exact h.cp.of_eq (fun k hk=>ho k (by rintro rfl; exact h.dc _ hk (by simp [mFp])))
theorem Mc.setNode (h : Mc w R Q ws s al m vv pv nv sv cv) (n : Nat) : Mc (w.setCell ⟨R,1,none⟩ (.int .i64 (n : Int))) R Q ws s al { m with nd:=n } vv pv nv sv cv:=h.setR 1 _ _ rfl rfl rfl
theorem Mc.setWhat (h : Mc w R Q ws s al m vv pv nv sv cv) (n : Nat) : Mc (w.setCell ⟨R,2,none⟩ (.int .i64 (n : Int))) R Q ws s al { m with wh:=n } vv pv nv sv cv:=h.setR 2 _ _ rfl rfl rfl
theorem Mc.setVar (h : Mc w R Q ws s al m vv pv nv sv cv) {g n cap : Nat} (hs : sv = .slice (some ⟨g,0,none⟩) n cap) (v : Nat) (x : Int) : Mc (w.setCell ⟨g,v,none⟩ (.int .i64 x)) R Q ws s al { m with st:=m.st.set v x } vv pv nv sv cv:=by
 obtain ⟨n1,n2,n3⟩:=h.nds
 have hg : sv.ownBlock = some g:=by rw [hs]; rfl
 have ho : ∀ k,k ≠ g → (w.setCell ⟨g,v,none⟩ (.int .i64 x)).heap[k]? = w.heap[k]?:=fun k hk=>Below.heap_setCell _ _ _ _ (fun e=>hk e)
 have hr : (w.setCell ⟨g,v,none⟩ (.int .i64 x)).ownsRow 0 3 1 sv (m.st.set v x).length (inV (m.st.set v x)):=by
  have h1:=h.st
  have hn : n = m.st.length:=by
   obtain ⟨_,_,e,_⟩:=own_slc h1
   rw [hs] at e; cases e; rfl
  rw [hs,hn] at h1 ⊢
  have h2:=(h1.stored v (.int .i64 x)).1
  rw [List.length_set]
  rw [show (inV m.st).set v (.int .i64 x) = inV (m.st.set v x) by simp [inV,List.map_set]] at h2
  exact h2
 exact ⟨h.bk.of_eq (ho R (by rintro rfl; exact n1 hg)),hr,ownsRow_of_eq h.cs (fun k hk=>ho k (by rintro rfl; exact n3 _ hg hk)),h.srt,h.nd,h.cp.of_eq (fun k hk=>ho k (by rintro rfl; exact h.dc _ hk (by simp [mFp,hg]))),h.dc,by simpa using h.ls⟩
theorem Mc.cells (h : Mc w R Q ws s al m vv pv nv sv cv) {cv' : Value} {cs' : List (Int × Int)} {n : Nat} (hb : Bk w' R 169 ([ptrA Q,.int .i64 (m.nd : Int),.int .i64 (m.wh : Int),sv,cv].set 4 cv')) (hr : w'.ownsRow 0 231 2 cv' n (ceC cs')) (hn : n = cs'.length) (hs : Srt cs') (hne : cv'.ownBlock ≠ some R)
  (hst : Stp (R :: cv.ownBlock.toList) w (R :: cv'.ownBlock.toList) w') : Mc w' R Q ws s al { m with cs:=cs' } vv pv nv sv cv' ∧ Stp (mFp R sv cv) w (mFp R sv cv') w':=by
 subst hn
 obtain ⟨n1,n2,n3⟩:=h.nds
 have hf : ∀ k,cv'.ownBlock = some k → cv.ownBlock = some k ∨ w.heap.size ≤ k:=by
  intro k hk
  rcases hst.foot k (by simp [hk]) with h1 | h1
  ·rcases List.mem_cons.1 h1 with rfl | h1
   ·exact absurd hk hne
   ·exact Or.inl (by simpa using h1)
  ·exact Or.inr h1
 have hsk : ∀ k,sv.ownBlock = some k → k ∉ R :: cv.ownBlock.toList:=by
  intro k hk hm
  rcases List.mem_cons.1 hm with rfl | hm
  ·exact n1 hk
  ·exact n3 k hk (by simpa using hm)
 have hck : ∀ k ∈ cpB Q vv pv nv,k ∉ R :: cv.ownBlock.toList:=by
  intro k hk hm
  refine h.dc k hk ?_
  rcases List.mem_cons.1 hm with rfl | hm
  ·simp [mFp]
  ·simp only [mFp,List.mem_cons,List.mem_append]; exact Or.inr (Or.inr hm)
 refine ⟨⟨hb,ownsRow_of_eq h.st (fun k hk=>hst.block k (h.st.lt k hk).2 (hsk k hk)),hr,hs,?_,h.cp.stp hst hck,?_,h.ls⟩,?_⟩
 ·unfold mFp
  rw [List.nodup_cons,List.nodup_append]
  refine ⟨?_,?_,?_,?_⟩
  ·simp only [List.mem_append,Option.mem_toList,not_or]; exact ⟨n1,hne⟩
  ·cases sv.ownBlock <;> simp
  ·cases cv'.ownBlock <;> simp
  ·intro a ha b hb' e
   subst e
   rw [Option.mem_toList] at ha hb'
   rcases hf a hb' with h1 | h1
   ·exact n3 a ha h1
   ·have:=(h.st.lt a ha).2; omega
 ·intro k hk hm
  simp only [mFp,List.mem_cons,List.mem_append,Option.mem_toList] at hm
  rcases hm with rfl | hm | hm
  ·exact h.dc _ hk (by simp [mFp])
  ·exact h.dc k hk (by simp [mFp,hm])
  ·rcases hf k hm with h1 | h1
   ·exact h.dc k hk (by simp [mFp,h1])
   ·have:=h.cp.lt k hk; omega
 ·refine (hst.wide (G:=mFp R sv cv) ?_).foots ?_
  ·intro k hk
   rcases List.mem_cons.1 hk with rfl | hk
   ·simp [mFp]
   ·simp only [mFp,List.mem_cons,List.mem_append]; exact Or.inr (Or.inr hk)
  ·intro k hk
   simp only [mFp,List.mem_cons,List.mem_append,Option.mem_toList] at hk ⊢
   rcases hk with rfl | hk | hk
   ·exact Or.inl (Or.inl rfl)
   ·exact Or.inl (Or.inr (Or.inl hk))
   ·rcases hf k hk with h1 | h1
    ·exact Or.inl (Or.inr (Or.inr h1))
    ·exact Or.inr h1
theorem Mc.linked (h : Mc w R Q ws s al m vv pv nv sv cv) {cs' : List (Int × Int)} (hr : w'.ownsRow 0 231 2 cv m.cs.length (ceC cs')) (hn : cs'.length = m.cs.length) (hs : Srt cs') (hst : Stp cv.ownBlock.toList w cv.ownBlock.toList w') : Mc w' R Q ws s al { m with cs:=cs' } vv pv nv sv cv ∧ Stp (mFp R sv cv) w (mFp R sv cv) w':=by
 refine h.cells (cv':=cv) ?_ hr hn.symm hs h.nds.2.1 (hst.wide (by intro k hk; exact List.mem_cons_of_mem _ hk))
 exact h.bk.of_eq (hst.block R h.bk.lt (by simpa using fun e=>h.nds.2.1 e))
end
def ndA (nds : List Nd) (n : Nat) : Nd:=nds.getD n ⟨0,0,0,0,0,0⟩
theorem nd_get {l : List Nd} {k : Nat} (h : k < l.length) : ∀ j,j < 6 → (ndCells l)[k * 6 + j]? = l[k].cells[j]?:=by
 induction l generalizing k with
 | nil=>simp at h
 | cons x l ih =>
  have hx : ndCells (x :: l) = x.cells ++ ndCells l:=rfl
  have hl : x.cells.length = 6:=rfl
  intro j hj
  cases k with
  | zero=>rw [hx,List.getElem?_append_left (by omega)]; simp
  | succ k =>
   rw [hx,List.getElem?_append_right (by omega),hl,show (k + 1) * 6 + j - 6 = k * 6 + j by omega,ih (by simpa using h) j hj]
   rfl
set_option maxRecDepth 100000 in
set_option maxHeartbeats 1000000 in
theorem at_any {w : World} {Q : Nat} {ws : List ByteArray} {s : PS} {al : List Atm} {vv pv nv : Value} (n : Nat) (h : Cp w Q ws s al vv pv nv) (hl : s.nodes.length ≤ 100000) :
  Calls Tryz.prog 103 #[.pointer (some ⟨Q,0,none⟩),.int .i64 n] w fun e w'=>e = .returned (.agg (ndA s.nodes n).cells.toArray) ∧ Below w.heap.size w w':=by
 have c3:=h.bk.cell 3 rfl
 have hQ:=h.bk.lt
 have hb:=below_boxQ w (.cells #[Value.int .i64 0,.int .i64 0,.int .i64 0,.int .i64 0,.int .i64 0,.int .i64 0] 186)
 have d3:=(hb.cell (World.block_lt_of_cell? w _ c3)).trans c3
 by_cases hn : n < s.nodes.length
 ·obtain ⟨g,cap,rfl,hcn,hm,hgl⟩:=own_pos h.nr (by omega)
  have hg:=nd_get hn
  have x : ∀ j,j < 6 → w.cell? ⟨g,n * 6 + j,none⟩ = s.nodes[n].cells[j]?:=fun j hj=>(h.nr.cellAt (n * 6 + j) (by omega)).trans (hg j hj)
  have x' : ∀ j,j < 6 → (w.alloc (.cells #[Value.int .i64 0,.int .i64 0,.int .i64 0,.int .i64 0,.int .i64 0,.int .i64 0] 186)).cell? ⟨g,n * 6 + j,none⟩ = s.nodes[n].cells[j]?:=fun j hj=>(hb.cell (p:=⟨g,n * 6 + j,none⟩) hgl).trans (x j hj)
  have HE : Hid (ndA s.nodes n = s.nodes[n]):=hide (by simp [ndA,hn])
  generalize s.nodes[n] = nd at *
  obtain ⟨op,v,ak,ai,nx,ot⟩:=nd
  have x0:=x' 0 (by omega)
  have x1:=x' 1 (by omega)
  have x2:=x' 2 (by omega)
  have x3:=x' 3 (by omega)
  have x4:=x' 4 (by omega)
  have x5:=x' 5 (by omega)
  simp only [Nd.cells,List.getElem?_cons_zero,List.getElem?_cons_succ,Nat.add_zero] at x0 x1 x2 x3 x4 x5
  clear x x' hg h c3 hb
  go_enter Tryz.func103,Tryz.ntmps103
  go_wp2_with fail
  refine bodyPost_ret (v:=.agg #[.int .i64 op,.int .i64 v,.int .i64 ak,.int .i64 ai,.int .i64 nx,.int .i64 ot]) (by simp [results,Tryz.results103,go_sem]) rfl ⟨?_,?_⟩
  ·rw [uh HE]; rfl
  ·exact below_boxQ _ _
 ·obtain ⟨ao,cap,rfl,hcn,hm⟩:=own_slc h.nr
  have HE : Hid (ndA s.nodes n = ⟨0,0,0,0,0,0⟩):=hide (by unfold ndA; simp [List.getD,List.getElem?_eq_none (Nat.le_of_not_lt hn)])
  have hge : (s.nodes.length : Int) ≤ (n : Int):=by omega
  clear h c3 hb
  go_enter Tryz.func103,Tryz.ntmps103
  go_wp2_with fail
  refine bodyPost_ret (v:=.agg #[.int .i64 0,.int .i64 0,.int .i64 0,.int .i64 0,.int .i64 0,.int .i64 0]) (by simp [results,Tryz.results103,go_sem]) rfl ⟨?_,?_⟩
  ·rw [uh HE]; rfl
  ·exact below_boxQ _ _
section
variable {w : World} {R Q : Nat} {ws : List ByteArray} {s : PS} {al : List Atm} {m : MS} {vv pv nv sv cv : Value}
set_option maxRecDepth 100000 in
set_option maxHeartbeats 1000000 in
theorem mvar_any (h : Mc w R Q ws s al m vv pv nv sv cv) (v : Nat) :
  Calls Tryz.prog 104 #[.pointer (some ⟨R,0,none⟩),.int .i64 v] w fun e w'=>e = .returned (.int .i64 (m.st.getD v 0)) ∧ ∃ n,w' = w.drewN n:=by
 have c3:=h.c3
 by_cases hv : v < m.st.length
 ·obtain ⟨g,cap,rfl,hcn,hm,hgl⟩:=own_pos h.st (by omega)
  have x:=(h.st.cellAt v (by omega)).trans (inV_get hv)
  generalize m.st.getD v 0 = y at *
  clear h
  go_enter Tryz.func104,Tryz.ntmps104
  go_wp2_with fail
  go_ret
  exact ⟨rfl,0,rfl⟩
 ·obtain ⟨ao,cap,rfl,hcn,hm⟩:=own_slc h.st
  have e : m.st.getD v 0 = 0:=by simp [List.getD,List.getElem?_eq_none (Nat.le_of_not_lt hv)]
  have hge : (m.st.length : Int) ≤ (v : Int):=by omega
  rw [e]
  clear h e
  go_enter Tryz.func104,Tryz.ntmps104
  go_wp2_with fail
  go_ret
  exact ⟨rfl,0,rfl⟩
def tmV (st : List Int) (k i : Nat) : Int:=if k = 0 then 0 else st.getD i 0
set_option maxRecDepth 100000 in
set_option maxHeartbeats 1000000 in
theorem mval_any (h : Mc w R Q ws s al m vv pv nv sv cv) (k i : Nat) :
  Calls Tryz.prog 105 #[.pointer (some ⟨R,0,none⟩),.agg #[.int .i64 k,.int .i64 i]] w fun e w'=>e = .returned (.int .i64 (tmV m.st k i)) ∧ Below w.heap.size w w':=by
 have hb:=below_boxQ w (.cells #[Value.int .i64 k,.int .i64 i] 184)
 have HB:=hide hb
 have HV:=hide (mvar_any (h.below hb) i)
 by_cases hk : k = 0
 ·subst hk
  have e : tmV m.st 0 i = 0:=rfl
  rw [e]
  clear h hb e
  go_enter Tryz.func105,Tryz.ntmps105
  go_wp2_with fail
  go_ret
  exact ⟨rfl,uh HB⟩
 ·have e : tmV m.st k i = m.st.getD i 0:=if_neg hk
  have hk0 : ((k : Int) == 0) = false:=by simpa using hk
  rw [e]
  clear h hb e
  go_enter Tryz.func105,Tryz.ntmps105
  go_wp2_with (go_at_call 104; refine (uh HV).mono ?_; rintro e w' ⟨rfl,n,rfl⟩)
  go_ret
  exact ⟨rfl,(uh HB).trans ((below_drewQ _ _).mono (uh HB).size)⟩
set_option maxRecDepth 100000 in
set_option maxHeartbeats 1000000 in
theorem mset_any (h : Mc w R Q ws s al m vv pv nv sv cv) (v : Nat) (x : Int) :
  Calls Tryz.prog 106 #[.pointer (some ⟨R,0,none⟩),.int .i64 v,.int .i64 x] w fun e w'=>e = .returned (.tuple #[]) ∧ Mc w' R Q ws s al { m with st:=m.st.set v x } vv pv nv sv cv ∧ Stp (mFp R sv cv) w (mFp R sv cv) w':=by
 have c3:=h.c3
 have H:=hide h
 by_cases hv : v < m.st.length
 ·obtain ⟨g,cap,hs,hcn,hm,hgl⟩:=own_pos h.st (by omega)
  have HS:=hide hs
  have hrow:=h.st
  rw [hs] at c3 hrow
  have y:=(hrow.cellAt v (by omega)).trans (inV_get hv)
  have z:=hrow.frozenAt v
  generalize m.st.getD v 0 = y0 at y
  clear h hs hrow
  go_enter Tryz.func106,Tryz.ntmps106
  go_wp2_with fail
  go_end0
  refine ⟨rfl,(uh H).setVar (uh HS) v x,(Stp.refl _ _).setCell (Or.inl ?_) _⟩
  rw [uh HS]; simp [mFp,Value.ownBlock]
 ·obtain ⟨ao,cap,hs,hcn,hm⟩:=own_slc h.st
  rw [hs] at c3
  have hge : (m.st.length : Int) ≤ (v : Int):=by omega
  have HE : Hid (m.st.set v x = m.st):=hide (List.set_eq_of_length_le (by omega))
  clear h hs
  go_enter Tryz.func106,Tryz.ntmps106
  go_wp2_with fail
  go_end0
  exact ⟨rfl,by rw [uh HE]; exact uh H,Stp.refl _ _⟩
end
def doneB (m : MS) : Bool:=(rchA (lkA m.cs) m.cs.length [] m.st).length == m.cs.length
def enS (nds : List Nd) (m : MS) (n : Nat) : MS:=if (ndA nds n).op = 0 then { m with nd:=n,wh:=if doneB m then 1 else 2 } else { m with nd:=n }
section
variable {w w' : World} {R Q : Nat} {ws : List ByteArray} {s : PS} {al : List Atm} {m : MS} {vv pv nv sv cv : Value}
theorem Mc.memR : R ∈ mFp R sv cv:=by simp [mFp]
set_option maxRecDepth 100000 in
set_option maxHeartbeats 2000000 in
theorem men_any (h : Mc w R Q ws s al m vv pv nv sv cv) (n : Nat) (hl : s.nodes.length ≤ 100000) (hc : m.cs.length ≤ 100000) :
  Calls Tryz.prog 98 #[.pointer (some ⟨R,0,none⟩),.int .i64 n] w fun e w'=>e = .returned (.tuple #[]) ∧ Mc w' R Q ws s al (enS s.nodes m n) vv pv nv sv cv ∧ Stp (mFp R sv cv) w (mFp R sv cv) w':=by
 have c1:=h.c1
 have f1:=h.bk.frz 1
 have h1:=h.setNode n
 have HS1 : Hid (Stp (mFp R sv cv) w (mFp R sv cv) (w.setCell ⟨R,1,none⟩ (.int .i64 (n : Int)))):=hide ((Stp.refl (mFp R sv cv) w).setCell (p:=⟨R,1,none⟩) (Or.inl Mc.memR) _)
 have H1:=hide h1
 have d0:=h1.c0
 clear h h1
 go_enter Tryz.func98,Tryz.ntmps98
 go_wp2_with fail
 obtain ⟨w1,hw1⟩ : ∃ w1,w1 = w.setCell ⟨R,1,none⟩ (.int .i64 (n : Int)):=⟨_,rfl⟩
 rw [← hw1] at HS1 H1 d0 ⊢
 clear hw1 c1 f1
 refine (at_any n (uh H1).cp hl).mono ?_
 rintro e w2 ⟨rfl,hb2⟩
 obtain ⟨nd,hnd⟩ : ∃ nd,nd = ndA s.nodes n:=⟨_,rfl⟩
 rw [← hnd]
 obtain ⟨op,v,ak,ai,nx,ot⟩:=nd
 have HND:=hide hnd
 simp only [Nd.cells]
 obtain ⟨z,hz⟩ : ∃ z : Int,z = (op : Int):=⟨_,rfl⟩
 rw [← hz]
 have h2:=(uh H1).below hb2
 have HS2:=hide ((uh HS1).trans (Stp.ofBw hb2))
 have hbx:=below_boxQ w2 (.cells #[Value.int .i64 z,.int .i64 v,.int .i64 ak,.int .i64 ai,.int .i64 nx,.int .i64 ot] 186)
 have h3:=h2.below hbx
 have HS3:=hide ((uh HS2).trans (Stp.ofBw hbx))
 have H3:=hide h3
 have e2:=h3.c2
 have f2:=h3.bk.frz 2
 clear hnd h2 hb2 hbx h3
 have HZ:=hide hz
 clear hz
 by_cases hop : op = 0
 ·have HE : Hid (enS s.nodes m n = { m with nd:=n,wh:=if doneB m then 1 else 2 }):=hide (by unfold enS; rw [← uh HND]; exact if_pos hop)
  have hz0 : (z != 0) = false:=by rw [uh HZ,hop]; rfl
  clear hop
  go_wp2_with fail
  obtain ⟨w4,hw4⟩ : ∃ w4,w4 = (w2.alloc (.cells #[Value.int .i64 z,.int .i64 v,.int .i64 ak,.int .i64 ai,.int .i64 nx,.int .i64 ot] 186)).setCell ⟨R,2,none⟩ (.int .i64 2):=⟨_,rfl⟩
  rw [← hw4]
  have H4 : Hid (Mc w4 R Q ws s al { m with nd:=n,wh:=2 } vv pv nv sv cv):=hide (by rw [hw4]; exact (uh H3).setWhat 2)
  have HS4 : Hid (Stp (mFp R sv cv) w (mFp R sv cv) w4):=hide (by rw [hw4]; exact (uh HS3).setCell (p:=⟨R,2,none⟩) (Or.inl Mc.memR) _)
  have g3:=(uh H4).c3
  have HCR : Hid (Calls Tryz.prog 148 #[.pointer (some ⟨R,4,none⟩),sv] w4.drew fun e w'=>e = .returned (.bool (doneB m)) ∧ Below w4.heap.size w4 w'):=hide ((creach_any (w:=w4.drew) (X:=R) (o:=4) (uh H4).c4 (uh H4).cs (uh H4).srt hc (uh H4).st (uh H4).ls).mono (by
   rintro e w5 ⟨rfl,hb5⟩; exact ⟨rfl,⟨hb5.os,hb5.tape,hb5.output,hb5.size,hb5.block⟩⟩))
  clear hw4 e2 f2 hz0
  go_region_with (go_at_call 148; refine (uh HCR).mono ?_; rintro e w5 ⟨rfl,hb5⟩; have HB5:=hide hb5; clear hb5)
  all_goals
   have h5:=(uh H4).below (uh HB5)
   have HS5:=hide ((uh HS4).trans (Stp.ofBw (uh HB5)))
   have H5:=hide h5
   have k2:=h5.c2
   have z2:=h5.bk.frz 2
   clear h5
   cases hdn : doneB m with
   | true =>
    have H6:=hide ((uh H5).setWhat 1)
    have HS6:=hide ((uh HS5).setCell (p:=⟨R,2,none⟩) (Or.inl Mc.memR) (.int .i64 ((1 : Nat) : Int)))
    rw [hdn] at HE
    go_wp2_with fail
    go_end0
    exact ⟨rfl,by rw [uh HE]; exact uh H6,uh HS6⟩
   | false =>
    rw [hdn] at HE
    go_wp2_with fail
    go_end0
    exact ⟨rfl,by rw [uh HE]; exact uh H5,uh HS5⟩
 ·have HE : Hid (enS s.nodes m n = { m with nd:=n }):=hide (by unfold enS; rw [← uh HND]; exact if_neg hop)
  have hop' : (z != 0) = true:=by rw [uh HZ]; simpa [bne] using hop
  clear e2 f2 hop
  go_wp2_with fail
  exact bodyPost_ret (v:=.tuple #[]) (by simp [results,Tryz.results98,go_sem]) rfl ⟨rfl,by rw [uh HE]; exact uh H3,uh HS3⟩
end
def prM (nds : List Nd) (m : MS) (nd : Nd) (a : Int) (b : Bool) : MS:=if b then enS nds m nd.nx else { m with wh:=if a = 0 then 3 else 4 }
def mbM (nds : List Nd) (m : MS) (nd : Nd) (b : Bool) : MS:=enS nds m (if b then nd.nx else nd.ot)
section
variable {w w' : World} {R Q : Nat} {ws : List ByteArray} {s : PS} {al : List Atm} {m : MS} {vv pv nv sv cv : Value}
set_option maxRecDepth 100000 in
set_option maxHeartbeats 2000000 in
theorem mbr_any (h : Mc w R Q ws s al m vv pv nv sv cv) (nd : Nd) (b : Bool) (hl : s.nodes.length ≤ 100000) (hc : m.cs.length ≤ 100000) :
  Calls Tryz.prog 112 #[.pointer (some ⟨R,0,none⟩),.agg nd.cells.toArray,.bool b] w fun e w'=>e = .returned (.tuple #[]) ∧ Mc w' R Q ws s al (mbM s.nodes m nd b) vv pv nv sv cv ∧ Stp (mFp R sv cv) w (mFp R sv cv) w':=by
 obtain ⟨op,v,ak,ai,nx,ot⟩:=nd
 simp only [Nd.cells]
 have hbx:=below_boxQ w (.cells #[Value.int .i64 op,.int .i64 v,.int .i64 ak,.int .i64 ai,.int .i64 nx,.int .i64 ot] 186)
 have H1:=hide (h.below hbx)
 have HS1 : Hid (Stp (mFp R sv cv) w (mFp R sv cv) _):=hide (Stp.ofBw hbx)
 have n3:=(Bk.new w 186 [Value.int .i64 op,.int .i64 v,.int .i64 ak,.int .i64 ai,.int .i64 nx,.int .i64 ot]).cell 3 rfl
 have n4:=(Bk.new w 186 [Value.int .i64 op,.int .i64 v,.int .i64 ak,.int .i64 ai,.int .i64 nx,.int .i64 ot]).cell 4 rfl
 clear h hbx
 cases b with
 | true =>
  go_enter Tryz.func112,Tryz.ntmps112
  go_wp2_with fail
  refine (men_any (uh H1) nx hl hc).mono ?_
  rintro e w2 ⟨rfl,h2,hs2⟩
  have H2:=hide h2
  have HS2:=hide hs2
  clear h2 hs2
  go_wp2_with fail
  exact bodyPost_ret (v:=.tuple #[]) (by simp [results,Tryz.results112,go_sem]) rfl ⟨rfl,uh H2,(uh HS1).trans (uh HS2)⟩
 | false =>
  go_enter Tryz.func112,Tryz.ntmps112
  go_wp2_with fail
  refine (men_any (uh H1) ot hl hc).mono ?_
  rintro e w2 ⟨rfl,h2,hs2⟩
  have H2:=hide h2
  have HS2:=hide hs2
  clear h2 hs2
  go_wp2_with fail
  go_end0
  exact ⟨rfl,uh H2,(uh HS1).trans (uh HS2)⟩
set_option maxRecDepth 100000 in
set_option maxHeartbeats 2000000 in
theorem mpr_any (h : Mc w R Q ws s al m vv pv nv sv cv) (nd : Nd) (a : Int) (b : Bool) (hl : s.nodes.length ≤ 100000) (hc : m.cs.length ≤ 100000) :
  Calls Tryz.prog 110 #[.pointer (some ⟨R,0,none⟩),.agg nd.cells.toArray,.int .i64 a,.bool b] w fun e w'=>e = .returned (.tuple #[]) ∧ Mc w' R Q ws s al (prM s.nodes m nd a b) vv pv nv sv cv ∧ Stp (mFp R sv cv) w (mFp R sv cv) w':=by
 obtain ⟨op,v,ak,ai,nx,ot⟩:=nd
 simp only [Nd.cells]
 have hbx:=below_boxQ w (.cells #[Value.int .i64 op,.int .i64 v,.int .i64 ak,.int .i64 ai,.int .i64 nx,.int .i64 ot] 186)
 have h1:=h.below hbx
 have H1:=hide h1
 have HS1 : Hid (Stp (mFp R sv cv) w (mFp R sv cv) _):=hide (Stp.ofBw hbx)
 have n3:=(Bk.new w 186 [Value.int .i64 op,.int .i64 v,.int .i64 ak,.int .i64 ai,.int .i64 nx,.int .i64 ot]).cell 3 rfl
 have e2:=h1.c2
 have f2:=h1.bk.frz 2
 clear h hbx h1
 cases b with
 | true =>
  go_enter Tryz.func110,Tryz.ntmps110
  go_wp2_with fail
  refine (men_any (uh H1) nx hl hc).mono ?_
  rintro e w2 ⟨rfl,h2,hs2⟩
  have H2:=hide h2
  have HS2:=hide hs2
  clear h2 hs2
  go_wp2_with fail
  exact bodyPost_ret (v:=.tuple #[]) (by simp [results,Tryz.results110,go_sem]) rfl ⟨rfl,uh H2,(uh HS1).trans (uh HS2)⟩
 | false =>
  have h2:=(uh H1).setWhat 4
  have H2:=hide h2
  have HS2:=hide ((uh HS1).setCell (p:=⟨R,2,none⟩) (Or.inl Mc.memR) (.int .i64 ((4 : Nat) : Int)))
  have k2 : ((w.alloc (.cells #[Value.int .i64 op,.int .i64 v,.int .i64 ak,.int .i64 ai,.int .i64 nx,.int .i64 ot] 186)).setCell ⟨R,2,none⟩ (.int .i64 4)).cell? ⟨R,2,none⟩ = some (.int .i64 4):=h2.c2
  have z2:=h2.bk.frz 2
  have H3:=hide (h2.setWhat 3)
  have HS3:=hide ((uh HS2).setCell (p:=⟨R,2,none⟩) (Or.inl Mc.memR) (.int .i64 ((3 : Nat) : Int)))
  clear h2
  by_cases ha : a = 0
  ·have ha0 : (a == 0) = true:=by simpa using ha
   have HE : Hid (prM s.nodes m ⟨op,v,ak,ai,nx,ot⟩ a false = { m with wh:=3 }):=hide (by simp [prM,ha])
   clear ha
   go_enter Tryz.func110,Tryz.ntmps110
   go_wp2_with fail
   go_end0
   refine ⟨rfl,?_,?_⟩
   ·rw [uh HE]; first | exact uh H3
   ·first | exact uh HS3 | exact (uh HS1).setCell (p:=⟨R,2,none⟩) (Or.inl Mc.memR) _
  ·have ha0 : (a == 0) = false:=by simpa using ha
   have HE : Hid (prM s.nodes m ⟨op,v,ak,ai,nx,ot⟩ a false = { m with wh:=4 }):=hide (by simp [prM,ha])
   clear ha
   go_enter Tryz.func110,Tryz.ntmps110
   go_wp2_with fail
   go_end0
   exact ⟨rfl,by rw [uh HE]; exact uh H2,uh HS2⟩
end
theorem lkS_srt {l : List (Int × Int)} (h : Srt l) (i : Nat) (n : Int) : Srt (lkS l i n):=by
 by_cases hi : i < l.length
 ·have e : (lkS l i n).map (·.1) = l.map (·.1):=by
   unfold lkS
   rw [List.map_set]
   apply List.ext_getElem
   ·simp
   ·intro j h1 h2
    rw [List.getElem_set]
    split
    ·rename_i hj; subst hj; simp [hi]
    ·rfl
  unfold Srt at h ⊢
  have h2 : (l.map (·.1)).Pairwise (· < ·):=List.pairwise_map.2 h
  rw [← e] at h2
  exact List.pairwise_map.1 h2
 ·unfold lkS; rw [List.set_eq_of_length_le (by omega)]; exact h
theorem rmS_srt {l : List (Int × Int)} (h : Srt l) (i : Nat) : Srt (rmS l i):=h.sublist (List.eraseIdx_sublist _ _)
theorem adA_len (l : List (Int × Int)) (a n : Int) : (adA l a n).length = l.length + 1:=by
 have:=lowA_le l a
 simp [adA]; omega
def crM (nds : List Nd) (m : MS) (nd : Nd) (c : Int) : MS × Nat :=
 if c < 1 ∨ 1048576 < c then (m,5) else match fdA m.cs c with
  | some _=>(m,5)
  | none=>(enS nds { m with cs:=adA m.cs c 0,st:=m.st.set nd.v c } nd.nx,0)
def foM (nds : List Nd) (m : MS) (nd : Nd) (a : Int) : MS:=match fdA m.cs a with
 | some i=>prM nds { m with st:=m.st.set nd.v (m.cs.getD i (0,0)).2 } nd a true
 | none=>prM nds m nd a false
section
variable {w w' : World} {R Q : Nat} {ws : List ByteArray} {s : PS} {al : List Atm} {m : MS} {vv pv nv sv cv : Value}
set_option maxRecDepth 100000 in
set_option maxHeartbeats 2000000 in
theorem mcr_any (h : Mc w R Q ws s al m vv pv nv sv cv) (nd : Nd) (c : Int) (hl : s.nodes.length ≤ 100000) (hc : m.cs.length ≤ 99999) :
  Calls Tryz.prog 107 #[.pointer (some ⟨R,0,none⟩),.agg nd.cells.toArray,.int .i64 c] w fun e w'=>e = .returned (.int .i64 ((crM s.nodes m nd c).2 : Nat)) ∧ ∃ cv',Mc w' R Q ws s al (crM s.nodes m nd c).1 vv pv nv sv cv' ∧ Stp (mFp R sv cv) w (mFp R sv cv') w':=by
 obtain ⟨op,v,ak,ai,nx,ot⟩:=nd
 simp only [Nd.cells]
 have hbx:=below_boxQ w (.cells #[Value.int .i64 op,.int .i64 v,.int .i64 ak,.int .i64 ai,.int .i64 nx,.int .i64 ot] 186)
 have h1:=h.below hbx
 have H1:=hide h1
 have HS1 : Hid (Stp (mFp R sv cv) w (mFp R sv cv) _):=hide (Stp.ofBw hbx)
 have HNw:=hide (Bk.new w 186 [Value.int .i64 op,.int .i64 v,.int .i64 ak,.int .i64 ai,.int .i64 nx,.int .i64 ot])
 have hRl:=h.lt
 have HRl:=hide hRl
 clear h hbx hRl
 by_cases hb : c < 1 ∨ 1048576 < c
 ·have HE : Hid (crM s.nodes m ⟨op,v,ak,ai,nx,ot⟩ c = (m,5)):=hide (by unfold crM; rw [if_pos hb])
  clear h1
  by_cases hb1 : c < 1
  ·go_enter Tryz.func107,Tryz.ntmps107
   go_wp2_with fail
   go_ret
   exact ⟨by rw [uh HE]; rfl,cv,by rw [uh HE]; exact uh H1,uh HS1⟩
  ·have hb2 : 1048576 < c:=by omega
   have hd1 : decide (c < 1) = false:=by simpa using hb1
   go_enter Tryz.func107,Tryz.ntmps107
   go_wp2_with fail
   go_ret
   exact ⟨by rw [uh HE]; rfl,cv,by rw [uh HE]; exact uh H1,uh HS1⟩
 ·have hd1 : decide (c < 1) = false:=by simp; omega
  have hd2 : decide (1048576 < c) = false:=by simp; omega
  have hb1 : ¬ c < 1:=by omega
  have hb2 : ¬ 1048576 < c:=by omega
  cases hf : fdA m.cs c with
  | some i =>
   have HE : Hid (crM s.nodes m ⟨op,v,ak,ai,nx,ot⟩ c = (m,5)):=hide (by unfold crM; rw [if_neg hb,hf])
   have HA:=hide (cadd_no c 0 h1.c4 h1.cs h1.srt hf)
   clear h1 hb hf
   go_enter Tryz.func107,Tryz.ntmps107
   go_wp2_with fail
   refine (uh HA).mono ?_
   rintro e w2 ⟨rfl,rfl⟩
   go_wp2_with fail
   go_ret
   exact ⟨by rw [uh HE]; rfl,cv,by rw [uh HE]; exact uh H1,uh HS1⟩
  | none =>
   have HE : Hid (crM s.nodes m ⟨op,v,ak,ai,nx,ot⟩ c = (enS s.nodes { m with cs:=adA m.cs c 0,st:=m.st.set v c } nx,0)):=hide (by unfold crM; rw [if_neg hb,hf])
   have HA:=hide (cadd_any (o:=4) c 0 h1.bk rfl h1.cs h1.srt h1.nds.2.1 (by omega) hf)
   have HSr:=hide (adA_srt (n:=0) h1.srt hf)
   clear h1 hb hf
   go_enter Tryz.func107,Tryz.ntmps107
   go_wp2_with fail
   refine (uh HA).mono ?_
   rintro e w2 ⟨rfl,cv',hb2,hr2,hn2,hs2⟩
   obtain ⟨h2,hS2⟩:=(uh H1).cells hb2 hr2 (adA_len _ _ _).symm (uh HSr) hn2
    hs2
   have hS2':=(uh HS1).trans hS2
   have HBX : Hid (w.heap.size ∉ mFp R sv cv'):=hide (by
    intro hm
    rcases hS2.foot _ hm with h1 | h1
    ·have:=uh HRl _ h1; omega
    ·simp at h1; omega)
   have hN2:=(uh HNw).stp hs2 (by
    intro hm
    rcases List.mem_cons.1 hm with e | hm
    ·have:=uh HRl R (by simp [mFp]); omega
    ·have:=uh HRl w.heap.size (by simp only [mFp,List.mem_cons,List.mem_append]; exact Or.inr (Or.inr hm)); omega)
   have n1:=hN2.cell 1 rfl
   have HN2:=hide hN2
   have H2:=hide h2
   have HS2:=hide hS2'
   clear hb2 hr2 hn2 hs2 h2 hS2 hS2' hN2
   go_wp2_with fail
   refine (mset_any (uh H2) v c).mono ?_
   rintro e w3 ⟨rfl,h3,hs3⟩
   have hN3:=(uh HN2).stp hs3 (uh HBX)
   have n3:=hN3.cell 4 rfl
   have H3:=hide h3
   have HS3:=hide ((uh HS2).trans hs3)
   clear h3 hs3 hN3
   go_wp2_with fail
   refine (men_any (uh H3) nx hl (by show (adA m.cs c 0).length ≤ 100000; rw [adA_len]; omega)).mono ?_
   rintro e w4 ⟨rfl,h4,hs4⟩
   have H4:=hide h4
   have HS4:=hide ((uh HS3).trans hs4)
   clear h4 hs4
   go_wp2_with fail
   go_ret
   exact ⟨by rw [uh HE]; rfl,cv',by rw [uh HE]; exact uh H4,uh HS4⟩
set_option maxRecDepth 100000 in
set_option maxHeartbeats 2000000 in
theorem mfo_any (h : Mc w R Q ws s al m vv pv nv sv cv) (nd : Nd) (a : Int) (hl : s.nodes.length ≤ 100000) (hc : m.cs.length ≤ 100000) :
  Calls Tryz.prog 108 #[.pointer (some ⟨R,0,none⟩),.agg nd.cells.toArray,.int .i64 a] w fun e w'=>e = .returned (.tuple #[]) ∧ Mc w' R Q ws s al (foM s.nodes m nd a) vv pv nv sv cv ∧ Stp (mFp R sv cv) w (mFp R sv cv) w':=by
 obtain ⟨op,v,ak,ai,nx,ot⟩:=nd
 have hbx:=below_boxQ w (.cells #[Value.int .i64 op,.int .i64 v,.int .i64 ak,.int .i64 ai,.int .i64 nx,.int .i64 ot] 186)
 have h1:=h.below hbx
 have H1:=hide h1
 have HS1 : Hid (Stp (mFp R sv cv) w (mFp R sv cv) _):=hide (Stp.ofBw hbx)
 have hN1:=Bk.new w 186 [Value.int .i64 op,.int .i64 v,.int .i64 ak,.int .i64 ai,.int .i64 nx,.int .i64 ot]
 have HN1:=hide hN1
 have HBX : Hid (w.heap.size ∉ mFp R sv cv):=hide (fun hm=>by have:=h.lt _ hm; omega)
 have HF:=hide (cfind_any a h1.c4 h1.cs h1.srt)
 have HNd : Hid (Nd.cells ⟨op,v,ak,ai,nx,ot⟩ = [.int .i64 op,.int .i64 v,.int .i64 ak,.int .i64 ai,.int .i64 nx,.int .i64 ot]):=hide rfl
 rw [uh HNd]
 cases hf : fdA m.cs a with
 | none =>
  have HE : Hid (foM s.nodes m ⟨op,v,ak,ai,nx,ot⟩ a = prM s.nodes m ⟨op,v,ak,ai,nx,ot⟩ a false):=hide (by unfold foM; rw [hf])
  have e : fdI m.cs a = -1:=by unfold fdI; rw [hf]
  rw [e] at HF
  have HP:=hide (mpr_any h1 ⟨op,v,ak,ai,nx,ot⟩ a false hl hc)
  rw [uh HNd] at HP
  clear h h1 hbx hN1 hf e
  go_enter Tryz.func108,Tryz.ntmps108
  go_wp2_with fail
  refine (uh HF).mono ?_
  rintro e w2 ⟨rfl,rfl⟩
  go_wp2_with fail
  refine (uh HP).mono ?_
  rintro e w3 ⟨rfl,h3,hs3⟩
  have H3:=hide h3
  have HS3:=hide hs3
  clear h3 hs3
  go_wp2_with fail
  go_end0
  exact ⟨rfl,by rw [uh HE]; exact uh H3,(uh HS1).trans (uh HS3)⟩
 | some i =>
  obtain ⟨hi,-⟩:=fdA_some hf
  have HE : Hid (foM s.nodes m ⟨op,v,ak,ai,nx,ot⟩ a = prM s.nodes { m with st:=m.st.set v m.cs[i].2 } ⟨op,v,ak,ai,nx,ot⟩ a true):=hide (by unfold foM; rw [hf]; simp [hi])
  have e : fdI m.cs a = (i : Int):=by unfold fdI; rw [hf]
  rw [e] at HF
  have HA:=hide (cat_any i hi h1.c4 h1.cs)
  generalize m.cs[i].1 = p1 at *
  generalize m.cs[i].2 = p2 at *
  clear h h1 hbx hN1 hf e
  go_enter Tryz.func108,Tryz.ntmps108
  go_wp2_with fail
  refine (uh HF).mono ?_
  rintro e w2 ⟨rfl,rfl⟩
  go_wp2_with fail
  refine (uh HA).mono ?_
  rintro e w3 ⟨rfl,hb3⟩
  have hb4:=hb3.trans ((below_boxQ w3 (.cells #[Value.int .i64 p1,.int .i64 p2] 231)).mono hb3.size)
  have h4:=(uh H1).below hb4
  have hN4:=(uh HN1).below hb4
  have n1:=hN4.cell 1 rfl
  have H4:=hide h4
  have HN4:=hide hN4
  have HS4:=hide ((uh HS1).trans (Stp.ofBw hb4))
  clear h4 hN4 hb3 hb4
  go_wp2_with fail
  refine (mset_any (uh H4) v p2).mono ?_
  rintro e w5 ⟨rfl,h5,hs5⟩
  have hN5:=(uh HN4).stp hs5 (uh HBX)
  have n50:=hN5.cell 0 rfl
  have n51:=hN5.cell 1 rfl
  have n52:=hN5.cell 2 rfl
  have n53:=hN5.cell 3 rfl
  have n54:=hN5.cell 4 rfl
  have n55:=hN5.cell 5 rfl
  have H5:=hide h5
  have HS5:=hide ((uh HS4).trans hs5)
  have HP:=hide (mpr_any h5 ⟨op,v,ak,ai,nx,ot⟩ a true hl hc)
  rw [uh HNd] at HP
  clear h5 hs5 hN5
  go_wp2_with fail
  refine (uh HP).mono ?_
  rintro e w6 ⟨rfl,h6,hs6⟩
  have H6:=hide h6
  have HS6:=hide ((uh HS5).trans hs6)
  clear h6 hs6
  go_wp2_with fail
  go_end0
  exact ⟨rfl,by rw [uh HE]; exact uh H6,uh HS6⟩
end
def stM (nds : List Nd) (m : MS) (c : Int) : MS × Nat :=
 if m.wh ≠ 0 then (m,0) else
 let nd:=ndA nds m.nd
 let l:=m.st.getD nd.v 0
 let r:=tmV m.st nd.ak nd.ai
 if nd.op = 1 then (enS nds { m with st:=m.st.set nd.v r } nd.nx,0)
 else if nd.op = 4 then crM nds m nd c
 else if nd.op = 2 then (foM nds m nd r,0)
 else if nd.op = 3 then ((match fdA m.cs l with | some i=>prM nds { m with cs:=lkS m.cs i r } nd l true | none=>prM nds m nd l false),0)
 else if nd.op = 5 then ((match fdA m.cs l with | some i=>prM nds { m with cs:=rmS m.cs i } nd l true | none=>prM nds m nd l false),0)
 else if nd.op = 7 then (mbM nds m nd (c.tmod 2 != 0),0)
 else if nd.op = 8 then (mbM nds m nd (l == r),0)
 else if nd.op = 9 then (mbM nds m nd (l != r),0)
 else if nd.op = 6 ∨ nd.op = 10 then (enS nds m nd.nx,0)
 else (m,0)
section
variable {w w' : World} {R Q : Nat} {ws : List ByteArray} {s : PS} {al : List Atm} {m : MS} {vv pv nv sv cv : Value}
theorem bk6 {w : World} {N T : Nat} {a b c d e f : Value} (h : Bk w N T [a,b,c,d,e,f]) : w.cell? ⟨N,0,none⟩ = some a ∧ w.cell? ⟨N,1,none⟩ = some b ∧ w.cell? ⟨N,2,none⟩ = some c ∧ w.cell? ⟨N,3,none⟩ = some d ∧ w.cell? ⟨N,4,none⟩ = some e ∧ w.cell? ⟨N,5,none⟩ = some f ∧ ∀ j,w.frozen? ⟨N,j,none⟩ = false :=
 ⟨h.cell 0 rfl,h.cell 1 rfl,h.cell 2 rfl,h.cell 3 rfl,h.cell 4 rfl,h.cell 5 rfl,h.frz⟩
theorem st6Q {w : World} {N T : Nat} {a b c d e f a' b' c' d' e' f' : Value} (h : Bk w N T [a,b,c,d,e,f]) : Bk ((((((w.setCell ⟨N,0,none⟩ a').setCell ⟨N,1,none⟩ b').setCell ⟨N,2,none⟩ c').setCell ⟨N,3,none⟩ d').setCell ⟨N,4,none⟩ e').setCell ⟨N,5,none⟩ f') N T [a',b',c',d',e',f'] :=
 (((((h.set 0 a').set 1 b').set 2 c').set 3 d').set 4 e').set 5 f'
theorem box_at {w w2 : World} {T : TypeId} {xs : List Value} (hb2 : Below ((w.alloc (.cells xs.toArray T)).drew).heap.size (w.alloc (.cells xs.toArray T)).drew w2) : Below w.heap.size w w2 ∧ Bk w2 w.heap.size T xs:=by
 have h1 : Below (w.alloc (.cells xs.toArray T)).heap.size (w.alloc (.cells xs.toArray T)) w2:=⟨hb2.os,hb2.tape,hb2.output,hb2.size,hb2.block⟩
 exact ⟨(below_boxQ w _).trans (h1.mono (below_boxQ w _).size),(Bk.new w T xs).below h1⟩
set_option maxRecDepth 100000 in
set_option maxHeartbeats 8000000 in
theorem mst_any (h : Mc w R Q ws s al m vv pv nv sv cv) (c : Int) (hl : s.nodes.length ≤ 100000) (hc : m.cs.length ≤ 99999) :
  Calls Tryz.prog 64 #[.pointer (some ⟨R,0,none⟩),.int .i64 c] w fun e w'=>e = .returned (.int .i64 ((stM s.nodes m c).2 : Nat)) ∧ ∃ cv',Mc w' R Q ws s al (stM s.nodes m c).1 vv pv nv sv cv' ∧ Stp (mFp R sv cv) w (mFp R sv cv') w':=by
 have c0:=h.c0
 have c1:=h.c1
 have c2:=h.c2
 have H:=hide h
 by_cases hwh : m.wh ≠ 0
 ·have hw0 : ((m.wh : Int) != 0) = true:=by simpa [bne] using hwh
  have HE : Hid (stM s.nodes m c = (m,0)):=hide (by unfold stM; rw [if_pos hwh])
  clear h hwh
  go_enter Tryz.func64,Tryz.ntmps64
  go_wp2_with fail
  go_ret
  exact ⟨by rw [uh HE]; rfl,cv,by rw [uh HE]; exact uh H,Stp.refl _ _⟩
 ·have hw0 : ((m.wh : Int) != 0) = false:=by simpa [bne] using hwh
  have HWH:=hide hwh
  obtain ⟨nd,hnd⟩ : ∃ nd,nd = ndA s.nodes m.nd:=⟨_,rfl⟩
  obtain ⟨op,v,ak,ai,nx,ot⟩:=nd
  have HND:=hide hnd
  have HAt : Hid (∀ W,Below w.heap.size w W → Calls Tryz.prog 103 #[.pointer (some ⟨Q,0,none⟩),.int .i64 m.nd] W fun e w'=>e = .returned (.agg #[.int .i64 op,.int .i64 v,.int .i64 ak,.int .i64 ai,.int .i64 nx,.int .i64 ot]) ∧ Below W.heap.size W w'):=hide (fun W hb=>(at_any m.nd (h.below hb).cp hl).mono (by rintro e w1 ⟨rfl,hb1⟩; rw [← hnd]; exact ⟨rfl,hb1⟩))
  have hRl:=h.bk.lt
  obtain ⟨mn,hmn⟩ : ∃ mn : Int,mn = (m.nd : Int):=⟨_,rfl⟩
  rw [← hmn] at c1 HAt
  have hbA:=below_boxQ w (.cells #[Value.int .i64 0,.int .i64 0,.int .i64 0,.int .i64 0,.int .i64 0,.int .i64 0] 186)
  have a0:=(hbA.cell hRl).trans c0
  have a1:=(hbA.cell hRl).trans c1
  have HBA:=hide hbA
  have HNA:=hide (Bk.new w 186 [Value.int .i64 0,.int .i64 0,.int .i64 0,.int .i64 0,.int .i64 0,.int .i64 0])
  have HRL:=hide h.lt
  clear h hwh hnd hmn hbA
  go_enter Tryz.func64,Tryz.ntmps64
  go_upto_region 3 with fail
  go_cut [5] (fun p wx=>∃ N,p = .pointer (some ⟨N,0,none⟩) ∧ Hid (Bk wx N 186 [.int .i64 op,.int .i64 v,.int .i64 ak,.int .i64 ai,.int .i64 nx,.int .i64 ot]) ∧ Hid (w.heap.size ≤ N) ∧ Hid (Below w.heap.size w wx))
  case first =>
   have hNR : ¬ (w.heap.size = R):=by omega
   go_region_held3 (fun W=>W.cell? ⟨R,0,none⟩ = some (.pointer (some ⟨Q,0,none⟩)) ∧ W.cell? ⟨R,1,none⟩ = some (.int .i64 mn)) (first | (simp only [World.cell?_drew,c0,c1,and_self]; done) | (simp only [World.cell?_drew,a0,a1,and_self]; done) | (simp only [q0,q1,and_self]; done) | (simp only [r0,r1,and_self]; done) | (simp [World.cell?_setCell_far,q0,q1,hNR]; done) | (simp [q0,q1,World.cell?_alloc_some]; done))
    (first
     | (go_at_call 103; refine (uh HAt _ (by first | exact (Below.refl _ _).drew | exact (uh HBA).drew)).mono ?_; rintro e w2 ⟨rfl,hb2⟩; have HB2 : Hid (Below w.heap.size w w2):=hide (by first | exact ⟨hb2.os,hb2.tape,hb2.output,hb2.size,hb2.block⟩ | exact (box_at (xs:=[Value.int .i64 0,.int .i64 0,.int .i64 0,.int .i64 0,.int .i64 0,.int .i64 0]) hb2).1); have q0:=((uh HB2).cell hRl).trans c0; have q1:=((uh HB2).cell hRl).trans c1; have r0:=((below_boxQ w2 (.cells #[Value.int .i64 0,.int .i64 0,.int .i64 0,.int .i64 0,.int .i64 0,.int .i64 0] 186)).cell (Nat.lt_of_lt_of_le hRl (uh HB2).size)).trans q0; have r1:=((below_boxQ w2 (.cells #[Value.int .i64 0,.int .i64 0,.int .i64 0,.int .i64 0,.int .i64 0,.int .i64 0] 186)).cell (Nat.lt_of_lt_of_le hRl (uh HB2).size)).trans q1; (try (have HNB:=hide (box_at (xs:=[Value.int .i64 0,.int .i64 0,.int .i64 0,.int .i64 0,.int .i64 0,.int .i64 0]) hb2).2; obtain ⟨x0,x1,x2,x3,x4,x5,xf⟩:=bk6 (uh HNB))); clear hb2))
   ·go_wp2_with fail
    go_meet
    exact ⟨w2.heap.size,rfl,hide (Bk.new w2 186 [.int .i64 op,.int .i64 v,.int .i64 ak,.int .i64 ai,.int .i64 nx,.int .i64 ot]),hide (uh HB2).size,hide ((uh HB2).alloc (uh HB2).size _)⟩
   ·have HBk:=hide (st6Q (a':=.int .i64 op) (b':=.int .i64 v) (c':=.int .i64 ak) (d':=.int .i64 ai) (e':=.int .i64 nx) (f':=.int .i64 ot) (uh HNB))
    have HBl : Hid (Below w.heap.size w ((((((w2.setCell ⟨w.heap.size,0,none⟩ (.int .i64 op)).setCell ⟨w.heap.size,1,none⟩ (.int .i64 v)).setCell ⟨w.heap.size,2,none⟩ (.int .i64 ak)).setCell ⟨w.heap.size,3,none⟩ (.int .i64 ai)).setCell ⟨w.heap.size,4,none⟩ (.int .i64 nx)).setCell ⟨w.heap.size,5,none⟩ (.int .i64 ot))):=hide (((((((uh HB2).setCell (p:=⟨w.heap.size,0,none⟩) (Nat.le_refl _) _).setCell (p:=⟨w.heap.size,1,none⟩) (Nat.le_refl _) _).setCell (p:=⟨w.heap.size,2,none⟩) (Nat.le_refl _) _).setCell (p:=⟨w.heap.size,3,none⟩) (Nat.le_refl _) _).setCell (p:=⟨w.heap.size,4,none⟩) (Nat.le_refl _) _).setCell (p:=⟨w.heap.size,5,none⟩) (Nat.le_refl _) _)
    clear x0 x1 x2 x3 x4 x5 xf q0 q1 r0 r1
    go_wp2_with fail
    go_meet
    exact ⟨w.heap.size,rfl,HBk,hide (Nat.le_refl _),HBl⟩
  case rest =>
   obtain ⟨N,rfl,hN,hNl,hbW⟩:=hcut
   obtain ⟨z,hz⟩ : ∃ z : Int,z = (op : Int):=⟨_,rfl⟩
   rw [← hz] at hN
   have HNdz : Hid (Nd.cells ⟨op,v,ak,ai,nx,ot⟩ = [.int .i64 z,.int .i64 v,.int .i64 ak,.int .i64 ai,.int .i64 nx,.int .i64 ot]):=hide (by rw [hz]; rfl)
   have HZ:=hide hz
   have h1:=(uh H).below (uh hbW)
   have HNf : Hid (N ∉ mFp R sv cv):=hide (fun hm=>by have h1:=uh HRL _ hm; have h2:=uh hNl; omega)
   obtain ⟨x0,x1,x2,x3,x4,x5,-⟩:=bk6 (uh hN)
   have H1:=hide h1
   have HS1 : Hid (Stp (mFp R sv cv) w (mFp R sv cv) wc):=hide (Stp.ofBw (uh hbW))
   have HVa:=hide (mvar_any (uh H1) v)
   obtain ⟨l,hl0⟩ : ∃ l,l = m.st.getD v 0:=⟨_,rfl⟩
   obtain ⟨r,hr0⟩ : ∃ r,r = tmV m.st ak ai:=⟨_,rfl⟩
   rw [← hl0] at HVa
   have HL0:=hide hl0
   have HR0:=hide hr0
   clear h1 hz c0 c1 c2 a0 a1 HBA HNA HAt hl0 hr0
   go_wp2_with fail
   refine (uh HVa).mono ?_
   rintro e w2 ⟨rfl,n2,rfl⟩
   have hb2:=below_drewQ wc n2
   have H2:=hide ((uh H1).below hb2)
   have HS2:=hide ((uh HS1).trans (Stp.ofBw hb2))
   have hN2:=(uh hN).below hb2
   obtain ⟨w2,hw2⟩ : ∃ w2,w2 = wc.drewN n2:=⟨_,rfl⟩
   rw [← hw2] at H2 HS2 hN2 ⊢
   obtain ⟨y0,y1,y2,y3,y4,y5,-⟩:=bk6 hN2
   have HN2:=hide hN2
   have HVl:=hide (mval_any (uh H2) ak ai)
   rw [← uh HR0] at HVl
   clear hN2 hb2 hw2 x0 x1 x2 x3 x4 x5
   go_wp2_with fail
   refine (uh HVl).mono ?_
   rintro e w3 ⟨rfl,hb3⟩
   have H3:=hide ((uh H2).below hb3)
   have HS3:=hide ((uh HS2).trans (Stp.ofBw hb3))
   have hN3:=(uh HN2).below hb3
   obtain ⟨x0,x1,x2,x3,x4,x5,-⟩:=bk6 hN3
   have HN3:=hide hN3
   have HST : Hid (stM s.nodes m c = (if op = 1 then (enS s.nodes { m with st:=m.st.set v r } nx,0)
     else if op = 4 then crM s.nodes m ⟨op,v,ak,ai,nx,ot⟩ c
     else if op = 2 then (foM s.nodes m ⟨op,v,ak,ai,nx,ot⟩ r,0)
     else if op = 3 then ((match fdA m.cs l with | some i=>prM s.nodes { m with cs:=lkS m.cs i r } ⟨op,v,ak,ai,nx,ot⟩ l true | none=>prM s.nodes m ⟨op,v,ak,ai,nx,ot⟩ l false),0)
     else if op = 5 then ((match fdA m.cs l with | some i=>prM s.nodes { m with cs:=rmS m.cs i } ⟨op,v,ak,ai,nx,ot⟩ l true | none=>prM s.nodes m ⟨op,v,ak,ai,nx,ot⟩ l false),0)
     else if op = 7 then (mbM s.nodes m ⟨op,v,ak,ai,nx,ot⟩ (c.tmod 2 != 0),0)
     else if op = 8 then (mbM s.nodes m ⟨op,v,ak,ai,nx,ot⟩ (l == r),0)
     else if op = 9 then (mbM s.nodes m ⟨op,v,ak,ai,nx,ot⟩ (l != r),0)
     else if op = 6 ∨ op = 10 then (enS s.nodes m nx,0)
     else (m,0))):=hide (by
    unfold stM
    rw [if_neg (uh HWH),← uh HND,uh HL0,uh HR0])
   clear hN3 hb3 y0 y1 y2 y3 y4 y5 hw0
   by_cases hop : op = 1
   ·subst hop
    have HE : Hid (stM s.nodes m c = (enS s.nodes { m with st:=m.st.set v r } nx,0)):=hide (uh HST)
    have t1 : (z == 1) = true:=by rw [uh HZ]; rfl
    go_wp2_with fail
    refine (mset_any (uh H3) v r).mono ?_
    rintro e w4 ⟨rfl,h4,hs4⟩
    have hN4:=(uh HN3).stp hs4 (uh HNf)
    have y4:=hN4.cell 4 rfl
    have H4:=hide h4
    have HS4:=hide ((uh HS3).trans hs4)
    clear hN4 h4 hs4
    go_wp2_with fail
    refine (men_any (uh H4) nx hl (by show m.cs.length ≤ 100000; omega)).mono ?_
    rintro e w5 ⟨rfl,h5,hs5⟩
    have H5:=hide h5
    have HS5:=hide ((uh HS4).trans hs5)
    clear h5 hs5
    go_wp2_with fail
    go_ret
    exact ⟨by rw [uh HE]; rfl,cv,by rw [uh HE]; exact uh H5,uh HS5⟩
   by_cases hop : op = 4
   ·subst hop
    have HE : Hid (stM s.nodes m c = crM s.nodes m ⟨4,v,ak,ai,nx,ot⟩ c):=hide (uh HST)
    have t1 : (z == 1) = false:=by rw [uh HZ]; rfl
    have t4 : (z == 4) = true:=by rw [uh HZ]; rfl
    have HP:=hide (mcr_any (uh H3) ⟨4,v,ak,ai,nx,ot⟩ c hl hc)
    rw [uh HNdz] at HP
    go_wp2_with fail
    refine (uh HP).mono ?_
    rintro e w4 ⟨rfl,cv1,h4,hs4⟩
    have H4:=hide h4
    have HS4:=hide ((uh HS3).trans hs4)
    clear h4 hs4
    go_wp2_with fail
    go_ret
    exact ⟨by rw [uh HE]; rfl,cv1,by rw [uh HE]; exact uh H4,uh HS4⟩
   by_cases hop : op = 2
   ·subst hop
    have HE : Hid (stM s.nodes m c = (foM s.nodes m ⟨2,v,ak,ai,nx,ot⟩ r,0)):=hide (uh HST)
    have t1 : (z == 1) = false:=by rw [uh HZ]; rfl
    have t4 : (z == 4) = false:=by rw [uh HZ]; rfl
    have t2 : (z == 2) = true:=by rw [uh HZ]; rfl
    have HP:=hide (mfo_any (uh H3) ⟨2,v,ak,ai,nx,ot⟩ r hl (by omega))
    rw [uh HNdz] at HP
    go_wp2_with fail
    refine (uh HP).mono ?_
    rintro e w4 ⟨rfl,h4,hs4⟩
    have H4:=hide h4
    have HS4:=hide ((uh HS3).trans hs4)
    clear h4 hs4
    go_wp2_with fail
    go_ret
    exact ⟨by rw [uh HE]; rfl,cv,by rw [uh HE]; exact uh H4,uh HS4⟩
   by_cases hop : op = 3
   ·subst hop
    have HE : Hid (stM s.nodes m c = ((match fdA m.cs l with | some i=>prM s.nodes { m with cs:=lkS m.cs i r } ⟨3,v,ak,ai,nx,ot⟩ l true | none=>prM s.nodes m ⟨3,v,ak,ai,nx,ot⟩ l false),0)):=hide (uh HST)
    have t1 : (z == 1) = false:=by rw [uh HZ]; rfl
    have t4 : (z == 4) = false:=by rw [uh HZ]; rfl
    have t2 : (z == 2) = false:=by rw [uh HZ]; rfl
    have t3 : (z == 3) = true:=by rw [uh HZ]; rfl
    have HC:=hide (clink_any l r (uh H3).c4 (uh H3).cs (uh H3).srt)
    have q4:=(uh H3).c4
    clear q4
    go_wp2_with fail
    refine (uh HC).mono ?_
    rintro e w4 (⟨hf,rfl,rfl⟩ | ⟨i,hf,rfl,hr4,hs4⟩)
    ·have HE2 : Hid (stM s.nodes m c = (prM s.nodes m ⟨3,v,ak,ai,nx,ot⟩ l false,0)):=hide (by rw [uh HE,hf])
     have HP:=hide (mpr_any (uh H3) ⟨3,v,ak,ai,nx,ot⟩ l false hl (by omega))
     rw [uh HNdz] at HP
     clear hf
     go_wp2_with fail
     refine (uh HP).mono ?_
     rintro e w5 ⟨rfl,h5,hs5⟩
     have H5:=hide h5
     have HS5:=hide ((uh HS3).trans hs5)
     clear h5 hs5
     go_wp2_with fail
     go_ret
     exact ⟨by rw [uh HE2]; rfl,cv,by rw [uh HE2]; exact uh H5,uh HS5⟩
    ·have HE2 : Hid (stM s.nodes m c = (prM s.nodes { m with cs:=lkS m.cs i r } ⟨3,v,ak,ai,nx,ot⟩ l true,0)):=hide (by rw [uh HE,hf])
     obtain ⟨h4,hS4⟩:=(uh H3).linked hr4 (lkS_len _ _ _) (lkS_srt (uh H3).srt _ _) hs4
     have hN4:=(uh HN3).stp hS4 (uh HNf)
     obtain ⟨y0,y1,y2,y3,y4,y5,-⟩:=bk6 hN4
     clear hN4 hr4 hs4
     have HP:=hide (mpr_any h4 ⟨3,v,ak,ai,nx,ot⟩ l true hl (by show (lkS m.cs i r).length ≤ 100000; rw [lkS_len]; omega))
     rw [uh HNdz] at HP
     have HS4:=hide ((uh HS3).trans hS4)
     clear hf h4 hS4
     go_wp2_with fail
     refine (uh HP).mono ?_
     rintro e w5 ⟨rfl,h5,hs5⟩
     have H5:=hide h5
     have HS5:=hide ((uh HS4).trans hs5)
     clear h5 hs5
     go_wp2_with fail
     go_ret
     exact ⟨by rw [uh HE2]; rfl,_,by rw [uh HE2]; exact uh H5,uh HS5⟩
   by_cases hop : op = 5
   ·subst hop
    have HE : Hid (stM s.nodes m c = ((match fdA m.cs l with | some i=>prM s.nodes { m with cs:=rmS m.cs i } ⟨5,v,ak,ai,nx,ot⟩ l true | none=>prM s.nodes m ⟨5,v,ak,ai,nx,ot⟩ l false),0)):=hide (uh HST)
    have t1 : (z == 1) = false:=by rw [uh HZ]; rfl
    have t4 : (z == 4) = false:=by rw [uh HZ]; rfl
    have t2 : (z == 2) = false:=by rw [uh HZ]; rfl
    have t3 : (z == 3) = false:=by rw [uh HZ]; rfl
    have t5 : (z == 5) = true:=by rw [uh HZ]; rfl
    have HC:=hide (cremove_any (o:=4) l (uh H3).bk rfl (uh H3).cs (uh H3).srt (uh H3).nds.2.1)
    have q4:=(uh H3).c4
    clear q4
    go_wp2_with fail
    refine (uh HC).mono ?_
    rintro e w4 (⟨hf,rfl,rfl⟩ | ⟨i,hf,rfl,cv1,hb4,hr4,hn4,hs4⟩)
    ·have HE2 : Hid (stM s.nodes m c = (prM s.nodes m ⟨5,v,ak,ai,nx,ot⟩ l false,0)):=hide (by rw [uh HE,hf])
     have HP:=hide (mpr_any (uh H3) ⟨5,v,ak,ai,nx,ot⟩ l false hl (by omega))
     rw [uh HNdz] at HP
     clear hf
     go_wp2_with fail
     refine (uh HP).mono ?_
     rintro e w5 ⟨rfl,h5,hs5⟩
     have H5:=hide h5
     have HS5:=hide ((uh HS3).trans hs5)
     clear h5 hs5
     go_wp2_with fail
     go_ret
     exact ⟨by rw [uh HE2]; rfl,cv,by rw [uh HE2]; exact uh H5,uh HS5⟩
    ·have HE2 : Hid (stM s.nodes m c = (prM s.nodes { m with cs:=rmS m.cs i } ⟨5,v,ak,ai,nx,ot⟩ l true,0)):=hide (by rw [uh HE,hf])
     obtain ⟨hil,-⟩:=fdA_some hf
     obtain ⟨h4,hS4⟩:=(uh H3).cells hb4 hr4 (rmS_len hil).symm (rmS_srt (uh H3).srt _) (by rw [hn4]; exact (uh H3).nds.2.1) (by rw [hn4]; exact hs4)
     have hN4:=(uh HN3).stp hS4 (uh HNf)
     obtain ⟨y0,y1,y2,y3,y4,y5,-⟩:=bk6 hN4
     clear hN4 hr4 hs4 hb4 hn4
     have HP:=hide (mpr_any h4 ⟨5,v,ak,ai,nx,ot⟩ l true hl (by show (rmS m.cs i).length ≤ 100000; rw [rmS_len hil]; omega))
     rw [uh HNdz] at HP
     have HS4:=hide ((uh HS3).trans hS4)
     clear hf h4 hS4
     go_wp2_with fail
     refine (uh HP).mono ?_
     rintro e w5 ⟨rfl,h5,hs5⟩
     have H5:=hide h5
     have HS5:=hide ((uh HS4).trans hs5)
     clear h5 hs5
     go_wp2_with fail
     go_ret
     exact ⟨by rw [uh HE2]; rfl,_,by rw [uh HE2]; exact uh H5,uh HS5⟩
   by_cases hop : op = 7
   ·subst hop
    have HE : Hid (stM s.nodes m c = (mbM s.nodes m ⟨7,v,ak,ai,nx,ot⟩ (c.tmod 2 != 0),0)):=hide (uh HST)
    have t1 : (z == 1) = false:=by rw [uh HZ]; rfl
    have t4 : (z == 4) = false:=by rw [uh HZ]; rfl
    have t2 : (z == 2) = false:=by rw [uh HZ]; rfl
    have t3 : (z == 3) = false:=by rw [uh HZ]; rfl
    have t5 : (z == 5) = false:=by rw [uh HZ]; rfl
    have t7 : (z == 7) = true:=by rw [uh HZ]; rfl
    have HP:=hide (mbr_any (uh H3) ⟨7,v,ak,ai,nx,ot⟩ (c.tmod 2 != 0) hl (by omega))
    rw [uh HNdz] at HP
    go_wp2_with fail
    refine (uh HP).mono ?_
    rintro e w4 ⟨rfl,h4,hs4⟩
    have H4:=hide h4
    have HS4:=hide ((uh HS3).trans hs4)
    clear h4 hs4
    go_wp2_with fail
    go_ret
    exact ⟨by rw [uh HE]; rfl,cv,by rw [uh HE]; exact uh H4,uh HS4⟩
   by_cases hop : op = 8
   ·subst hop
    have HE : Hid (stM s.nodes m c = (mbM s.nodes m ⟨8,v,ak,ai,nx,ot⟩ (l == r),0)):=hide (uh HST)
    have t1 : (z == 1) = false:=by rw [uh HZ]; rfl
    have t4 : (z == 4) = false:=by rw [uh HZ]; rfl
    have t2 : (z == 2) = false:=by rw [uh HZ]; rfl
    have t3 : (z == 3) = false:=by rw [uh HZ]; rfl
    have t5 : (z == 5) = false:=by rw [uh HZ]; rfl
    have t7 : (z == 7) = false:=by rw [uh HZ]; rfl
    have t8 : (z == 8) = true:=by rw [uh HZ]; rfl
    have HP:=hide (mbr_any (uh H3) ⟨8,v,ak,ai,nx,ot⟩ (l == r) hl (by omega))
    rw [uh HNdz] at HP
    go_wp2_with fail
    refine (uh HP).mono ?_
    rintro e w4 ⟨rfl,h4,hs4⟩
    have H4:=hide h4
    have HS4:=hide ((uh HS3).trans hs4)
    clear h4 hs4
    go_wp2_with fail
    go_ret
    exact ⟨by rw [uh HE]; rfl,cv,by rw [uh HE]; exact uh H4,uh HS4⟩
   by_cases hop : op = 9
   ·subst hop
    have HE : Hid (stM s.nodes m c = (mbM s.nodes m ⟨9,v,ak,ai,nx,ot⟩ (l != r),0)):=hide (uh HST)
    have t1 : (z == 1) = false:=by rw [uh HZ]; rfl
    have t4 : (z == 4) = false:=by rw [uh HZ]; rfl
    have t2 : (z == 2) = false:=by rw [uh HZ]; rfl
    have t3 : (z == 3) = false:=by rw [uh HZ]; rfl
    have t5 : (z == 5) = false:=by rw [uh HZ]; rfl
    have t7 : (z == 7) = false:=by rw [uh HZ]; rfl
    have t8 : (z == 8) = false:=by rw [uh HZ]; rfl
    have t9 : (z == 9) = true:=by rw [uh HZ]; rfl
    have HP:=hide (mbr_any (uh H3) ⟨9,v,ak,ai,nx,ot⟩ (l != r) hl (by omega))
    rw [uh HNdz] at HP
    go_wp2_with fail
    refine (uh HP).mono ?_
    rintro e w4 ⟨rfl,h4,hs4⟩
    have H4:=hide h4
    have HS4:=hide ((uh HS3).trans hs4)
    clear h4 hs4
    go_wp2_with fail
    go_ret
    exact ⟨by rw [uh HE]; rfl,cv,by rw [uh HE]; exact uh H4,uh HS4⟩
   by_cases hop : op = 6
   ·subst hop
    have HE : Hid (stM s.nodes m c = (enS s.nodes m nx,0)):=hide (uh HST)
    have t1 : (z == 1) = false:=by rw [uh HZ]; rfl
    have t4 : (z == 4) = false:=by rw [uh HZ]; rfl
    have t2 : (z == 2) = false:=by rw [uh HZ]; rfl
    have t3 : (z == 3) = false:=by rw [uh HZ]; rfl
    have t5 : (z == 5) = false:=by rw [uh HZ]; rfl
    have t7 : (z == 7) = false:=by rw [uh HZ]; rfl
    have t8 : (z == 8) = false:=by rw [uh HZ]; rfl
    have t9 : (z == 9) = false:=by rw [uh HZ]; rfl
    have t6 : (z == 6) = true:=by rw [uh HZ]; rfl
    go_wp2_with fail
    refine (men_any (uh H3) nx hl (by omega)).mono ?_
    rintro e w4 ⟨rfl,h4,hs4⟩
    have H4:=hide h4
    have HS4:=hide ((uh HS3).trans hs4)
    clear h4 hs4
    go_wp2_with fail
    go_ret
    exact ⟨by rw [uh HE]; rfl,cv,by rw [uh HE]; exact uh H4,uh HS4⟩
   by_cases hop : op = 10
   ·subst hop
    have HE : Hid (stM s.nodes m c = (enS s.nodes m nx,0)):=hide (uh HST)
    have t1 : (z == 1) = false:=by rw [uh HZ]; rfl
    have t4 : (z == 4) = false:=by rw [uh HZ]; rfl
    have t2 : (z == 2) = false:=by rw [uh HZ]; rfl
    have t3 : (z == 3) = false:=by rw [uh HZ]; rfl
    have t5 : (z == 5) = false:=by rw [uh HZ]; rfl
    have t7 : (z == 7) = false:=by rw [uh HZ]; rfl
    have t8 : (z == 8) = false:=by rw [uh HZ]; rfl
    have t9 : (z == 9) = false:=by rw [uh HZ]; rfl
    have t6 : (z == 6) = false:=by rw [uh HZ]; rfl
    have t10 : (z == 10) = true:=by rw [uh HZ]; rfl
    go_wp2_with fail
    refine (men_any (uh H3) nx hl (by omega)).mono ?_
    rintro e w4 ⟨rfl,h4,hs4⟩
    have H4:=hide h4
    have HS4:=hide ((uh HS3).trans hs4)
    clear h4 hs4
    go_wp2_with fail
    go_ret
    exact ⟨by rw [uh HE]; rfl,cv,by rw [uh HE]; exact uh H4,uh HS4⟩
   have HE : Hid (stM s.nodes m c = (m,0)):=hide (by
    rw [uh HST]
    simp [*])
   have t1 : (z == 1) = false:=by rw [uh HZ]; simp; omega
   have t4 : (z == 4) = false:=by rw [uh HZ]; simp; omega
   have t2 : (z == 2) = false:=by rw [uh HZ]; simp; omega
   have t3 : (z == 3) = false:=by rw [uh HZ]; simp; omega
   have t5 : (z == 5) = false:=by rw [uh HZ]; simp; omega
   have t7 : (z == 7) = false:=by rw [uh HZ]; simp; omega
   have t8 : (z == 8) = false:=by rw [uh HZ]; simp; omega
   have t9 : (z == 9) = false:=by rw [uh HZ]; simp; omega
   have t6 : (z == 6) = false:=by rw [uh HZ]; simp; omega
   have t10 : (z == 10) = false:=by rw [uh HZ]; simp; omega
   go_wp2_with fail
   go_ret
   exact ⟨by rw [uh HE]; rfl,cv,by rw [uh HE]; exact uh H3,uh HS3⟩
end
end Go.Proofs.YtciihepbeacppaaGreat
