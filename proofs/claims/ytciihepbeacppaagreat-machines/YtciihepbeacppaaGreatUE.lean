import Derived.Test.YtciihepbeacppaaGreatUD
namespace Go.Proofs.YtciihepbeacppaaGreat
open Go.RowKit
def rsP (vs : List ByteArray) (i : Ins) (m : RM) (c : Int) : Option RM :=
 if eqW i.op nilW then some { m with st:=m.st.set (fndL vs i.x) 0,nd:=m.nd + 1 }
 else if eqW i.op copyW then some { m with st:=m.st.set (fndL vs i.x) (vlR vs m.st i.y),nd:=m.nd + 1 }
 else if eqW i.op newW then (if m.ad.idxOf c < m.ad.length ∨ c < 1 ∨ 1048576 < c then none else some { m with ad:=m.ad ++ [c],nx:=m.nx ++ [0],st:=m.st.set (fndL vs i.x) c,nd:=m.nd + 1 })
 else if eqW i.op testW then some { m with nd:=if (if eqW i.cond starW then c.tmod 2 != 0 else ((vlR vs m.st i.x == vlR vs m.st i.y) == eqW i.cond eqSW)) then m.nd + 1 else i.to }
 else if eqW i.op goW then some { m with nd:=i.to }
 else if eqW i.op loadW || (eqW i.op storeW || eqW i.op freeW) then some { (toM vs i m).1 with nd:=if (toM vs i m).2 then m.nd + 1 else m.nd }
 else some { m with nd:=m.nd + 1 }
def rsM (vs : List ByteArray) (cl : List Ins) (m : RM) (c : Int) : RM × Bool :=
 if m.wh ≠ 0 then (m,true) else match rsP vs (cl.getD m.nd insZ) m c with
  | some m'=>(seM cl m',true)
  | none=>(m,false)
structure InsG (vs : List ByteArray) (n k : Nat) (i : Ins) : Prop where
 nx : k + 1 < n
 tt : i.to < n
 x : eqW i.op nilW = true ∨ eqW i.op copyW = true ∨ eqW i.op newW = true ∨ eqW i.op loadW = true → fndL vs i.x < vs.length
section
variable {w w' : World} {y : RL} {vs : List ByteArray} {al : List RAt} {cl : List Ins} {m : RM}
theorem Rc.setNodeZ (h : Rc w y vs al cl m) {n : Nat} {z : Int} (hz : z = (n : Int)) : Rc (w.setCell ⟨y.R,2,none⟩ (.int .i64 z)) y vs al cl { m with nd:=n }:=by subst hz; exact h.setNode n
theorem toM_nd (vs : List ByteArray) (i : Ins) (m : RM) : (toM vs i m).1.nd = m.nd:=by
 unfold toM
 dsimp only
 generalize vlR vs m.st (if eqW i.op loadW then i.y else i.x) = a
 split
 ·split
  ·rfl
  ·split <;> rfl
 ·rfl
theorem toM_ad (vs : List ByteArray) (i : Ins) (m : RM) (h : m.ad.Nodup) : (toM vs i m).1.ad.Nodup ∧ (toM vs i m).1.ad.length ≤ m.ad.length:=by
 unfold toM
 dsimp only
 generalize vlR vs m.st (if eqW i.op loadW then i.y else i.x) = a
 split
 ·split
  ·exact ⟨h,Nat.le_refl _⟩
  ·split
   ·exact ⟨h,Nat.le_refl _⟩
   ·exact ⟨h.sublist (List.eraseIdx_sublist _ _),(List.eraseIdx_sublist _ _).length_le⟩
 ·exact ⟨h,Nat.le_refl _⟩
structure AppS (w1 wx : World) (y : RL) (v1 : Value) (ad : List Int) : Prop where
 hk : Bk wx y.H 216 [y.vv,y.sv,v1,y.xv]
 ho : ∀ k,k < w1.heap.size → k ≠ y.H → y.av.ownBlock ≠ some k → wx.heap[k]? = w1.heap[k]?
 ra : wx.ownsRow 0 3 1 v1 ad.length (ints ad)
 b1 : ∀ k,v1.ownBlock = some k → y.av.ownBlock = some k ∨ w1.heap.size ≤ k
 st : Stp y.fp w1 y.fp wx
theorem AppS.of {w4 : World} {g cap n k : Nat} {o : Obj} {x : Int} (h : Rc w y vs al cl m) (hn : m.ad.length = n) (hown : w4.ownsRow 0 3 1 (.slice (some ⟨g,0,none⟩) (n + 1) cap) (n + 1) (ints m.ad ++ [.int .i64 x])) (hg : ((w.drewN k).alloc o).grownBy w4 y.av.ownBlock) (hblk : some g = y.av.ownBlock ∨ g = ((w.drewN k).alloc o).heap.size) :
  AppS w (w4.setCell ⟨y.H,2,none⟩ (.slice (some ⟨g,0,none⟩) (n + 1) cap)) y (.slice (some ⟨g,0,none⟩) (n + 1) cap) (m.ad ++ [x]):=by
 subst hn
 have hsz : ((w.drewN k).alloc o).heap.size = w.heap.size + 1:=by simp
 have hsame : ∀ j,j < w.heap.size → y.av.ownBlock ≠ some j → w4.heap[j]? = w.heap[j]?:=fun j h1 h2=>by
  rw [hg.block j (by omega) (fun e=>h2 e.symm)]
  exact Below.heap_alloc (w.drewN k) o j h1
 obtain ⟨n1,n2,n3,n4⟩:=h.nds
 have hH:=h.hk.lt
 have hgH : g ≠ y.H:=by
  rcases hblk with e | e
  ·exact (n3 g e.symm).2.1
  ·omega
 refine ⟨(h.hk.of_eq (hsame _ hH (fun e=>(n3 _ e).2.1 rfl))).set 2 _,fun j h1 h2 h3=>(Below.heap_setCell _ _ _ _ (fun e=>h2 e)).trans (hsame j h1 h3),?_,?_,?_⟩
 ·rw [ints_app1,List.length_append,List.length_singleton]
  exact ownsRow_of_eq hown (fun j hj=>Below.heap_setCell _ _ _ _ (fun e=>by cases hj; exact hgH e))
 ·intro j hj
  have hjg : g = j:=Option.some.inj hj
  subst hjg
  rcases hblk with e | e
  ·exact Or.inl e.symm
  ·exact Or.inr (by rw [hsz] at e; omega)
 ·exact ((((Stp.refl y.fp w).drewN k).alloc o).grown hg (fun j e=>Or.inl (by simp [RL.fp,e]))).setCell (p:=⟨y.H,2,none⟩) (Or.inl Rc.memH) _
theorem AppS.nx {wx : World} {v1 : Value} {ad : List Int} (h : Rc w y vs al cl m) (c : AppS w wx y v1 ad) : wx.ownsRow 0 3 1 y.xv m.nx.length (ints m.nx) :=
 ownsRow_of_eq h.nx (fun k hk=>c.ho k (h.nx.lt k hk).2 (h.nds.2.2.2 k hk).2.1 (fun e=>(h.nds.2.2.2 k hk).2.2.2 e))
theorem AppS.r1 {wx : World} {v1 : Value} {ad : List Int} (h : Rc w y vs al cl m) (c : AppS w wx y v1 ad) : wx.cell? ⟨y.R,1,none⟩ = some (.pointer (some ⟨y.H,0,none⟩)) :=
 (h.bk.of_eq (c.ho _ h.bk.lt h.nds.1 (fun e=>(h.nds.2.2.1 _ e).1 rfl))).cell 1 rfl
theorem AppS.fin {wx w4 : World} {v1 : Value} {ad : List Int} {g cap n k : Nat} {o : Obj} {x : Int} (h : Rc w y vs al cl m) (c : AppS w wx y v1 ad) (hn : m.nx.length = n) (hown : w4.ownsRow 0 3 1 (.slice (some ⟨g,0,none⟩) (n + 1) cap) (n + 1) (ints m.nx ++ [.int .i64 x])) (hg : ((wx.drewN k).alloc o).grownBy w4 y.xv.ownBlock) (hblk : some g = y.xv.ownBlock ∨ g = ((wx.drewN k).alloc o).heap.size) (hl : ad.length = n + 1) :
  Rc (w4.setCell ⟨y.H,3,none⟩ (.slice (some ⟨g,0,none⟩) (n + 1) cap)) { y with av:=v1,xv:=.slice (some ⟨g,0,none⟩) (n + 1) cap } vs al cl { m with ad:=ad,nx:=m.nx ++ [x] } ∧ Stp y.fp w (RL.fp { y with av:=v1,xv:=.slice (some ⟨g,0,none⟩) (n + 1) cap }) (w4.setCell ⟨y.H,3,none⟩ (.slice (some ⟨g,0,none⟩) (n + 1) cap)):=by
 subst hn
 have hs:=c.st.size
 have hsz : ((wx.drewN k).alloc o).heap.size = wx.heap.size + 1:=by simp
 have hsame : ∀ j,j < wx.heap.size → y.xv.ownBlock ≠ some j → w4.heap[j]? = wx.heap[j]?:=fun j h1 h2=>by
  rw [hg.block j (by omega) (fun e=>h2 e.symm)]
  exact Below.heap_alloc (wx.drewN k) o j h1
 obtain ⟨n1,n2,n3,n4⟩:=h.nds
 have hH:=h.hk.lt
 have hgH : g ≠ y.H:=by
  rcases hblk with e | e
  ·exact (n4 g e.symm).2.1
  ·omega
 have v1x : ∀ j,v1.ownBlock = some j → y.xv.ownBlock ≠ some j ∧ j ≠ y.H:=fun j hj=>by
  rcases c.b1 j hj with e | e
  ·exact ⟨fun e2=>(n4 j e2).2.2.2 e,(n3 j e).2.1⟩
  ·exact ⟨fun e2=>by have:=(h.nx.lt j e2).2; omega,by omega⟩
 have b2 : ∀ j,(Value.slice (some ⟨g,0,none⟩) (m.nx.length + 1) cap).ownBlock = some j → y.xv.ownBlock = some j ∨ w.heap.size ≤ j:=by
  intro j hj
  have hjg : g = j:=Option.some.inj hj
  subst hjg
  rcases hblk with e | e
  ·exact Or.inl e.symm
  ·exact Or.inr (by rw [hsz] at e; omega)
 refine ⟨h.recells ((c.hk.of_eq (hsame _ (by omega) (fun e=>(n4 _ e).2.1 rfl))).set 3 _) (fun j h1 h2 h3 h4=>(Below.heap_setCell _ _ _ _ (fun e=>h2 e)).trans ((hsame j (by omega) h4).trans (c.ho j h1 h2 h3))) ?_ ?_ c.b1 b2 (fun j h1 h2=>?_) (by rw [List.length_append,List.length_singleton,hl]),?_⟩
 ·exact ownsRow_of_eq c.ra (fun j hj=>(Below.heap_setCell _ _ _ _ (fun e=>(v1x j hj).2 e)).trans (hsame j (c.ra.lt j hj).2 (v1x j hj).1))
 ·rw [ints_app1,List.length_append,List.length_singleton]
  exact ownsRow_of_eq hown (fun j hj=>Below.heap_setCell _ _ _ _ (fun e=>by cases hj; exact hgH e))
 ·have hjg : g = j:=Option.some.inj h2
  subst hjg
  rcases hblk with e | e
  ·exact (v1x _ h1).1 e.symm
  ·have:=(c.ra.lt _ h1).2
   rw [hsz] at e
   omega
 ·exact (((((c.st.drewN k).alloc o).grown hg (fun j e=>Or.inl (by simp [RL.fp,e]))).setCell (p:=⟨y.H,3,none⟩) (Or.inl Rc.memH) _)).refoot (RL.foot2 c.b1 b2)
theorem copyW_l : copyW.toList = [99,111,112,121]:=ByteArray.toList_eq _
theorem testW_lR : testW.toList = [116,101,115,116]:=ByteArray.toList_eq _
theorem goW_lR : goW.toList = [103,111,116,111]:=ByteArray.toList_eq _
def RSt (w : World) (y : RL) (vs : List ByteArray) (al : List RAt) (cl : List Ins) (r : RM × Bool) (e : Ending) (w' : World) : Prop :=
 e = .returned (.bool r.2) ∧ ∃ av' xv',Rc w' { y with av:=av',xv:=xv' } vs al cl r.1 ∧ Stp y.fp w (RL.fp { y with av:=av',xv:=xv' }) w'
set_option maxRecDepth 100000 in
set_option maxHeartbeats 8000000 in
theorem rstep_any (h : Rc w y vs al cl m) (c : Int) (hv : vs.length ≤ 1000) (hn : m.nd < cl.length) (hcl : cl.length ≤ 100000) (hl : m.ad.length ≤ 18999) (hnd : m.ad.Nodup) (hg : m.wh = 0 → InsG vs cl.length m.nd (cl.getD m.nd insZ)) :
  Calls Tryz.prog 166 #[.pointer (some ⟨y.R,0,none⟩),.int .i64 c] w (RSt w y vs al cl (rsM vs cl m c)):=by
 have H:=hide h
 have r0:=h.r0
 have r2:=h.r2
 have r3:=h.r3
 by_cases hwh : m.wh ≠ 0
 ·have hw0 : ((m.wh : Int) != 0) = true:=by simpa [bne] using hwh
  have HE : Hid (rsM vs cl m c = (m,true)):=hide (by unfold rsM; rw [if_pos hwh])
  clear hwh
  go_enter Tryz.func166,Tryz.ntmps166
  go_wp2_with fail
  go_ret
  exact ⟨by rw [uh HE]; rfl,y.av,y.xv,by rw [uh HE]; exact uh H,Stp.refl _ _⟩
 ·have hw0 : ((m.wh : Int) != 0) = false:=by simpa [bne] using hwh
  have p3 : w.cell? ⟨y.P,3,none⟩ = some y.cv:=h.rp.bk.cell 3 rfl
  obtain ⟨cg,ccap,hcv,hccn,hccm,hcgl⟩:=own_pos h.rp.cr (by omega)
  have hcr:=h.rp.cr
  rw [hcv] at p3 hcr
  obtain ⟨i,hi⟩ : ∃ i,i = cl.getD m.nd insZ:=⟨_,rfl⟩
  have hi2 : cl[m.nd] = i:=by rw [hi]; simp [hn]
  have HG : Hid (InsG vs cl.length m.nd i):=hide (by rw [hi]; exact hg (by omega))
  have HSP : Hid (rsM vs cl m c = match rsP vs i m c with | some m'=>(seM cl m',true) | none=>(m,false)):=hide (by unfold rsM; rw [if_neg hwh,← hi])
  obtain ⟨op,x,yy,cond,tt,head⟩:=i
  have hoc : ∀ j,j < 6 → w.cell? ⟨cg,m.nd * 6 + j,none⟩ = (Ins.cells ⟨op,x,yy,cond,tt,head⟩)[j]?:=fun j hj=>by
   rw [hcr.cellAt (m.nd * 6 + j) (by omega),ins_get hn j hj,hi2]
  have o0 : w.cell? ⟨cg,m.nd * 6,none⟩ = some (.string op):=hoc 0 (by omega)
  have o1 : w.cell? ⟨cg,m.nd * 6 + 1,none⟩ = some (.string x):=hoc 1 (by omega)
  have o2 : w.cell? ⟨cg,m.nd * 6 + 2,none⟩ = some (.string yy):=hoc 2 (by omega)
  have o3 : w.cell? ⟨cg,m.nd * 6 + 3,none⟩ = some (.string cond):=hoc 3 (by omega)
  have o4 : w.cell? ⟨cg,m.nd * 6 + 4,none⟩ = some (.int .i64 tt):=hoc 4 (by omega)
  have o5 : w.cell? ⟨cg,m.nd * 6 + 5,none⟩ = some (.bool head):=hoc 5 (by omega)
  have hRl:=h.bk.lt
  have hPl:=h.rp.bk.lt
  have hbA:=below_boxQ w (.cells #[Value.string ⟨#[]⟩,.string ⟨#[]⟩,.string ⟨#[]⟩,.string ⟨#[]⟩,.int .i64 0,.bool false] 100)
  have a0:=(hbA.cell (p:=⟨y.R,0,none⟩) hRl).trans r0
  have a2:=(hbA.cell (p:=⟨y.R,2,none⟩) hRl).trans r2
  have a3:=(hbA.cell (p:=⟨y.P,3,none⟩) hPl).trans p3
  have q0:=(hbA.cell (p:=⟨cg,m.nd * 6,none⟩) hcgl).trans o0
  have q1:=(hbA.cell (p:=⟨cg,m.nd * 6 + 1,none⟩) hcgl).trans o1
  have q2:=(hbA.cell (p:=⟨cg,m.nd * 6 + 2,none⟩) hcgl).trans o2
  have q3:=(hbA.cell (p:=⟨cg,m.nd * 6 + 3,none⟩) hcgl).trans o3
  have q4:=(hbA.cell (p:=⟨cg,m.nd * 6 + 4,none⟩) hcgl).trans o4
  have q5:=(hbA.cell (p:=⟨cg,m.nd * 6 + 5,none⟩) hcgl).trans o5
  have HNA:=hide (Bk.new w 100 [Value.string ⟨#[]⟩,.string ⟨#[]⟩,.string ⟨#[]⟩,.string ⟨#[]⟩,.int .i64 0,.bool false])
  have HBA:=hide hbA
  have e1 : ¬ (w.heap.size = y.R):=by omega
  have e2 : ¬ (w.heap.size = y.P):=by omega
  have e3 : ¬ (w.heap.size = cg):=by omega
  have i0 : (0 : Int) ≤ (m.nd : Int):=by omega
  have i1 : (m.nd : Int) < (cl.length : Int):=by omega
  have HND:=hide hnd
  clear h hwh hcv hcr hi hi2 hoc hbA hnd hg
  go_enter Tryz.func166,Tryz.ntmps166
  go_upto_region 3 with fail
  go_cut [5] (fun p wx=>∃ N,p = .pointer (some ⟨N,0,none⟩) ∧ Hid (Bk wx N 100 [.string op,.string x,.string yy,.string cond,.int .i64 tt,.bool head]) ∧ Hid (w.heap.size ≤ N) ∧ Hid (Below w.heap.size w wx))
  case first =>
   go_region_held3 (fun W=>W.cell? ⟨y.R,0,none⟩ = some (.pointer (some ⟨y.P,0,none⟩)) ∧ W.cell? ⟨y.R,2,none⟩ = some (.int .i64 m.nd) ∧ W.cell? ⟨y.P,3,none⟩ = some (.slice (some ⟨cg,0,none⟩) cl.length ccap) ∧ W.cell? ⟨cg,m.nd * 6,none⟩ = some (.string op) ∧ W.cell? ⟨cg,m.nd * 6 + 1,none⟩ = some (.string x) ∧ W.cell? ⟨cg,m.nd * 6 + 2,none⟩ = some (.string yy) ∧ W.cell? ⟨cg,m.nd * 6 + 3,none⟩ = some (.string cond) ∧ W.cell? ⟨cg,m.nd * 6 + 4,none⟩ = some (.int .i64 tt) ∧ W.cell? ⟨cg,m.nd * 6 + 5,none⟩ = some (.bool head))
    (first | (simp only [World.cell?_drew,r0,r2,p3,o0,o1,o2,o3,o4,o5,and_self]; done) | (simp only [World.cell?_drew,a0,a2,a3,q0,q1,q2,q3,q4,q5,and_self]; done) | (simp [World.cell?_alloc_some,r0,r2,p3,o0,o1,o2,o3,o4,o5]; done) | (simp [World.cell?_setCell_far,a0,a2,a3,q0,q1,q2,q3,q4,q5,e1,e2,e3]; done))
    (first | (fail))
   go_wp2_with fail
   go_meet
   exact ⟨w.heap.size,rfl,hide (Bk.new w 100 [.string op,.string x,.string yy,.string cond,.int .i64 tt,.bool head]),hide (Nat.le_refl _),hide (below_boxQ w _).drew⟩
  case rest =>
   obtain ⟨N,rfl,hN,hNl,hbW⟩:=hcut
   have H1:=hide ((uh H).below (uh hbW))
   have HS1 : Hid (Stp y.fp w y.fp wc):=hide (Stp.ofBw (uh hbW))
   have HNf : Hid (N ∉ y.fp):=hide (fun e=>by have h1:=(uh H).lt _ e; have h2:=uh hNl; omega)
   obtain ⟨b0,b1,b2,b3,b4,b5,-⟩:=bk6 (uh hN)
   have s2:=(uh H1).r2
   have sf:=(uh H1).bk.frz 2
   have hto1 : m.nd + 1 < cl.length:=(uh HG).nx
   have htt : tt < cl.length:=(uh HG).tt
   have hzn : ((m.nd : Int) + 1) = ((m.nd + 1 : Nat) : Int):=by omega
   have HZN:=hide hzn
   have hwn : IntKind.i64.wrap ((m.nd : Int) + 1) = (m.nd : Int) + 1:=by rw [IntKind.wrap_i64]; omega
   clear r0 r2 r3 p3 o0 o1 o2 o3 o4 o5 a0 a2 a3 q0 q1 q2 q3 q4 q5 HNA HBA e1 e2 e3 hRl hPl hcgl hw0 hzn hbW hNl
   cases ez : eqW op nilW with
   | true =>
    have hz : (op.toList == [110,105,108]) = true:=by rw [← nilW_l]; exact ez
    have HE : Hid (rsM vs cl m c = (seM cl { m with st:=m.st.set (fndL vs x) 0,nd:=m.nd + 1 },true)):=hide (by rw [uh HSP]; simp only [rsP,ez,if_true])
    have HSe:=hide (rset_any (uh H1) hv x ((uh HG).x (by simp only [ez,true_or])) 0)
    clear ez
    go_wp2_with fail
    refine (uh HSe).mono ?_
    rintro e w4 ⟨rfl,hR4,hS4⟩
    have H4:=hide hR4
    have HS4:=hide ((uh HS1).trans hS4)
    have t2:=hR4.r2
    have tf:=hR4.bk.frz 2
    clear hR4 hS4 s2 sf b0 b1 b2 b3 b4 b5
    have H5:=hide (Rc.setNodeZ (uh H4) (uh HZN))
    have HS5:=hide ((uh HS4).setCell (p:=⟨y.R,2,none⟩) (Or.inl Rc.memR) (.int .i64 ((m.nd : Int) + 1)))
    have HSt:=hide (rsettle_any (uh H5) hv hto1 hcl (by show m.ad.length ≤ 100000; omega) (uh HND))
    go_wp2_with fail
    refine (uh HSt).mono ?_
    rintro e w9 ⟨rfl,hR9,hS9⟩
    have HR9:=hide hR9
    have HS9:=hide hS9
    clear hR9 hS9
    go_wp2_with fail
    go_ret
    exact ⟨by rw [uh HE]; rfl,_,_,by rw [uh HE]; exact uh HR9,(uh HS5).trans (uh HS9)⟩
   | false =>
    have hz : (op.toList == [110,105,108]) = false:=by rw [← nilW_l]; exact ez
    cases ec : eqW op copyW with
    | true =>
     have hc : (op.toList == [99,111,112,121]) = true:=by rw [← copyW_l]; exact ec
     have HE : Hid (rsM vs cl m c = (seM cl { m with st:=m.st.set (fndL vs x) (vlR vs m.st yy),nd:=m.nd + 1 },true)):=hide (by rw [uh HSP]; simp only [rsP,ez,ec,if_true,Bool.false_eq_true,if_false])
     have HVy:=hide (rval_any (uh H1) hv yy)
     have HSe:=hide (rset_any (uh H1) hv x ((uh HG).x (by simp only [ez,ec,true_or,or_true])) (vlR vs m.st yy))
     clear ez ec
     go_wp2_with fail
     refine (uh HVy).mono ?_
     rintro e w4 ⟨rfl,e4⟩
     subst e4
     go_wp2_with fail
     refine (uh HSe).mono ?_
     rintro e w4 ⟨rfl,hR4,hS4⟩
     have H4:=hide hR4
     have HS4:=hide ((uh HS1).trans hS4)
     have t2:=hR4.r2
     have tf:=hR4.bk.frz 2
     clear hR4 hS4 s2 sf b0 b1 b2 b3 b4 b5
     have H5:=hide (Rc.setNodeZ (uh H4) (uh HZN))
     have HS5:=hide ((uh HS4).setCell (p:=⟨y.R,2,none⟩) (Or.inl Rc.memR) (.int .i64 ((m.nd : Int) + 1)))
     have HSt:=hide (rsettle_any (uh H5) hv hto1 hcl (by show m.ad.length ≤ 100000; omega) (uh HND))
     go_wp2_with fail
     refine (uh HSt).mono ?_
     rintro e w9 ⟨rfl,hR9,hS9⟩
     have HR9:=hide hR9
     have HS9:=hide hS9
     clear hR9 hS9
     go_wp2_with fail
     go_ret
     exact ⟨by rw [uh HE]; rfl,_,_,by rw [uh HE]; exact uh HR9,(uh HS5).trans (uh HS9)⟩
    | false =>
     have hc : (op.toList == [99,111,112,121]) = false:=by rw [← copyW_l]; exact ec
     cases ew : eqW op newW with
     | true =>
      have hw : (op.toList == [110,101,119]) = true:=by rw [← newW_l]; exact ew
      have HAt:=hide (rat_any (uh H1) (by omega) c)
      by_cases hf : m.ad.idxOf c < m.ad.length
      ·obtain ⟨k,hk⟩ : ∃ k,k = m.ad.idxOf c:=⟨_,rfl⟩
       have hr : rI m.ad c = (k : Int):=by unfold rI; rw [if_pos hf,hk]
       rw [hr] at HAt
       have d1 : decide ((0 : Int) ≤ (k : Int)) = true:=by simp
       have HE : Hid (rsM vs cl m c = (m,false)):=hide (by rw [uh HSP]; simp only [rsP,ez,ec,ew,if_true,Bool.false_eq_true,if_false]; rw [if_pos (Or.inl hf)])
       clear ez ec ew
       go_wp2_with fail
       refine (uh HAt).mono ?_
       rintro e w4 ⟨rfl,e4⟩
       subst e4
       go_wp2_with fail
       go_ret
       exact ⟨by rw [uh HE]; rfl,y.av,y.xv,by rw [uh HE]; exact uh H1,uh HS1⟩
      ·have hr : rI m.ad c = -1:=by unfold rI; rw [if_neg hf]
       rw [hr] at HAt
       by_cases h1 : c < 1
       ·have d1 : decide (c < 1) = true:=by simpa using h1
        have HE : Hid (rsM vs cl m c = (m,false)):=hide (by rw [uh HSP]; simp only [rsP,ez,ec,ew,if_true,Bool.false_eq_true,if_false]; rw [if_pos (Or.inr (Or.inl h1))])
        clear ez ec ew
        go_wp2_with fail
        refine (uh HAt).mono ?_
        rintro e w4 ⟨rfl,e4⟩
        subst e4
        go_wp2_with fail
        go_ret
        exact ⟨by rw [uh HE]; rfl,y.av,y.xv,by rw [uh HE]; exact uh H1,uh HS1⟩
       ·have d1 : decide (c < 1) = false:=by simpa using h1
        by_cases h2 : 1048576 < c
        ·have d2 : decide ((1048576 : Int) < c) = true:=by simpa using h2
         have HE : Hid (rsM vs cl m c = (m,false)):=hide (by rw [uh HSP]; simp only [rsP,ez,ec,ew,if_true,Bool.false_eq_true,if_false]; rw [if_pos (Or.inr (Or.inr h2))])
         clear ez ec ew
         go_wp2_with fail
         refine (uh HAt).mono ?_
         rintro e w4 ⟨rfl,e4⟩
         subst e4
         go_wp2_with fail
         go_ret
         exact ⟨by rw [uh HE]; rfl,y.av,y.xv,by rw [uh HE]; exact uh H1,uh HS1⟩
        ·have d2 : decide ((1048576 : Int) < c) = false:=by simpa using h2
         have HE : Hid (rsM vs cl m c = (seM cl { m with ad:=m.ad ++ [c],nx:=m.nx ++ [0],st:=m.st.set (fndL vs x) c,nd:=m.nd + 1 },true)):=hide (by rw [uh HSP]; simp only [rsP,ez,ec,ew,if_true,Bool.false_eq_true,if_false]; rw [if_neg (by rintro (h | h | h); exact hf h; exact h1 h; exact h2 h)])
         have hfx:=(uh HG).x (by simp only [ez,ec,ew,true_or,or_true])
         have HNi : Hid (c ∉ m.ad):=hide (fun hm=>hf (List.idxOf_lt_length_iff.2 hm))
         have r1:=(uh H1).r1
         have z2:=(uh H1).h2
         have f2:=(uh H1).hk.frz 2
         have HLx:=hide (uh H1).lx
         have hnl : m.nx.length ≤ 18999:=by rw [uh HLx]; exact hl
         obtain ⟨j0,hj,hy0,hy1,hy2⟩:=info_parts Tryz.infoInt
         have HROW:=hide (uh H1).ad
         have HNR : Hid (y.av.ownBlock ≠ some y.R):=hide (fun e=>((uh H1).nds.2.2.1 _ e).1 rfl)
         have HNP : Hid (y.av.ownBlock ≠ some y.H):=hide (fun e=>((uh H1).nds.2.2.1 _ e).2.1 rfl)
         have hRl : y.R < wc.heap.size:=(uh H1).bk.lt
         have hHl : y.H < wc.heap.size:=(uh H1).hk.lt
         have r1a : ∀ (j : Nat) (o : Obj),((wc.drewN j).alloc o).cell? ⟨y.R,1,none⟩ = some (.pointer (some ⟨y.H,0,none⟩)):=fun j o=>(World.cell?_of_block (a:=⟨y.R,1,none⟩) (Below.heap_alloc (wc.drewN j) o _ hRl)).trans r1
         have z2a : ∀ (j : Nat) (o : Obj),((wc.drewN j).alloc o).cell? ⟨y.H,2,none⟩ = some y.av:=fun j o=>(World.cell?_of_block (a:=⟨y.H,2,none⟩) (Below.heap_alloc (wc.drewN j) o _ hHl)).trans z2
         clear ez ec ew hf h1 h2 hr
         go_wp2_with fail
         refine (uh HAt).mono ?_
         rintro e w4 ⟨rfl,e4⟩
         subst e4
         go_upto_region 15 with fail
         go_cut [83] (fun _ wx=>∃ v1,Hid (AppS w4 wx y v1 (m.ad ++ [c])))
         case first =>
          go_region_law (refine step_app1 _ rfl (.tmp 80) (.tmp 82) 29 rfl 0 3 j0 (.int .i64 0) 1 8 Tryz.underlying29 hj hy0 hy1 hy2 rfl (by decide) y.av m.ad.length (ints m.ad) (by simp [Act.eval]) (own_da (uh HROW) _ _) ⟨w4.heap.size,0,none⟩ 1 [.int .i64 c] (by simp [Act.eval]) rfl (one_da _ _ _ _) (ints_one [c]) (by omega) (by omega) (le_da (Nat.zero_le _) _ _) ?_; intro g2 cap2 w5 hown2 hgrow2 hblk2; have c1':=grown_cell hgrow2 hRl (uh HNR) 1 r1; have c2':=grown_cell hgrow2 hHl (uh HNP) 2 z2; have f2':=grown_frozen hgrow2 hHl (uh HNP) 2 f2; have HI':=hide (AppS.of (uh H1) rfl hown2 hgrow2 hblk2); clear hown2 hgrow2 hblk2)
          all_goals
           go_wp2_with fail
           go_meet
           exact ⟨_,HI'⟩
         case rest =>
          obtain ⟨v1,hA⟩:=hcut
          clear r1 z2 f2 r1a z2a HROW HNR HNP hRl hHl
          have r1:=(uh hA).r1 (uh H1)
          have z3 : wc.cell? ⟨y.H,3,none⟩ = some y.xv:=(uh hA).hk.cell 3 rfl
          have f3:=(uh hA).hk.frz 3
          have HROW:=hide ((uh hA).nx (uh H1))
          have HNR : Hid (y.xv.ownBlock ≠ some y.R):=hide (fun e=>((uh H1).nds.2.2.2 _ e).1 rfl)
          have HNP : Hid (y.xv.ownBlock ≠ some y.H):=hide (fun e=>((uh H1).nds.2.2.2 _ e).2.1 rfl)
          have hRl : y.R < wc.heap.size:=Nat.lt_of_lt_of_le (uh H1).bk.lt (uh hA).st.size
          have hHl : y.H < wc.heap.size:=(uh hA).hk.lt
          have r1a : ∀ (j : Nat) (o : Obj),((wc.drewN j).alloc o).cell? ⟨y.R,1,none⟩ = some (.pointer (some ⟨y.H,0,none⟩)):=fun j o=>(World.cell?_of_block (a:=⟨y.R,1,none⟩) (Below.heap_alloc (wc.drewN j) o _ hRl)).trans r1
          have z3a : ∀ (j : Nat) (o : Obj),((wc.drewN j).alloc o).cell? ⟨y.H,3,none⟩ = some y.xv:=fun j o=>(World.cell?_of_block (a:=⟨y.H,3,none⟩) (Below.heap_alloc (wc.drewN j) o _ hHl)).trans z3
          have HLn : Hid ((m.ad ++ [c]).length = m.nx.length + 1):=hide (by rw [List.length_append,List.length_singleton,uh HLx])
          have hN4 : Hid (Bk wc N 100 [.string op,.string x,.string yy,.string cond,.int .i64 tt,.bool head]):=hide ((uh hN).of_eq ((uh hA).st.block N (uh hN).lt (uh HNf)))
          clear b0 b1 b2 b3 b4 b5 s2 sf
          go_upto_region 16 with fail
          go_cut [98] (fun _ wx=>∃ v2,Hid (Rc wx { y with av:=v1,xv:=v2 } vs al cl { m with ad:=m.ad ++ [c],nx:=m.nx ++ [0] }) ∧ Hid (Stp y.fp w (RL.fp { y with av:=v1,xv:=v2 }) wx) ∧ Hid (wx.cell? ⟨N,1,none⟩ = some (.string x)))
          case first =>
           go_region_law (refine step_app1 _ rfl (.tmp 96) (.tmp 97) 29 rfl 0 3 j0 (.int .i64 0) 1 8 Tryz.underlying29 hj hy0 hy1 hy2 rfl (by decide) y.xv m.nx.length (ints m.nx) (by simp [Act.eval]) (own_da (uh HROW) _ _) ⟨wc.heap.size,0,none⟩ 1 [.int .i64 0] (by simp [Act.eval]) rfl (one_da _ _ _ _) (ints_one [0]) (by omega) (by omega) (le_da (Nat.zero_le _) _ _) ?_; intro g2 cap2 w5 hown2 hgrow2 hblk2; have c1':=grown_cell hgrow2 hRl (uh HNR) 1 r1; have c2':=grown_cell hgrow2 hHl (uh HNP) 3 z3; have f2':=grown_frozen hgrow2 hHl (uh HNP) 3 f3; have HI':=hide (AppS.fin (uh H1) (uh hA) rfl hown2 hgrow2 hblk2 (uh HLn)); clear hown2 hgrow2 hblk2)
           all_goals
            go_wp2_with fail
            go_meet
            have hS5:=(uh HS1).trans (uh HI').2
            exact ⟨_,hide (uh HI').1,hide hS5,hide ((((uh HI').2.cell (p:=⟨N,1,none⟩) (uh hN).lt (uh HNf)).trans ((uh hN).cell 1 rfl)))⟩
          case rest =>
           obtain ⟨v2,hR6,hS6,hN6⟩:=hcut
           have HSe:=hide (rset_any (uh hR6) hv x hfx c)
           have n1:=uh hN6
           clear r1 z3 f3 r1a z3a HROW HNR HNP hRl hHl
           go_wp2_with fail
           refine (uh HSe).mono ?_
           rintro e w7 ⟨rfl,hR7,hS7⟩
           have H4:=hide hR7
           have HS4:=hide ((uh hS6).trans hS7)
           have t2 : w7.cell? ⟨y.R,2,none⟩ = some (.int .i64 (m.nd : Int)):=hR7.r2
           have tf : w7.frozen? ⟨y.R,2,none⟩ = false:=hR7.bk.frz 2
           have HNd2 : Hid ((m.ad ++ [c]).Nodup):=hide (by rw [List.nodup_append]; exact ⟨uh HND,(by simp),fun a ha b hb e=>by rw [List.mem_singleton] at hb; subst hb; subst e; exact uh HNi ha⟩)
           clear hR7 hS7
           have H5:=hide (Rc.setNodeZ (uh H4) (uh HZN))
           have HS5:=hide ((uh HS4).setCell (p:=⟨y.R,2,none⟩) (Or.inl Rc.memR) (.int .i64 ((m.nd : Int) + 1)))
           have HSt:=hide (rsettle_any (uh H5) hv hto1 hcl (by show (m.ad ++ [c]).length ≤ 100000; simp; omega) (uh HNd2))
           go_wp2_with fail
           refine (uh HSt).mono ?_
           rintro e w9 ⟨rfl,hR9,hS9⟩
           have HR9:=hide hR9
           have HS9:=hide hS9
           clear hR9 hS9
           go_wp2_with fail
           go_ret
           exact ⟨by rw [uh HE]; rfl,_,_,by rw [uh HE]; exact uh HR9,(uh HS5).trans (uh HS9)⟩
     | false =>
      have hw : (op.toList == [110,101,119]) = false:=by rw [← newW_l]; exact ew
      cases et : eqW op testW with
      | true =>
       have ht : (op.toList == [116,101,115,116]) = true:=by rw [← testW_lR]; exact et
       cases es : eqW cond starW with
       | true =>
        have hs : (cond.toList == [42]) = true:=by rw [← starW_l]; exact es
        have hs2 : (cond.toList != [42]) = false:=by rw [bne,hs]; rfl
        cases ey : (c.tmod 2 != 0) with
        | true =>
         have HE : Hid (rsM vs cl m c = (seM cl { m with nd:=m.nd + 1 },true)):=hide (by rw [uh HSP]; simp only [rsP,ez,ec,ew,et,es,ey,if_true,Bool.false_eq_true,if_false])
         clear ez ec ew et es
         have H5:=hide (Rc.setNodeZ (uh H1) (uh HZN))
         have HS5:=hide ((uh HS1).setCell (p:=⟨y.R,2,none⟩) (Or.inl Rc.memR) (.int .i64 ((m.nd : Int) + 1)))
         have HSt:=hide (rsettle_any (uh H5) hv hto1 hcl (by show m.ad.length ≤ 100000; omega) (uh HND))
         go_wp2_with fail
         refine (uh HSt).mono ?_
         rintro e w9 ⟨rfl,hR9,hS9⟩
         have HR9:=hide hR9
         have HS9:=hide hS9
         clear hR9 hS9
         go_wp2_with fail
         go_ret
         exact ⟨by rw [uh HE]; rfl,_,_,by rw [uh HE]; exact uh HR9,(uh HS5).trans (uh HS9)⟩
        | false =>
         have HE : Hid (rsM vs cl m c = (seM cl { m with nd:=tt },true)):=hide (by rw [uh HSP]; simp only [rsP,ez,ec,ew,et,es,ey,if_true,Bool.false_eq_true,if_false])
         clear ez ec ew et es
         have H5:=hide (Rc.setNodeZ (uh H1) (n:=tt) rfl)
         have HS5:=hide ((uh HS1).setCell (p:=⟨y.R,2,none⟩) (Or.inl Rc.memR) (.int .i64 (tt : Int)))
         have HSt:=hide (rsettle_any (uh H5) hv htt hcl (by show m.ad.length ≤ 100000; omega) (uh HND))
         go_wp2_with fail
         refine (uh HSt).mono ?_
         rintro e w9 ⟨rfl,hR9,hS9⟩
         have HR9:=hide hR9
         have HS9:=hide hS9
         clear hR9 hS9
         go_wp2_with fail
         go_ret
         exact ⟨by rw [uh HE]; rfl,_,_,by rw [uh HE]; exact uh HR9,(uh HS5).trans (uh HS9)⟩
       | false =>
        have hs : (cond.toList == [42]) = false:=by rw [← starW_l]; exact es
        have hs2 : (cond.toList != [42]) = true:=by rw [bne,hs]; rfl
        obtain ⟨q,hq⟩ : ∃ q,q = eqW cond eqSW:=⟨_,rfl⟩
        have hq2 : (cond.toList == [61]) = q:=by rw [hq,← eqSW_l]; rfl
        have HVx:=hide (rval_any (uh H1) hv x)
        have HVy:=hide (rval_any (uh H1) hv yy)
        obtain ⟨u,hu⟩ : ∃ u,u = vlR vs m.st x:=⟨_,rfl⟩
        obtain ⟨v,hv'⟩ : ∃ v,v = vlR vs m.st yy:=⟨_,rfl⟩
        rw [← hu] at HVx
        rw [← hv'] at HVy
        have HU:=hide hu
        have HV:=hide hv'
        have HQ:=hide hq
        cases ey : ((u == v) == q) with
        | true =>
         have HE : Hid (rsM vs cl m c = (seM cl { m with nd:=m.nd + 1 },true)):=hide (by rw [uh HSP]; simp only [rsP,ez,ec,ew,et,es,if_true,Bool.false_eq_true,if_false]; rw [← uh HU,← uh HV,← uh HQ,ey]; rfl)
         clear ez ec ew et es hu hv' hq
         go_wp2_with fail
         refine (uh HVx).mono ?_
         rintro e w4 ⟨rfl,e4⟩
         subst e4
         go_wp2_with fail
         refine (uh HVy).mono ?_
         rintro e w4 ⟨rfl,e4⟩
         subst e4
         have H5:=hide (Rc.setNodeZ (uh H1) (uh HZN))
         have HS5:=hide ((uh HS1).setCell (p:=⟨y.R,2,none⟩) (Or.inl Rc.memR) (.int .i64 ((m.nd : Int) + 1)))
         have HSt:=hide (rsettle_any (uh H5) hv hto1 hcl (by show m.ad.length ≤ 100000; omega) (uh HND))
         go_wp2_with fail
         refine (uh HSt).mono ?_
         rintro e w9 ⟨rfl,hR9,hS9⟩
         have HR9:=hide hR9
         have HS9:=hide hS9
         clear hR9 hS9
         go_wp2_with fail
         go_ret
         exact ⟨by rw [uh HE]; rfl,_,_,by rw [uh HE]; exact uh HR9,(uh HS5).trans (uh HS9)⟩
        | false =>
         have HE : Hid (rsM vs cl m c = (seM cl { m with nd:=tt },true)):=hide (by rw [uh HSP]; simp only [rsP,ez,ec,ew,et,es,if_true,Bool.false_eq_true,if_false]; rw [← uh HU,← uh HV,← uh HQ,ey]; rfl)
         clear ez ec ew et es hu hv' hq
         go_wp2_with fail
         refine (uh HVx).mono ?_
         rintro e w4 ⟨rfl,e4⟩
         subst e4
         go_wp2_with fail
         refine (uh HVy).mono ?_
         rintro e w4 ⟨rfl,e4⟩
         subst e4
         have H5:=hide (Rc.setNodeZ (uh H1) (n:=tt) rfl)
         have HS5:=hide ((uh HS1).setCell (p:=⟨y.R,2,none⟩) (Or.inl Rc.memR) (.int .i64 (tt : Int)))
         have HSt:=hide (rsettle_any (uh H5) hv htt hcl (by show m.ad.length ≤ 100000; omega) (uh HND))
         go_wp2_with fail
         refine (uh HSt).mono ?_
         rintro e w9 ⟨rfl,hR9,hS9⟩
         have HR9:=hide hR9
         have HS9:=hide hS9
         clear hR9 hS9
         go_wp2_with fail
         go_ret
         exact ⟨by rw [uh HE]; rfl,_,_,by rw [uh HE]; exact uh HR9,(uh HS5).trans (uh HS9)⟩
      | false =>
       have ht : (op.toList == [116,101,115,116]) = false:=by rw [← testW_lR]; exact et
       cases eg : eqW op goW with
       | true =>
        have hg : (op.toList == [103,111,116,111]) = true:=by rw [← goW_lR]; exact eg
        have HE : Hid (rsM vs cl m c = (seM cl { m with nd:=tt },true)):=hide (by rw [uh HSP]; simp only [rsP,ez,ec,ew,et,eg,if_true,Bool.false_eq_true,if_false])
        clear ez ec ew et eg
        have H5:=hide (Rc.setNodeZ (uh H1) (n:=tt) rfl)
        have HS5:=hide ((uh HS1).setCell (p:=⟨y.R,2,none⟩) (Or.inl Rc.memR) (.int .i64 (tt : Int)))
        have HSt:=hide (rsettle_any (uh H5) hv htt hcl (by show m.ad.length ≤ 100000; omega) (uh HND))
        go_wp2_with fail
        refine (uh HSt).mono ?_
        rintro e w9 ⟨rfl,hR9,hS9⟩
        have HR9:=hide hR9
        have HS9:=hide hS9
        clear hR9 hS9
        go_wp2_with fail
        go_ret
        exact ⟨by rw [uh HE]; rfl,_,_,by rw [uh HE]; exact uh HR9,(uh HS5).trans (uh HS9)⟩
       | false =>
        have hg : (op.toList == [103,111,116,111]) = false:=by rw [← goW_lR]; exact eg
        have hl' : (op.toList == [108,111,97,100]) = eqW op loadW:=by rw [← loadW_l]; rfl
        have hs' : (op.toList == [115,116,111,114,101]) = eqW op storeW:=by rw [← storeW_l]; rfl
        have hf' : (op.toList == [102,114,101,101]) = eqW op freeW:=by rw [← freeW_l]; rfl
        have HPr : Hid (rsP vs ⟨op,x,yy,cond,tt,head⟩ m c = if eqW op loadW || (eqW op storeW || eqW op freeW) then some { (toM vs ⟨op,x,yy,cond,tt,head⟩ m).1 with nd:=if (toM vs ⟨op,x,yy,cond,tt,head⟩ m).2 then m.nd + 1 else m.nd } else some { m with nd:=m.nd + 1 }):=hide (by simp only [rsP,ez,ec,ew,et,eg,Bool.false_eq_true,if_false])
        have HTo:=hide (rtouch_any (uh H1) hv (by omega) ⟨op,x,yy,cond,tt,head⟩ (fun e=>(uh HG).x (Or.inr (Or.inr (Or.inr e)))))
        have hnd1:=toM_nd vs ⟨op,x,yy,cond,tt,head⟩ m
        have had1:=toM_ad vs ⟨op,x,yy,cond,tt,head⟩ m (uh HND)
        obtain ⟨r,hr⟩ : ∃ r,r = toM vs ⟨op,x,yy,cond,tt,head⟩ m:=⟨_,rfl⟩
        rw [← hr] at HTo HPr hnd1 had1
        obtain ⟨m1,ok⟩:=r
        have HAd:=hide had1
        have HNd:=hide hnd1
        clear hr hnd1 had1 ez ec ew et eg
        cases el : eqW op loadW with
        | true =>
         rw [el] at hl' HPr
         simp only [Bool.true_or,if_true] at HPr
         clear el
         have HE0 : Hid (rsM vs cl m c = (seM cl { m1 with nd:=if ok then m.nd + 1 else m.nd },true)):=hide (by rw [uh HSP,uh HPr])
         go_wp2_with fail
         refine (uh HTo).mono ?_
         rintro e w4 ⟨rfl,av',xv',hR4,hS4⟩
         have H4:=hide hR4
         have HS4:=hide ((uh HS1).trans hS4)
         have t2 : w4.cell? ⟨y.R,2,none⟩ = some (.int .i64 (m.nd : Int)):=by rw [← show m1.nd = m.nd from uh HNd]; exact hR4.r2
         have tf : w4.frozen? ⟨y.R,2,none⟩ = false:=hR4.bk.frz 2
         have h9 : m1.ad.length ≤ m.ad.length:=(uh HAd).2
         clear hR4 hS4 s2 sf b0 b1 b2 b3 b4 b5 HTo
         cases ok with
         | true =>
          have HE : Hid (rsM vs cl m c = (seM cl { m1 with nd:=m.nd + 1 },true)):=hide (by rw [uh HE0]; rfl)
          have H5:=hide (Rc.setNodeZ (uh H4) (uh HZN))
          have HS5:=hide ((uh HS4).setCell (p:=⟨y.R,2,none⟩) (Or.inl Rc.memR) (.int .i64 ((m.nd : Int) + 1)))
          have HSt:=hide (rsettle_any (uh H5) hv hto1 hcl (by show m1.ad.length ≤ 100000; omega) (uh HAd).1)
          go_wp2_with fail
          refine (uh HSt).mono ?_
          rintro e w9 ⟨rfl,hR9,hS9⟩
          have HR9:=hide hR9
          have HS9:=hide hS9
          clear hR9 hS9
          go_wp2_with fail
          go_ret
          exact ⟨by rw [uh HE]; rfl,_,_,by rw [uh HE]; exact uh HR9,(uh HS5).trans (uh HS9)⟩
         | false =>
          have HE : Hid (rsM vs cl m c = (seM cl { m1 with nd:=m.nd },true)):=hide (by rw [uh HE0]; rfl)
          have H5:=hide (Rc.setNodeZ (uh H4) (n:=m.nd) rfl)
          have HS5:=hide ((uh HS4).setCell (p:=⟨y.R,2,none⟩) (Or.inl Rc.memR) (.int .i64 (m.nd : Int)))
          have HSt:=hide (rsettle_any (uh H5) hv hn hcl (by show m1.ad.length ≤ 100000; omega) (uh HAd).1)
          go_wp2_with fail
          refine (uh HSt).mono ?_
          rintro e w9 ⟨rfl,hR9,hS9⟩
          have HR9:=hide hR9
          have HS9:=hide hS9
          clear hR9 hS9
          go_wp2_with fail
          go_ret
          exact ⟨by rw [uh HE]; rfl,_,_,by rw [uh HE]; exact uh HR9,(uh HS5).trans (uh HS9)⟩
        | false =>
         rw [el] at hl' HPr
         clear el
         cases es : eqW op storeW with
         | true =>
          rw [es] at hs' HPr
          simp only [Bool.true_or,Bool.or_true,if_true] at HPr
          clear es
          have HE0 : Hid (rsM vs cl m c = (seM cl { m1 with nd:=if ok then m.nd + 1 else m.nd },true)):=hide (by rw [uh HSP,uh HPr])
          go_wp2_with fail
          refine (uh HTo).mono ?_
          rintro e w4 ⟨rfl,av',xv',hR4,hS4⟩
          have H4:=hide hR4
          have HS4:=hide ((uh HS1).trans hS4)
          have t2 : w4.cell? ⟨y.R,2,none⟩ = some (.int .i64 (m.nd : Int)):=by rw [← show m1.nd = m.nd from uh HNd]; exact hR4.r2
          have tf : w4.frozen? ⟨y.R,2,none⟩ = false:=hR4.bk.frz 2
          have h9 : m1.ad.length ≤ m.ad.length:=(uh HAd).2
          clear hR4 hS4 s2 sf b0 b1 b2 b3 b4 b5 HTo
          cases ok with
          | true =>
           have HE : Hid (rsM vs cl m c = (seM cl { m1 with nd:=m.nd + 1 },true)):=hide (by rw [uh HE0]; rfl)
           have H5:=hide (Rc.setNodeZ (uh H4) (uh HZN))
           have HS5:=hide ((uh HS4).setCell (p:=⟨y.R,2,none⟩) (Or.inl Rc.memR) (.int .i64 ((m.nd : Int) + 1)))
           have HSt:=hide (rsettle_any (uh H5) hv hto1 hcl (by show m1.ad.length ≤ 100000; omega) (uh HAd).1)
           go_wp2_with fail
           refine (uh HSt).mono ?_
           rintro e w9 ⟨rfl,hR9,hS9⟩
           have HR9:=hide hR9
           have HS9:=hide hS9
           clear hR9 hS9
           go_wp2_with fail
           go_ret
           exact ⟨by rw [uh HE]; rfl,_,_,by rw [uh HE]; exact uh HR9,(uh HS5).trans (uh HS9)⟩
          | false =>
           have HE : Hid (rsM vs cl m c = (seM cl { m1 with nd:=m.nd },true)):=hide (by rw [uh HE0]; rfl)
           have H5:=hide (Rc.setNodeZ (uh H4) (n:=m.nd) rfl)
           have HS5:=hide ((uh HS4).setCell (p:=⟨y.R,2,none⟩) (Or.inl Rc.memR) (.int .i64 (m.nd : Int)))
           have HSt:=hide (rsettle_any (uh H5) hv hn hcl (by show m1.ad.length ≤ 100000; omega) (uh HAd).1)
           go_wp2_with fail
           refine (uh HSt).mono ?_
           rintro e w9 ⟨rfl,hR9,hS9⟩
           have HR9:=hide hR9
           have HS9:=hide hS9
           clear hR9 hS9
           go_wp2_with fail
           go_ret
           exact ⟨by rw [uh HE]; rfl,_,_,by rw [uh HE]; exact uh HR9,(uh HS5).trans (uh HS9)⟩
         | false =>
          rw [es] at hs' HPr
          clear es
          cases ef : eqW op freeW with
          | true =>
           rw [ef] at hf' HPr
           simp only [Bool.or_true,if_true] at HPr
           clear ef
           have HE0 : Hid (rsM vs cl m c = (seM cl { m1 with nd:=if ok then m.nd + 1 else m.nd },true)):=hide (by rw [uh HSP,uh HPr])
           go_wp2_with fail
           refine (uh HTo).mono ?_
           rintro e w4 ⟨rfl,av',xv',hR4,hS4⟩
           have H4:=hide hR4
           have HS4:=hide ((uh HS1).trans hS4)
           have t2 : w4.cell? ⟨y.R,2,none⟩ = some (.int .i64 (m.nd : Int)):=by rw [← show m1.nd = m.nd from uh HNd]; exact hR4.r2
           have tf : w4.frozen? ⟨y.R,2,none⟩ = false:=hR4.bk.frz 2
           have h9 : m1.ad.length ≤ m.ad.length:=(uh HAd).2
           clear hR4 hS4 s2 sf b0 b1 b2 b3 b4 b5 HTo
           cases ok with
           | true =>
            have HE : Hid (rsM vs cl m c = (seM cl { m1 with nd:=m.nd + 1 },true)):=hide (by rw [uh HE0]; rfl)
            have H5:=hide (Rc.setNodeZ (uh H4) (uh HZN))
            have HS5:=hide ((uh HS4).setCell (p:=⟨y.R,2,none⟩) (Or.inl Rc.memR) (.int .i64 ((m.nd : Int) + 1)))
            have HSt:=hide (rsettle_any (uh H5) hv hto1 hcl (by show m1.ad.length ≤ 100000; omega) (uh HAd).1)
            go_wp2_with fail
            refine (uh HSt).mono ?_
            rintro e w9 ⟨rfl,hR9,hS9⟩
            have HR9:=hide hR9
            have HS9:=hide hS9
            clear hR9 hS9
            go_wp2_with fail
            go_ret
            exact ⟨by rw [uh HE]; rfl,_,_,by rw [uh HE]; exact uh HR9,(uh HS5).trans (uh HS9)⟩
           | false =>
            have HE : Hid (rsM vs cl m c = (seM cl { m1 with nd:=m.nd },true)):=hide (by rw [uh HE0]; rfl)
            have H5:=hide (Rc.setNodeZ (uh H4) (n:=m.nd) rfl)
            have HS5:=hide ((uh HS4).setCell (p:=⟨y.R,2,none⟩) (Or.inl Rc.memR) (.int .i64 (m.nd : Int)))
            have HSt:=hide (rsettle_any (uh H5) hv hn hcl (by show m1.ad.length ≤ 100000; omega) (uh HAd).1)
            go_wp2_with fail
            refine (uh HSt).mono ?_
            rintro e w9 ⟨rfl,hR9,hS9⟩
            have HR9:=hide hR9
            have HS9:=hide hS9
            clear hR9 hS9
            go_wp2_with fail
            go_ret
            exact ⟨by rw [uh HE]; rfl,_,_,by rw [uh HE]; exact uh HR9,(uh HS5).trans (uh HS9)⟩
          | false =>
           rw [ef] at hf' HPr
           simp only [Bool.or_false,Bool.false_eq_true,if_false] at HPr
           clear ef
           have HE : Hid (rsM vs cl m c = (seM cl { m with nd:=m.nd + 1 },true)):=hide (by rw [uh HSP,uh HPr])
           have H5:=hide (Rc.setNodeZ (uh H1) (uh HZN))
           have HS5:=hide ((uh HS1).setCell (p:=⟨y.R,2,none⟩) (Or.inl Rc.memR) (.int .i64 ((m.nd : Int) + 1)))
           have HSt:=hide (rsettle_any (uh H5) hv hto1 hcl (by show m.ad.length ≤ 100000; omega) (uh HND))
           go_wp2_with fail
           refine (uh HSt).mono ?_
           rintro e w9 ⟨rfl,hR9,hS9⟩
           have HR9:=hide hR9
           have HS9:=hide hS9
           clear hR9 hS9
           go_wp2_with fail
           go_ret
           exact ⟨by rw [uh HE]; rfl,_,_,by rw [uh HE]; exact uh HR9,(uh HS5).trans (uh HS9)⟩
end
end Go.Proofs.YtciihepbeacppaaGreat
