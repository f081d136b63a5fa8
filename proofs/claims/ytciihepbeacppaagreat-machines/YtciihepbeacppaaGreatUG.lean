import Derived.Test.YtciihepbeacppaaGreatM22
import Derived.Deep.Cut
import Derived.Deep.CutRange
import Derived.Deep.DeepCutAuto
import Derived.Deep.LoopGhost
import Derived.Deep.RegionHeld3
namespace Go.Proofs.YtciihepbeacppaaGreat
open Go.RowKit
section
variable {P : Program} {w : World}
theorem step_appL {ops : Array Oper} {o : Oper} {a : Act} {K : Act → World → Prop} {Q : Exit → Act → World → Prop} {E : Prop}
  (hg : o.guard = none) (s x : Operand) (t : TypeId) (hop : o.op = Op.call { callee:=Callee.builtin Builtin.append,args:=#[s,x],argTypes:=#[t,t] })
  (base : Nat) (e : TypeId) (i : TypeInfo) (z : Value) (size bytes : Nat) (ht : P.underlying t = some (.slice e)) (hi : P.info? e = some i) (hz : i.zero = some z)
  (hsize : i.size = size) (hby : i.bytes = bytes) (hzs : z.cells.size = size) (hsz : 0 < size)
  (v : Value) (n : Nat) (xs : List Value) (hs : a.eval s = v) (hown : w.ownsRow base e size v n xs)
  (xv : Value) (m : Nat) (news : List Value) (hx : a.eval x = xv) (hL : Lst w xv size m news) (h1 : ∀ u ∈ news,u.oneCell' = true)
  (h63 : n + m ≤ 1000000) (hb : bytes ≤ 1000) (hbase : base ≤ w.heap.size)
  (hK : ∀ ao cap w',w'.ownsRow base e size (.slice ao (n + m) cap) (n + m) (xs ++ news) → w.grownBy w' v.ownBlock → K (a.put o.dst (.slice ao (n + m) cap)) w') :
  if Region.wanted o (yielded ops a.tmps) = true then Oper.wp P o a w K Q else E:=by
 have hw : Region.wanted o (yielded ops a.tmps) = true:=by simp [Region.wanted,hg]
 rw [if_pos hw]
 have hbytes : (n + m) * bytes ≤ 140737488355328:=Nat.le_trans (Nat.mul_le_mul h63 hb) (by decide)
 obtain ⟨v',w',hrun,r1,r2⟩ : ∃ v' w',(Builtin.append_ #[t,t] o.type #[v,xv]).run P w = .ok v' w' ∧ w'.ownsRow base e size v' (n + m) (xs ++ news) ∧ w.grownBy w' v.ownBlock:=by
  obtain ⟨hl,-,(⟨rfl,rfl⟩ | ⟨g,off,cap,rfl,hn,hm,hc⟩)⟩:=hL
  ·have : news = []:=List.eq_nil_of_length_eq_zero (by omega)
   subst this
   exact ⟨v,w,run_append_owned_none (P:=P) (w:=w) base t o.type e i size ht hi v n xs hown,by simpa using hown,⟨rfl,rfl,rfl,Nat.le_refl _,fun _ _ _=>rfl⟩⟩
  ·obtain ⟨v',w',q1,q2,q3,-⟩:=run_append_own (P:=P) w base t o.type e i z size bytes ht hi hz hsize hby hzs hsz v n xs hown ⟨g,off,none⟩ m cap news hl (fun j u hj=>by
    rw [show (⟨g,off,none⟩ : Addr).add j = ⟨g,off + j,none⟩ by unfold Addr.add; split <;> simp_all]
    exact hc j u hj) h1 (by unfold maxLen; omega) hbytes hbase
   exact ⟨v',w',q1,q2,q3⟩
 obtain ⟨ao,cap,rfl⟩:=slice_of_own r1
 unfold Oper.wp
 simp [execOp,hop,resolve,invoke,builtin,hs,hx,hrun,Result.andThen]
 exact hK ao cap w' r1 r2
end
def nxK (ad : List Int) (l : Int) : Nat → Int
 | 0=>-1
 | j + 1=>if l < ad.getD j 0 ∧ (nxK ad l j < 0 ∨ ad.getD j 0 < ad.getD (nxK ad l j).toNat 0) then (j : Int) else nxK ad l j
def soR (ad nx : List Int) : Nat → Int × List Int
 | 0=>(0,[])
 | n + 1=>(ad.getD (nxK ad (soR ad nx n).1 ad.length).toNat 0,(soR ad nx n).2 ++ [ad.getD (nxK ad (soR ad nx n).1 ad.length).toNat 0,nx.getD (nxK ad (soR ad nx n).1 ad.length).toNat 0])
theorem nxK_lt (ad : List Int) (l : Int) (j : Nat) : -1 ≤ nxK ad l j ∧ nxK ad l j < j:=by
 induction j with
 | zero=>simp [nxK]
 | succ j ih=>unfold nxK; split <;> omega
theorem soR_len (ad nx : List Int) (n : Nat) : (soR ad nx n).2.length = 2 * n:=by
 induction n with
 | zero=>rfl
 | succ n ih=>simp [soR,ih]; omega
structure SsR (w wx : World) (N B nd wh : Nat) (sv xv : Value) (st out : List Int) : Prop where
 bk : Bk wx N 68 [.int .i64 (nd : Int),.int .i64 (wh : Int),sv,xv]
 b0 : Bk wx w.heap.size 68 [.int .i64 0,.int .i64 0,.slice none 0 0,.slice none 0 0]
 rs : wx.ownsRow (N + 1) 3 1 sv st.length (ints st)
 rx : wx.ownsRow B 3 1 xv out.length (ints out)
 hN : w.heap.size < N
 hB : N < B
 hx : B ≤ wx.heap.size
 sB : ∀ k,sv.ownBlock = some k → k < B
 bl : Below w.heap.size w wx
theorem bl_dn {B : Nat} {w w' : World} (h : Below B w w') (n : Nat) : Below B w (w'.drewN n):=⟨h.os,h.tape,h.output,h.size,h.block⟩
theorem SsR.one {w wc w4 : World} {N nd wh cap j : Nat} {ao : Option Addr} {st : List Int} (hN : Bk wc N 68 [.int .i64 (nd : Int),.int .i64 (wh : Int),.slice none 0 0,.slice none 0 0]) (h0 : Bk wc w.heap.size 68 [.int .i64 0,.int .i64 0,.slice none 0 0,.slice none 0 0]) (hlt : w.heap.size < N) (hb : Below w.heap.size w wc)
  (hown : w4.ownsRow (N + 1) 3 1 (.slice ao st.length cap) st.length (ints st)) (hg : (wc.drewN j).grownBy w4 none) : SsR w (w4.setCell ⟨N,2,none⟩ (.slice ao st.length cap)) N w4.heap.size nd wh (.slice ao st.length cap) (.slice none 0 0) st []:=by
 have hs:=hg.size
 have hn : N < (wc.drewN j).heap.size:=hN.lt
 have hsame : ∀ k,k < wc.heap.size → w4.heap[k]? = wc.heap[k]?:=fun k hk=>hg.block k hk (fun e=>by cases e)
 refine ⟨(hN.of_eq (hsame N hN.lt)).set 2 _,h0.of_eq ((Below.heap_setCell _ _ _ _ (fun e=>by have e2 : w.heap.size = N:=e; omega)).trans (hsame _ h0.lt)),own_setH hown (by omega) _,World.ownsRow_nil _ _ _ _,hlt,by omega,by simp [World.setCell],fun k hk=>(hown.lt k hk).2,?_⟩
 exact ((bl_dn hb j).grown hg (by have:=hb.size; exact this) (fun k e=>by cases e)).setCell (p:=⟨N,2,none⟩) (Nat.le_of_lt hlt) _
theorem SsR.drewN {w wx : World} {N B nd wh : Nat} {sv xv : Value} {st out : List Int} (h : SsR w wx N B nd wh sv xv st out) (n : Nat) : SsR w (wx.drewN n) N B nd wh sv xv st out :=
 ⟨h.bk,h.b0,h.rs,h.rx,h.hN,h.hB,h.hx,h.sB,bl_dn h.bl n⟩
theorem SsR.add {w wx w4 : World} {N B nd wh cap j : Nat} {ao : Option Addr} {sv xv : Value} {st out : List Int} {a b : Int} {o : Obj} (h : SsR w wx N B nd wh sv xv st out) (hown : w4.ownsRow B 3 1 (.slice ao (out.length + 2) cap) (out.length + 2) (ints out ++ [.int .i64 a,.int .i64 b])) (hg : ((wx.drewN j).alloc o).grownBy w4 xv.ownBlock) :
  SsR w (w4.setCell ⟨N,3,none⟩ (.slice ao (out.length + 2) cap)) N B nd wh sv (.slice ao (out.length + 2) cap) st (out ++ [a,b]):=by
 have hs:=hg.size
 have hsz : ((wx.drewN j).alloc o).heap.size = wx.heap.size + 1:=by simp
 have hB:=h.hB
 have hx:=h.hx
 have hN:=h.hN
 have hsame : ∀ k,k < wx.heap.size → xv.ownBlock ≠ some k → w4.heap[k]? = wx.heap[k]?:=fun k h1 h2=>by
  rw [hg.block k (by omega) (fun e=>h2 e.symm)]
  exact Below.heap_alloc (wx.drewN j) o k h1
 have hxB : ∀ k,k < B → xv.ownBlock ≠ some k:=fun k hk e=>by have:=(h.rx.lt k e).1; omega
 refine ⟨(h.bk.of_eq (hsame N h.bk.lt (hxB N (by omega)))).set 3 _,h.b0.of_eq ((Below.heap_setCell _ _ _ _ (fun e=>by have e2 : w.heap.size = N:=e; omega)).trans (hsame _ h.b0.lt (hxB _ (by omega)))),own_setH (ownsRow_of_eq h.rs (fun k hk=>hsame k (h.rs.lt k hk).2 (hxB k (h.sB k hk)))) (by omega) _,?_,hN,hB,by simp [World.setCell]; omega,h.sB,?_⟩
 ·rw [show (out ++ [a,b]).length = out.length + 2 by simp,show ints (out ++ [a,b]) = ints out ++ [.int .i64 a,.int .i64 b] by simp [ints]]
  exact own_setH hown (by omega) _
 ·exact (((bl_dn h.bl j).alloc (by have:=h.bl.size; simpa using this) o).grown hg (by have:=h.bl.size; omega) (fun k e=>by have:=(h.rx.lt k e).1; omega)).setCell (p:=⟨N,3,none⟩) (Nat.le_of_lt hN) _
theorem two_da (w : World) (k : Nat) (a b : Value) (T : TypeId) : Lst ((w.drewN k).alloc (.cells #[a,b] T)) (.slice (some ⟨w.heap.size,0,none⟩) 2 2) 1 2 [a,b]:=by
 have hb : Bk ((w.drewN k).alloc (.cells #[a,b] T)) w.heap.size T [a,b]:=Bk.new (w.drewN k) T [a,b]
 refine ⟨rfl,by omega,Or.inr ⟨w.heap.size,0,2,rfl,by omega,by unfold maxLen; omega,fun j u hj=>?_⟩⟩
 rw [Nat.zero_add]
 exact hb.cell j hj
section
variable {w w' : World} {y : RL} {vs : List ByteArray} {al : List RAt} {cl : List Ins} {m : RM}
set_option maxRecDepth 100000 in
set_option maxHeartbeats 8000000 in
theorem rstate_any (h : Rc w y vs al cl m) (hv : vs.length ≤ 1000) (hl : m.ad.length ≤ 19000) (hok : ∀ n,n < m.ad.length → 0 ≤ nxK m.ad (soR m.ad m.nx n).1 m.ad.length) :
  Calls Tryz.prog 89 #[.pointer (some ⟨y.R,0,none⟩)] w fun e w'=>∃ sv xv,e = .returned (.agg #[.int .i64 (m.nd : Int),.int .i64 (m.wh : Int),sv,xv]) ∧ w'.ownsRow w.heap.size 3 1 sv m.st.length (ints m.st) ∧ w'.ownsRow w.heap.size 3 1 xv (2 * m.ad.length) (ints (soR m.ad m.nx m.ad.length).2) ∧ Below w.heap.size w w':=by
 obtain ⟨j0,hj,hy0,hy1,hy2⟩:=info_parts Tryz.infoInt
 have hbx:=below_boxQ w (.cells #[Value.int .i64 0,.int .i64 0,.slice none 0 0,.slice none 0 0] 68)
 obtain ⟨w0,hw0⟩ : ∃ w0,w0 = w.alloc (.cells #[Value.int .i64 0,.int .i64 0,.slice none 0 0,.slice none 0 0] 68):=⟨_,rfl⟩
 have HB0 : Hid (Bk w0 w.heap.size 68 [Value.int .i64 0,.int .i64 0,.slice none 0 0,.slice none 0 0]):=hide (by rw [hw0]; exact Bk.new w _ [_,_,_,_])
 rw [← hw0] at hbx
 have HBX:=hide hbx
 have h0:=h.below hbx
 have H0:=hide h0
 have H:=hide h
 have r2:=h0.r2
 have r3:=h0.r3
 have hRl:=h0.bk.lt
 have e1 : ¬ (w0.heap.size = y.R):=by omega
 have HOK:=hide hok
 have hbN:=below_boxQ w0 (.cells #[Value.int .i64 0,.int .i64 0,.slice none 0 0,.slice none 0 0] 68)
 have a2:=(hbN.cell (p:=⟨y.R,2,none⟩) hRl).trans r2
 have a3:=(hbN.cell (p:=⟨y.R,3,none⟩) hRl).trans r3
 clear h h0 hok hbx hbN
 go_enter Tryz.func89,Tryz.ntmps89
 go_upto_region 1 with fail
 rw [← hw0]
 clear hw0
 go_cut [3] (fun p wx=>∃ N,p = .pointer (some ⟨N,0,none⟩) ∧ Hid (Bk wx N 68 [.int .i64 (m.nd : Int),.int .i64 (m.wh : Int),.slice none 0 0,.slice none 0 0]) ∧ Hid (w0.heap.size ≤ N) ∧ Hid (Below w0.heap.size w0 wx))
 case first =>
  go_region_held3 (fun W=>W.cell? ⟨y.R,2,none⟩ = some (.int .i64 (m.nd : Int)) ∧ W.cell? ⟨y.R,3,none⟩ = some (.int .i64 (m.wh : Int)))
   (first | (simp only [World.cell?_drew,r2,r3,and_self]; done) | (simp only [World.cell?_drew,a2,a3,and_self]; done) | (simp [World.cell?_alloc_some,r2,r3]; done) | (simp [World.cell?_setCell_far,a2,a3,e1]; done))
   (first | (fail))
  all_goals
   go_wp2_with fail
   go_meet
   exact ⟨w0.heap.size,rfl,hide (Bk.new w0 68 [_,_,_,_]),hide (Nat.le_refl _),hide (below_boxQ w0 _).drew⟩
 case rest =>
  obtain ⟨N,rfl,hN,hNl,hbW⟩:=hcut
  have hbw : Below w.heap.size w wc:=(uh HBX).trans ((uh hbW).mono (uh HBX).size)
  have h1:=(uh H0).below (uh hbW)
  have H1:=hide h1
  have HBw:=hide hbw
  have n2 : wc.cell? ⟨N,2,none⟩ = some (.slice none 0 0):=(uh hN).cell 2 rfl
  have nf:=(uh hN).frz 2
  have q1:=h1.r1
  have g1:=h1.h1
  have HL:=hide (Lst.of_own h1.st (by have:=h1.ls; omega))
  have hNs : N + 1 ≤ wc.heap.size:=(uh hN).lt
  have hst : m.st.length ≤ 1000:=by have:=h1.ls; omega
  have HlN : Hid (w.heap.size < N):=hide (by have h2:=uh hNl; have h3:=(uh HB0).lt; omega)
  have HB1:=hide ((uh HB0).below (uh hbW))
  clear hbw h1 r2 r3 a2 a3 e1 hRl
  go_upto_region 2 with fail
  go_cut [26] (fun _ wx=>∃ B sv1,Hid (SsR w wx N B m.nd m.wh sv1 (.slice none 0 0) m.st []))
  case first =>
   go_region_law (refine step_appL rfl (.tmp 18) (.tmp 25) 29 rfl (N + 1) 3 j0 (.int .i64 0) 1 8 Tryz.underlying29 hj hy0 hy1 hy2 rfl (by decide) (.slice none 0 0) 0 [] (by simp [Act.eval]) (World.ownsRow_nil _ _ _ _) y.sv m.st.length (ints m.st) (by simp [Act.eval]) ((uh HL).below (below_drewQ _ _)) (ints_one _) (by omega) (by decide) (by exact hNs) ?_; intro ao cap w4 hown hgrow; have c2':=(World.cell?_of_block (a:=⟨N,2,none⟩) (hgrow.block N hNs (fun e=>by cases e))).trans n2; have f2':=((uh hN).of_eq (hgrow.block N hNs (fun e=>by cases e))).frz 2; have HI':=hide (SsR.one (uh hN) (uh HB1) (uh HlN) (uh HBw) (by simpa using hown) hgrow); clear hown hgrow)
   all_goals
    go_wp2_with fail
    go_meet
    exact ⟨_,_,by simpa using HI'⟩
  case rest =>
   obtain ⟨B,sv1,hSs⟩:=hcut
   obtain ⟨avo,acap,hav,hacn,hacm⟩:=own_slc (uh H).ad
   obtain ⟨svo,scap,hsv⟩:=slice_of_own (uh hSs).rs
   subst hsv
   have HAV:=hide hav
   clear hav HB0 HBX H0 HBw n2 nf q1 g1 HL hNs HlN HB1 H1 hN hNl hbW
   go_wp2_with fail
   go_loopg [4,5] m.ad.length (fun gn l i wx=>∃ (n : Nat) (xv : Value),n + gn = m.ad.length ∧ i = .int .i64 n ∧ l = .int .i64 (soR m.ad m.nx n).1 ∧ Hid (SsR w wx N B m.nd m.wh (.slice svo m.st.length scap) xv m.st (soR m.ad m.nx n).2))
   case atStart=>exact ⟨0,_,by omega,rfl,rfl,hSs⟩
   case round =>
    clear hSs
    obtain ⟨n,xv,hn,rfl,rfl,hS⟩:=hrel
    have hR:=(uh H).below (uh hS).bl
    have r1:=hR.r1
    have z2 : wr.cell? ⟨y.H,2,none⟩ = some (.slice avo m.ad.length acap):=by rw [← uh HAV]; exact hR.h2
    by_cases hlt : n < m.ad.length
    ·have hd : decide ((n : Int) < (m.ad.length : Int)) = true:=by simp; omega
     obtain ⟨l,hl0⟩ : ∃ l,l = (soR m.ad m.nx n).1:=⟨_,rfl⟩
     rw [← hl0]
     have HL0:=hide hl0
     obtain ⟨ga,acap',hav',-,-,hgal⟩:=own_pos hR.ad (by omega)
     have hrow:=hR.ad
     rw [hav'] at hrow
     have hav2:=(uh HAV).symm.trans hav'
     simp only [Value.slice.injEq,true_and] at hav2
     obtain ⟨rfl,rfl⟩:=hav2
     have HC : Hid (∀ j,j < m.ad.length → wr.cell? ⟨ga,j,none⟩ = some (.int .i64 (m.ad.getD j 0))):=hide (fun j hj=>(hrow.cellAt j (by omega)).trans (ints_get hj))
     have HR:=hide hR
     clear hl0 hav' hrow hR
     go_wp2_with fail
     go_loopg [6,7] m.ad.length (fun gn k i wx=>∃ (j t : Nat),j + gn = m.ad.length ∧ i = .int .i64 j ∧ k = .int .i64 (nxK m.ad l j) ∧ wx = wr.drewN t)
     case atStart=>exact ⟨0,0,by omega,rfl,rfl,rfl⟩
     case round =>
      obtain ⟨j,t,hjn,rfl,rfl,rfl⟩:=hrel
      by_cases hjl : j < m.ad.length
      ·have hdj : decide ((j : Int) < (m.ad.length : Int)) = true:=by simp; omega
       have x:=uh HC j hjl
       have HSt : Hid (nxK m.ad l (j + 1) = if l < m.ad.getD j 0 ∧ (nxK m.ad l j < 0 ∨ m.ad.getD j 0 < m.ad.getD (nxK m.ad l j).toNat 0) then (j : Int) else nxK m.ad l j):=hide rfl
       have hkb:=nxK_lt m.ad l j
       obtain ⟨q,hq⟩ : ∃ q,q = m.ad.getD j 0:=⟨_,rfl⟩
       rw [← hq] at x HSt
       obtain ⟨kz,hkz⟩ : ∃ kz,kz = nxK m.ad l j:=⟨_,rfl⟩
       rw [← hkz] at HSt hkb ⊢
       clear hq hkz
       by_cases h1 : l < q
       ·have d1 : decide (l < q) = true:=by simpa using h1
        by_cases h2 : kz < 0
        ·have d2 : decide (kz < 0) = true:=by simpa using h2
         have HS2 : Hid (nxK m.ad l (j + 1) = (j : Int)):=hide (by rw [uh HSt,if_pos ⟨h1,Or.inl h2⟩])
         clear h1 h2
         go_wp2_with fail
         go_quiet (fail)
         go_wp2_with fail
         go_roundg (m.ad.length - (j + 1))
         case rel=>exact ⟨j + 1,_,by omega,by go_num,by rw [uh HS2],rfl⟩
         case measure=>omega
        ·obtain ⟨k,rfl⟩ : ∃ k : Nat,kz = (k : Int):=⟨kz.toNat,by omega⟩
         have d2 : decide ((k : Int) < 0) = false:=by simp
         have hkl : k < m.ad.length:=by omega
         have x2:=uh HC k hkl
         have hSt:=uh HSt
         rw [show ((k : Int)).toNat = k by omega] at hSt
         obtain ⟨q2,hq2⟩ : ∃ q2,q2 = m.ad.getD k 0:=⟨_,rfl⟩
         rw [← hq2] at x2 hSt
         have i1 : (0 : Int) ≤ (k : Int):=by omega
         have i2 : (k : Int) < (m.ad.length : Int):=by omega
         clear hq2
         by_cases h3 : q < q2
         ·have d3 : decide (q < q2) = true:=by simpa using h3
          have HS2 : Hid (nxK m.ad l (j + 1) = (j : Int)):=hide (by rw [hSt,if_pos ⟨h1,Or.inr h3⟩])
          clear h1 h2 h3 hSt HSt
          go_wp2_with fail
          go_quiet (fail)
          go_wp2_with fail
          go_roundg (m.ad.length - (j + 1))
          case rel=>exact ⟨j + 1,_,by omega,by go_num,by rw [uh HS2],rfl⟩
          case measure=>omega
         ·have d3 : decide (q < q2) = false:=by simpa using h3
          have HS2 : Hid (nxK m.ad l (j + 1) = (k : Int)):=hide (by rw [hSt,if_neg (by rintro ⟨-,h | h⟩; exact h2 h; exact h3 h)])
          clear h1 h2 h3 hSt HSt
          go_wp2_with fail
          go_quiet (fail)
          go_wp2_with fail
          go_roundg (m.ad.length - (j + 1))
          case rel=>exact ⟨j + 1,_,by omega,by go_num,by rw [uh HS2],rfl⟩
          case measure=>omega
       ·have d1 : decide (l < q) = false:=by simpa using h1
        have HS2 : Hid (nxK m.ad l (j + 1) = kz):=hide (by rw [uh HSt,if_neg (fun h=>h1 h.1)])
        clear h1
        go_wp2_with fail
        go_quiet (fail)
        go_wp2_with fail
        go_roundg (m.ad.length - (j + 1))
        case rel=>exact ⟨j + 1,_,by omega,by go_num,by rw [uh HS2],rfl⟩
        case measure=>omega
      ·have hdj : decide ((j : Int) < (m.ad.length : Int)) = false:=by simp; omega
       have hje : j = m.ad.length:=by omega
       subst hje
       obtain ⟨kz,hkz⟩ : ∃ kz,kz = nxK m.ad l m.ad.length:=⟨_,rfl⟩
       have hk0 : 0 ≤ kz:=by rw [hkz,uh HL0]; exact uh HOK n hlt
       have hk1 : kz < m.ad.length:=by rw [hkz]; exact (nxK_lt m.ad l m.ad.length).2
       have HSo : Hid (soR m.ad m.nx (n + 1) = (m.ad.getD kz.toNat 0,(soR m.ad m.nx n).2 ++ [m.ad.getD kz.toNat 0,m.nx.getD kz.toNat 0])):=hide (by rw [hkz,uh HL0]; rfl)
       rw [← hkz]
       obtain ⟨k,rfl⟩ : ∃ k : Nat,kz = (k : Int):=⟨kz.toNat,by omega⟩
       have hkl : k < m.ad.length:=by omega
       rw [show ((k : Int)).toNat = k by omega] at HSo
       have hlx:=(uh HR).lx
       obtain ⟨gx,xcap,hxv',hxn,hxm,hgxl⟩:=own_pos (uh HR).nx (by omega)
       have hrx:=(uh HR).nx
       have z3:=(uh HR).h3
       rw [hxv'] at hrx z3
       rw [hlx] at z3
       have xn:=(hrx.cellAt k (by omega)).trans (ints_get (l:=m.nx) (by omega))
       have xk:=uh HC k hkl
       obtain ⟨a,ha⟩ : ∃ a,a = m.ad.getD k 0:=⟨_,rfl⟩
       obtain ⟨b,hb⟩ : ∃ b,b = m.nx.getD k 0:=⟨_,rfl⟩
       rw [← ha] at xk HSo
       rw [← hb] at xn HSo
       obtain ⟨out,ho⟩ : ∃ out,out = (soR m.ad m.nx n).2:=⟨_,rfl⟩
       have hol : out.length ≤ 38000:=by rw [ho,soR_len]; omega
       rw [← ho] at hS HSo
       have i1 : (0 : Int) ≤ (k : Int):=by omega
       have i2 : (k : Int) < (m.ad.length : Int):=by omega
       have hxn' : m.ad.length ≤ xcap:=by omega
       obtain ⟨w7,hw7⟩ : ∃ w7,w7 = wr.drewN t:=⟨_,rfl⟩
       have hS7 : SsR w w7 N B m.nd m.wh (.slice svo m.st.length scap) xv m.st out:=by rw [hw7]; exact (uh hS).drewN t
       have HS7:=hide hS7
       have HROW:=hide hS7.rx
       have n3 : w7.cell? ⟨N,3,none⟩ = some xv:=hS7.bk.cell 3 rfl
       have f3:=hS7.bk.frz 3
       have hNl : N < w7.heap.size:=hS7.bk.lt
       have hBs : B ≤ w7.heap.size:=hS7.hx
       have HNP : Hid (xv.ownBlock ≠ some N):=hide (fun e=>by have h1:=(hS7.rx.lt N e).1; have h2:=hS7.hB; omega)
       have r1' : w7.cell? ⟨y.R,1,none⟩ = some (.pointer (some ⟨y.H,0,none⟩)):=by rw [hw7]; exact r1
       have z2' : w7.cell? ⟨y.H,2,none⟩ = some (.slice (some ⟨ga,0,none⟩) m.ad.length acap):=by rw [hw7]; exact z2
       have z3' : w7.cell? ⟨y.H,3,none⟩ = some (.slice (some ⟨gx,0,none⟩) m.ad.length xcap):=by rw [hw7]; exact z3
       have xk' : w7.cell? ⟨ga,k,none⟩ = some (.int .i64 a):=by rw [hw7]; exact xk
       have xn' : w7.cell? ⟨gx,k,none⟩ = some (.int .i64 b):=by rw [hw7]; exact xn
       have n3a : ∀ (j : Nat) (o : Obj),((w7.drewN j).alloc o).cell? ⟨N,3,none⟩ = some xv:=fun j o=>(World.cell?_of_block (a:=⟨N,3,none⟩) (Below.heap_alloc (w7.drewN j) o _ hNl)).trans n3
       rw [← hw7]
       clear hw7 hS hS7 r1 z2 z3 xk xn ha hb ho hkz hk0 hk1 hrx hxv' hgxl hgal HC hlx hxn HR
       go_upto_region 14 with fail
       go_region_law (refine step_appL rfl (.tmp 103) (.tmp 115) 29 rfl B 3 j0 (.int .i64 0) 1 8 Tryz.underlying29 hj hy0 hy1 hy2 rfl (by decide) xv out.length (ints out) (by simp [Act.eval]) (own_da (uh HROW) _ _) (.slice (some ⟨w7.heap.size,0,none⟩) 2 2) 2 [.int .i64 a,.int .i64 b] (by simp [Act.eval]) (two_da _ _ _ _ _) (ints_one [a,b]) (by omega) (by omega) (le_da hBs _ _) ?_; intro ao cap w8 hown hgrow; have c3':=grown_cell hgrow hNl (uh HNP) 3 n3; have f3':=grown_frozen hgrow hNl (uh HNP) 3 f3; have HI':=hide (SsR.add (uh HS7) hown hgrow); clear hown hgrow)
       all_goals
        go_wp2_with fail
        go_roundg (m.ad.length - (n + 1))
        case rel=>exact ⟨n + 1,_,by omega,by go_num,by rw [uh HSo],by rw [uh HSo]; exact HI'⟩
        case measure=>omega
    ·have hd : decide ((n : Int) < (m.ad.length : Int)) = false:=by simp; omega
     have hne : n = m.ad.length:=by omega
     subst hne
     obtain ⟨xo,xcap,hxv⟩:=slice_of_own (uh hS).rx
     rw [hxv] at hS
     have hS1:=uh hS
     have y0:=hS1.bk.cell 0 rfl
     have y1:=hS1.bk.cell 1 rfl
     have y2:=hS1.bk.cell 2 rfl
     have y3:=hS1.bk.cell 3 rfl
     have v0:=hS1.b0.cell 0 rfl
     have v1:=hS1.b0.cell 1 rfl
     have v2:=hS1.b0.cell 2 rfl
     have v3:=hS1.b0.cell 3 rfl
     have vf:=hS1.b0.frz
     clear hxv hS1 hR
     go_wp2_with fail
     obtain ⟨w4,hw4⟩ : ∃ w4,w4 = ((((wr.setCell ⟨w.heap.size,0,none⟩ (.int .i64 (m.nd : Int))).setCell ⟨w.heap.size,1,none⟩ (.int .i64 (m.wh : Int))).setCell ⟨w.heap.size,2,none⟩ (.slice svo m.st.length scap)).setCell ⟨w.heap.size,3,none⟩ (.slice xo (soR m.ad m.nx m.ad.length).2.length xcap)):=⟨_,rfl⟩
     rw [← hw4]
     have hBk4 : Bk w4 w.heap.size 68 [.int .i64 (m.nd : Int),.int .i64 (m.wh : Int),.slice svo m.st.length scap,.slice xo (soR m.ad m.nx m.ad.length).2.length xcap]:=by
      rw [hw4]; exact ((((uh hS).b0.set 0 _).set 1 _).set 2 _).set 3 _
     have u0:=hBk4.cell 0 rfl
     have u1:=hBk4.cell 1 rfl
     have u2:=hBk4.cell 2 rfl
     have u3:=hBk4.cell 3 rfl
     have hSt : Stp [w.heap.size] wr [w.heap.size] w4:=by
      rw [hw4]
      exact (((((Stp.refl _ _).setCell (p:=⟨w.heap.size,0,none⟩) (Or.inl (by simp)) _).setCell (p:=⟨w.heap.size,1,none⟩) (Or.inl (by simp)) _).setCell (p:=⟨w.heap.size,2,none⟩) (Or.inl (by simp)) _).setCell (p:=⟨w.heap.size,3,none⟩) (Or.inl (by simp)) _)
     clear hw4
     have hS1:=uh hS
     have hN1:=hS1.hN
     have hN2:=hS1.hB
     refine bodyPost_ret (v:=.agg #[.int .i64 (m.nd : Int),.int .i64 (m.wh : Int),.slice svo m.st.length scap,.slice xo (soR m.ad m.nx m.ad.length).2.length xcap]) ?_ rfl ⟨_,_,rfl,?_,?_,?_⟩
     ·simp [results,Tryz.results89,go_sem,u0,u1,u2,u3]
     ·exact own_le (own_stp hS1.rs hSt (fun k hk=>by have:=(hS1.rs.lt k hk).1; simp; omega)) (by omega)
     ·have hx:=own_le (own_stp hS1.rx hSt (fun k hk=>by have:=(hS1.rx.lt k hk).1; simp; omega)) (show w.heap.size ≤ B by omega)
      rw [soR_len] at hx ⊢
      exact hx
     ·exact hS1.bl.trans (hSt.below hS1.bl.size (by simp))
end
end Go.Proofs.YtciihepbeacppaaGreat
