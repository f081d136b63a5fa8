import Derived.Test.YtciihepbeacppaaGreatM22
import Derived.Deep.Cut
import Derived.Deep.CutRange
import Derived.Deep.DeepCutAuto
import Derived.Deep.RegionHeld3
namespace Go.Proofs.YtciihepbeacppaaGreat
open Go.RowKit
def toM (vs : List ByteArray) (i : Ins) (m : RM) : RM × Bool :=
 let a:=vlR vs m.st (if eqW i.op loadW then i.y else i.x)
 if m.ad.idxOf a < m.ad.length then
  ((if eqW i.op loadW then { m with st:=m.st.set (fndL vs i.x) (m.nx.getD (m.ad.idxOf a) 0) }
   else if eqW i.op storeW then { m with nx:=m.nx.set (m.ad.idxOf a) (vlR vs m.st i.y) }
   else { m with ad:=m.ad.eraseIdx (m.ad.idxOf a),nx:=m.nx.eraseIdx (m.ad.idxOf a) }),true)
 else ({ m with wh:=if a = 0 then 3 else 4 },false)
section
variable {w w' : World} {y : RL} {vs : List ByteArray} {al : List RAt} {cl : List Ins} {m : RM}
theorem Rc.recells {w5 : World} {v1 v2 : Value} {ad nx : List Int} (h : Rc w y vs al cl m) (hH : Bk w5 y.H 216 [y.vv,y.sv,v1,v2])
  (ho : ∀ k,k < w.heap.size → k ≠ y.H → y.av.ownBlock ≠ some k → y.xv.ownBlock ≠ some k → w5.heap[k]? = w.heap[k]?)
  (ha : w5.ownsRow 0 3 1 v1 ad.length (ints ad)) (hx : w5.ownsRow 0 3 1 v2 nx.length (ints nx))
  (b1 : ∀ k,v1.ownBlock = some k → y.av.ownBlock = some k ∨ w.heap.size ≤ k) (b2 : ∀ k,v2.ownBlock = some k → y.xv.ownBlock = some k ∨ w.heap.size ≤ k)
  (hd : ∀ k,v1.ownBlock = some k → v2.ownBlock ≠ some k) (hl : nx.length = ad.length) : Rc w5 { y with av:=v1,xv:=v2 } vs al cl { m with ad:=ad,nx:=nx }:=by
 obtain ⟨n1,n2,n3,n4⟩:=h.nds
 have hlt:=h.lt
 have pR:=hlt y.R (by simp [RL.fp])
 have pH:=hlt y.H (by simp [RL.fp])
 have o1 : ∀ k,v1.ownBlock = some k → k ≠ y.R ∧ k ≠ y.H ∧ y.sv.ownBlock ≠ some k:=fun k hk=>by
  rcases b1 k hk with e | e
  ·exact n3 k e
  ·exact ⟨by omega,by omega,fun e2=>by have:=(h.st.lt k e2).2; omega⟩
 have o2 : ∀ k,v2.ownBlock = some k → k ≠ y.R ∧ k ≠ y.H ∧ y.sv.ownBlock ≠ some k:=fun k hk=>by
  rcases b2 k hk with e | e
  ·exact ⟨(n4 k e).1,(n4 k e).2.1,(n4 k e).2.2.1⟩
  ·exact ⟨by omega,by omega,fun e2=>by have:=(h.st.lt k e2).2; omega⟩
 have hp : ∀ k ∈ y.pb,w5.heap[k]? = w.heap[k]?:=fun k hk=>ho k (h.rp.lt k hk) (by rintro rfl; exact h.dp _ hk (by simp [RL.fp])) (fun e=>h.dp k hk (by simp [RL.fp,e])) (fun e=>h.dp k hk (by simp [RL.fp,e]))
 refine ⟨h.bk.of_eq (ho _ pR n1 (fun e=>(n3 _ e).1 rfl) (fun e=>(n4 _ e).1 rfl)),hH,ownsRow_of_eq h.st (fun k hk=>ho k (h.st.lt k hk).2 (n2 k hk).2 (fun e=>(n3 k e).2.2 hk) (fun e=>(n4 k e).2.2.1 hk)),ha,hx,?_,h.rp.of_eq hp,?_,h.ls,hl⟩
 ·show (y.R :: y.H :: (y.sv.ownBlock.toList ++ (v1.ownBlock.toList ++ v2.ownBlock.toList))).Nodup
  rw [List.nodup_cons,List.nodup_cons,List.nodup_append,List.nodup_append]
  simp only [List.mem_cons,List.mem_append,Option.mem_toList,not_or]
  refine ⟨⟨n1,fun e=>(n2 _ e).1 rfl,fun e=>(o1 _ e).1 rfl,fun e=>(o2 _ e).1 rfl⟩,⟨fun e=>(n2 _ e).2 rfl,fun e=>(o1 _ e).2.1 rfl,fun e=>(o2 _ e).2.1 rfl⟩,nodup_opt _,⟨nodup_opt _,nodup_opt _,?_⟩,?_⟩
  ·rintro x hx z hz rfl; exact hd x hx hz
  ·rintro x hx z hz rfl
   rcases hz with hz | hz
   ·exact (o1 x hz).2.2 hx
   ·exact (o2 x hz).2.2 hx
 ·intro k hk hf
  have hl:=h.rp.lt k hk
  have hk':=h.dp k hk
  simp only [RL.fp,List.mem_cons,List.mem_append,Option.mem_toList,not_or] at hf hk'
  rcases hf with hf | hf | hf | hf | hf
  ·exact hk'.1 hf
  ·exact hk'.2.1 hf
  ·exact hk'.2.2.1 hf
  ·rcases b1 k hf with e | e
   ·exact hk'.2.2.2.1 e
   ·omega
  ·rcases b2 k hf with e | e
   ·exact hk'.2.2.2.2 e
   ·omega
theorem RL.foot2 {v1 v2 : Value} (b1 : ∀ k,v1.ownBlock = some k → y.av.ownBlock = some k ∨ w.heap.size ≤ k) (b2 : ∀ k,v2.ownBlock = some k → y.xv.ownBlock = some k ∨ w.heap.size ≤ k) : ∀ k,k ∈ RL.fp { y with av:=v1,xv:=v2 } → k ∈ y.fp ∨ w.heap.size ≤ k:=by
 intro k hk
 simp only [RL.fp,List.mem_cons,List.mem_append,Option.mem_toList] at hk ⊢
 rcases hk with e | e | e | e | e
 ·exact Or.inl (Or.inl e)
 ·exact Or.inl (Or.inr (Or.inl e))
 ·exact Or.inl (Or.inr (Or.inr (Or.inl e)))
 ·rcases b1 k e with e | e
  ·exact Or.inl (Or.inr (Or.inr (Or.inr (Or.inl e))))
  ·exact Or.inr e
 ·rcases b2 k e with e | e
  ·exact Or.inl (Or.inr (Or.inr (Or.inr (Or.inr e))))
  ·exact Or.inr e
structure CutS (w1 wx : World) (y : RL) (v1 : Value) (ad : List Int) : Prop where
 hk : Bk wx y.H 216 [y.vv,y.sv,v1,y.xv]
 ho : ∀ k,k < w1.heap.size → k ≠ y.H → wx.heap[k]? = w1.heap[k]?
 ra : wx.ownsRow w1.heap.size 3 1 v1 ad.length (ints ad)
 st : Stp y.fp w1 y.fp wx
theorem CutS.of {w2 : World} {v1 : Value} {ad : List Int} (h : Rc w y vs al cl m) (hb : Below w.heap.size w w2) (hr : w2.ownsRow w.heap.size 3 1 v1 ad.length (ints ad)) : CutS w (w2.setCell ⟨y.H,2,none⟩ v1) y v1 ad :=
 ⟨(h.below hb).hk.set 2 _,fun k hk hn=>(Below.heap_setCell _ _ _ _ (fun e=>hn e)).trans (hb.block k hk),own_setH hr h.hk.lt _,(Stp.ofBw hb).setCell (p:=⟨y.H,2,none⟩) (Or.inl Rc.memH) _⟩
theorem CutS.nx {wx : World} {v1 : Value} {ad : List Int} (h : Rc w y vs al cl m) (c : CutS w wx y v1 ad) : wx.ownsRow 0 3 1 y.xv m.nx.length (ints m.nx) :=
 ownsRow_of_eq h.nx (fun k hk=>c.ho k (h.nx.lt k hk).2 (h.nds.2.2.2 k hk).2.1)
theorem CutS.r1 {wx : World} {v1 : Value} {ad : List Int} (h : Rc w y vs al cl m) (c : CutS w wx y v1 ad) : wx.cell? ⟨y.R,1,none⟩ = some (.pointer (some ⟨y.H,0,none⟩)) :=
 (h.bk.of_eq (c.ho _ h.bk.lt h.nds.1)).cell 1 rfl
theorem CutS.fin {wx w4 : World} {v1 v2 : Value} {ad nx : List Int} (h : Rc w y vs al cl m) (c : CutS w wx y v1 ad) (hb : Below wx.heap.size wx w4) (hr : w4.ownsRow wx.heap.size 3 1 v2 nx.length (ints nx)) (hl : nx.length = ad.length) :
  Rc (w4.setCell ⟨y.H,3,none⟩ v2) { y with av:=v1,xv:=v2 } vs al cl { m with ad:=ad,nx:=nx } ∧ Stp y.fp w (RL.fp { y with av:=v1,xv:=v2 }) (w4.setCell ⟨y.H,3,none⟩ v2):=by
 have hs:=c.st.size
 have hH : y.H < w.heap.size:=h.hk.lt
 have hb4:=rowBelow2 c.ra hb
 have b1 : ∀ k,v1.ownBlock = some k → y.av.ownBlock = some k ∨ w.heap.size ≤ k:=fun k hk=>Or.inr (c.ra.lt k hk).1
 have b2 : ∀ k,v2.ownBlock = some k → y.xv.ownBlock = some k ∨ w.heap.size ≤ k:=fun k hk=>Or.inr (Nat.le_trans hs (hr.lt k hk).1)
 refine ⟨h.recells ((c.hk.below hb).set 3 _) (fun k hk hn _ _=>?_) (own_le (own_setH hb4 hH _) (Nat.zero_le _)) (own_le (own_setH hr (by omega) _) (Nat.zero_le _)) b1 b2 (fun k h1 h2=>?_) hl,?_⟩
 ·exact (Below.heap_setCell _ _ _ _ (fun e=>hn e)).trans ((hb.block k (by omega)).trans (c.ho k hk hn))
 ·have:=(c.ra.lt k h1).2
  have:=(hr.lt k h2).1
  omega
 ·exact ((c.st.trans (Stp.ofBw hb)).setCell (p:=⟨y.H,3,none⟩) (Or.inl Rc.memH) _).refoot (RL.foot2 b1 b2)
theorem loadW_l : loadW.toList = [108,111,97,100]:=ByteArray.toList_eq _
theorem storeW_l : storeW.toList = [115,116,111,114,101]:=ByteArray.toList_eq _
set_option maxRecDepth 100000 in
set_option maxHeartbeats 8000000 in
theorem rtouch_any (h : Rc w y vs al cl m) (hv : vs.length ≤ 1000) (hl : m.ad.length ≤ 19000) (i : Ins) (hi : eqW i.op loadW = true → fndL vs i.x < vs.length) :
  Calls Tryz.prog 193 #[.pointer (some ⟨y.R,0,none⟩),.agg #[.string i.op,.string i.x,.string i.y,.string i.cond,.int .i64 i.to,.bool i.head]] w fun e w'=>e = .returned (.bool (toM vs i m).2) ∧ ∃ av' xv',Rc w' { y with av:=av',xv:=xv' } vs al cl (toM vs i m).1 ∧ Stp y.fp w (RL.fp { y with av:=av',xv:=xv' }) w':=by
 obtain ⟨op,x,yy,cond,tt,head⟩:=i
 have hbx:=below_boxQ w (.cells #[.string op,.string x,.string yy,.string cond,.int .i64 tt,.bool head] 100)
 have h1:=h.below hbx
 have HBk:=hide (Bk.new w 100 [.string op,.string x,.string yy,.string cond,.int .i64 tt,.bool head])
 have HS1 : Hid (Stp y.fp w y.fp (w.alloc (.cells #[.string op,.string x,.string yy,.string cond,.int .i64 tt,.bool head] 100))):=hide (Stp.ofBw hbx)
 have H1:=hide h1
 obtain ⟨ld,hld⟩ : ∃ ld,ld = eqW op loadW:=⟨_,rfl⟩
 have hb : (op.toList == [108,111,97,100]) = ld:=by rw [hld,← loadW_l]; rfl
 obtain ⟨a,ha⟩ : ∃ a,a = vlR vs m.st (if ld then yy else x):=⟨_,rfl⟩
 have HVa : Hid (Calls Tryz.prog 192 #[.pointer (some ⟨y.R,0,none⟩),.string (if ld then yy else x)] _ fun e w'=>e = .returned (.int .i64 a) ∧ w' = _):=hide (by rw [ha]; exact rval_any h1 hv _)
 have HAt:=hide (rat_any h1 (by omega) a)
 have r3:=h1.r3
 have f3:=h1.bk.frz 3
 have HTo : Hid (toM vs ⟨op,x,yy,cond,tt,head⟩ m = (if m.ad.idxOf a < m.ad.length then
  ((if ld then { m with st:=m.st.set (fndL vs x) (m.nx.getD (m.ad.idxOf a) 0) }
   else if eqW op storeW then { m with nx:=m.nx.set (m.ad.idxOf a) (vlR vs m.st yy) }
   else { m with ad:=m.ad.eraseIdx (m.ad.idxOf a),nx:=m.nx.eraseIdx (m.ad.idxOf a) }),true)
  else ({ m with wh:=if a = 0 then 3 else 4 },false))):=hide (by
   simp only [toM,← hld,← ha])
 have HI : Hid (ld = true → fndL vs x < vs.length):=hide (fun e=>hi (by rw [← e,hld]))
 have HA:=hide ha
 have HLt:=hide h.lt
 clear h h1 hbx hld ha hi
 by_cases hf : m.ad.idxOf a < m.ad.length
 ·obtain ⟨k,hk⟩ : ∃ k,k = m.ad.idxOf a:=⟨_,rfl⟩
  have hr : rI m.ad a = (k : Int):=by unfold rI; rw [if_pos hf,hk]
  rw [hr] at HAt
  have hTo:=uh HTo
  rw [if_pos hf] at hTo
  rw [← hk] at hTo hf
  have HT:=hide hTo
  clear hTo HTo hk hr
  have hk0 : decide ((k : Int) < 0) = false:=by simp
  cases ld with
  | true =>
   simp only [if_true] at HVa HT
   have hf2:=uh HI rfl
   have HSe : Hid (Calls Tryz.prog 191 #[.pointer (some ⟨y.R,0,none⟩),.string x,.int .i64 (m.nx.getD k 0)] (w.alloc (.cells #[.string op,.string x,.string yy,.string cond,.int .i64 tt,.bool head] 100)).drew fun e w'=>e = .returned (.tuple #[]) ∧ Rc w' y vs al cl { m with st:=m.st.set (fndL vs x) (m.nx.getD k 0) } ∧ Stp y.fp (w.alloc (.cells #[.string op,.string x,.string yy,.string cond,.int .i64 tt,.bool head] 100)).drew y.fp w'):=hide (rset_any ((uh H1).below (below_drewQ _ 1)) hv x hf2 _)
   have r1:=(uh H1).r1
   have h3:=(uh H1).h3
   have hlx:=(uh H1).lx
   obtain ⟨g,cap,hs,hcn,hm,hgl⟩:=own_pos (uh H1).nx (by omega)
   have hrow:=(uh H1).nx
   rw [hs] at h3 hrow
   have z:=(hrow.cellAt k (by omega)).trans (ints_get (l:=m.nx) (by omega))
   have hk2 : k < m.nx.length:=by omega
   obtain ⟨q,hq⟩ : ∃ q,q = m.nx.getD k 0:=⟨_,rfl⟩
   have HU4 : Hid (∀ W st',Rc W y vs al cl { m with st:=st' } → W.cell? ⟨g,k,none⟩ = some (.int .i64 (m.nx.getD k 0))):=hide (fun W st' hW=>by
    have h4:=hW.nx
    rw [hs] at h4
    exact (h4.cellAt k (by show k < m.nx.length * 1; omega)).trans (ints_get (l:=m.nx) (by omega)))
   rw [← hq] at z HSe HT HU4
   have HXs : Hid (some y.xv = some (.slice (some ⟨g,0,none⟩) m.nx.length cap)):=hide (by rw [hs])
   have HNl : Hid (w.heap.size < (w.alloc (.cells #[.string op,.string x,.string yy,.string cond,.int .i64 tt,.bool head] 100)).drew.heap.size):=hide (uh HBk).lt
   have HNf : Hid (w.heap.size ∉ y.fp):=hide (fun e=>by have:=uh HLt _ e; omega)
   obtain ⟨b0,b1,b2,b3,b4,b5,-⟩:=bk6 (uh HBk)
   have i0 : (0 : Int) ≤ (k : Int):=by omega
   have i1 : (k : Int) < (m.nx.length : Int):=by omega
   clear hs hrow hq hlx hf2
   obtain ⟨w1,hw1⟩ : ∃ w1,w1 = w.alloc (.cells #[.string op,.string x,.string yy,.string cond,.int .i64 tt,.bool head] 100):=⟨_,rfl⟩
   go_enter Tryz.func193,Tryz.ntmps193
   go_wp2_with fail
   rw [← hw1] at HVa HAt HSe HNl H1 HS1 HBk r1 h3 z b0 b1 b2 b3 b4 b5 r3 f3 ⊢
   clear hw1
   refine (uh HVa).mono ?_
   rintro e w1 ⟨rfl,rfl⟩
   go_wp2_with fail
   refine (uh HAt).mono ?_
   rintro e w1 ⟨rfl,rfl⟩
   go_wp2_with fail
   go_region_held3 (fun W=>W.cell? ⟨w.heap.size,1,none⟩ = some (.string x) ∧ W.cell? ⟨y.R,1,none⟩ = some (.pointer (some ⟨y.H,0,none⟩)) ∧ W.cell? ⟨y.H,3,none⟩ = some (.slice (some ⟨g,0,none⟩) m.nx.length cap) ∧ W.cell? ⟨g,k,none⟩ = some (.int .i64 q)) (first | (simp only [World.cell?_drew,b1,r1,h3,z,and_self]; done) | (simp only [u1,u2,u3,u4,and_self]; done))
    (first
     | (go_at_call 191; refine (uh HSe).mono ?_; rintro e w2 ⟨rfl,hR2,hS2⟩; have u1:=(hS2.cell (p:=⟨w.heap.size,1,none⟩) (uh HNl) (uh HNf)).trans b1; have u2:=hR2.r1; have u3:=hR2.h3.trans (uh HXs); have u4:=uh HU4 w2 _ hR2; have HR2:=hide hR2; have HS2:=hide hS2; clear hR2 hS2))
   go_wp2_with fail
   go_ret
   exact ⟨by rw [uh HT]; rfl,y.av,y.xv,by rw [uh HT]; exact uh HR2,(uh HS1).trans ((Stp.ofBw (below_drewQ w1 1)).trans (uh HS2))⟩
  | false =>
   simp only [Bool.false_eq_true,if_false] at HVa HT
   have r1:=(uh H1).r1
   have hlx:=(uh H1).lx
   obtain ⟨b0,b1,b2,b3,b4,b5,-⟩:=bk6 (uh HBk)
   have i0 : (0 : Int) ≤ (k : Int):=by omega
   cases hst : eqW op storeW with
   | true =>
    have hb2' : (op.toList == [115,116,111,114,101]) = true:=by rw [← storeW_l]; exact hst
    rw [hst,if_pos rfl] at HT
    have h3:=(uh H1).h3
    obtain ⟨g,cap,hs,hcn,hm,hgl⟩:=own_pos (uh H1).nx (by omega)
    have hrow:=(uh H1).nx
    rw [hs] at h3 hrow
    have z:=(hrow.cellAt k (by omega)).trans (ints_get (l:=m.nx) (by omega))
    have zf:=hrow.frozenAt k
    have hk2 : k < m.nx.length:=by omega
    generalize m.nx.getD k 0 = q0 at z
    obtain ⟨q,hq⟩ : ∃ q,q = vlR vs m.st yy:=⟨_,rfl⟩
    have HVy:=hide (rval_any (uh H1) hv yy)
    rw [← hq] at HVy HT
    have i1 : (k : Int) < (m.nx.length : Int):=by omega
    have HS:=hide hs
    clear hs hrow hq hlx hst hgl
    obtain ⟨w1,hw1⟩ : ∃ w1,w1 = w.alloc (.cells #[.string op,.string x,.string yy,.string cond,.int .i64 tt,.bool head] 100):=⟨_,rfl⟩
    go_enter Tryz.func193,Tryz.ntmps193
    go_wp2_with fail
    rw [← hw1] at HVa HAt HVy H1 HS1 HBk r1 h3 z zf b0 b1 b2 b3 b4 b5 r3 f3 ⊢
    clear hw1
    refine (uh HVa).mono ?_
    rintro e w1 ⟨rfl,rfl⟩
    go_wp2_with fail
    refine (uh HAt).mono ?_
    rintro e w1 ⟨rfl,rfl⟩
    go_wp2_with fail
    refine (uh HVy).mono ?_
    rintro e w1 ⟨rfl,rfl⟩
    go_wp2_with fail
    go_ret
    exact ⟨by rw [uh HT]; rfl,y.av,y.xv,by rw [uh HT]; exact (uh H1).setNx (uh HS) k q,(uh HS1).setCell (Or.inl (by rw [RL.fp,uh HS]; simp [Value.ownBlock])) _⟩
   | false =>
    have hb2' : (op.toList == [115,116,111,114,101]) = false:=by rw [← storeW_l]; exact hst
    rw [hst] at HT
    simp only [Bool.false_eq_true,if_false] at HT
    have h2:=(uh H1).h2
    clear hst
    obtain ⟨w1,hw1⟩ : ∃ w1,w1 = w.alloc (.cells #[.string op,.string x,.string yy,.string cond,.int .i64 tt,.bool head] 100):=⟨_,rfl⟩
    have HCu : Hid (∀ W,Below w1.heap.size w1 W → Calls Tryz.prog 221 #[y.av,.int .i64 k] W fun e w'=>∃ v',e = .returned v' ∧ w'.ownsRow w1.heap.size 3 1 v' (m.ad.eraseIdx k).length (ints (m.ad.eraseIdx k)) ∧ Below w1.heap.size w1 w'):=hide (fun W hW=>by
     rw [hw1] at hW
     refine (cut_any2 ((uh H1).below hW).ad hf hl).mono ?_
     rintro e w' ⟨v',rfl,ho,hb⟩
     rw [hw1]
     exact ⟨v',rfl,by rw [List.length_eraseIdx_of_lt hf]; exact own_le ho hW.size,hW.trans (hb.mono hW.size)⟩)
    go_enter Tryz.func193,Tryz.ntmps193
    go_wp2_with fail
    rw [← hw1] at HVa HAt H1 HS1 HBk r1 h2 b0 b1 b2 b3 b4 b5 r3 f3 ⊢
    clear hw1
    refine (uh HVa).mono ?_
    rintro e w1 ⟨rfl,rfl⟩
    go_wp2_with fail
    refine (uh HAt).mono ?_
    rintro e w1 ⟨rfl,rfl⟩
    go_upto_region 12 with fail
    go_cut [46] (fun _ wx=>∃ v1,Hid (CutS w1 wx y v1 (m.ad.eraseIdx k)))
    case first =>
     go_region_with (go_at_call 221; refine (uh HCu _ (below_drewQ _ 1)).mono ?_; rintro e w2 ⟨v1,rfl,hO2,hB2⟩; obtain ⟨a1,c1,rfl⟩:=slice_of_own hO2; have hR2:=(uh H1).below hB2; have k1:=hR2.r1; have k2:=hR2.h2; have zf:=hR2.hk.frz 2; have HB2:=hide hB2; have HO2:=hide hO2; clear hB2 hO2 hR2)
     all_goals
      go_wp2_with fail
      go_meet
      exact ⟨_,hide (CutS.of (uh H1) (uh HB2) (uh HO2))⟩
    case rest =>
     obtain ⟨v1,hC⟩:=hcut
     have s1:=(uh hC).r1 (uh H1)
     have s3 : wc.cell? ⟨y.H,3,none⟩ = some y.xv:=(uh hC).hk.cell 3 rfl
     have HCx : Hid (∀ W,Below wc.heap.size wc W → Calls Tryz.prog 221 #[y.xv,.int .i64 k] W fun e w'=>∃ v',e = .returned v' ∧ w'.ownsRow wc.heap.size 3 1 v' (m.nx.eraseIdx k).length (ints (m.nx.eraseIdx k)) ∧ Below wc.heap.size wc w'):=hide (fun W hW=>by
      refine (cut_any2 (rowBelow2 ((uh hC).nx (uh H1)) hW) (by omega) (by omega)).mono ?_
      rintro e w' ⟨v',rfl,ho,hb⟩
      exact ⟨v',rfl,by rw [List.length_eraseIdx_of_lt (by omega)]; exact own_le ho hW.size,hW.trans (hb.mono hW.size)⟩)
     have HLn : Hid ((m.nx.eraseIdx k).length = (m.ad.eraseIdx k).length):=hide (by rw [List.length_eraseIdx_of_lt (by omega),List.length_eraseIdx_of_lt hf,hlx])
     have hRl : y.R < wc.heap.size:=Nat.lt_of_lt_of_le (uh H1).bk.lt (uh hC).st.size
     have hHl : y.H < wc.heap.size:=(uh hC).hk.lt
     clear r1 h2 r3 f3 b0 b1 b2 b3 b4 b5 HCu HVa HAt
     go_upto_region 13 with fail
     go_region_with (go_at_call 221; refine (uh HCx _ (below_drewQ _ 1)).mono ?_; rintro e w2 ⟨v2,rfl,hO2,hB2⟩; obtain ⟨a1,c1,rfl⟩:=slice_of_own hO2; have k1:=(hB2.cell (p:=⟨y.R,1,none⟩) hRl).trans s1; have k2:=(hB2.cell (p:=⟨y.H,3,none⟩) hHl).trans s3; have zf:=((uh hC).hk.below hB2).frz 3; have HB2:=hide hB2; have HO2:=hide hO2; clear hB2 hO2)
     all_goals
      go_wp2_with fail
      go_ret
      have hfin:=(uh hC).fin (uh H1) (uh HB2) (uh HO2) (uh HLn)
      exact ⟨by rw [uh HT]; rfl,_,_,by rw [uh HT]; exact hfin.1,(uh HS1).trans hfin.2⟩
 ·have hr : rI m.ad a = -1:=by unfold rI; rw [if_neg hf]
  rw [hr] at HAt
  have hTo:=uh HTo
  rw [if_neg hf] at hTo
  have HT:=hide hTo
  clear hTo HTo hr hf
  obtain ⟨b0,b1,b2,b3,b4,b5,-⟩:=bk6 (uh HBk)
  obtain ⟨w1,hw1⟩ : ∃ w1,w1 = w.alloc (.cells #[.string op,.string x,.string yy,.string cond,.int .i64 tt,.bool head] 100):=⟨_,rfl⟩
  have H2:=hide ((uh H1).setWhat 4)
  have HS2:=hide ((uh HS1).setCell (p:=⟨y.R,3,none⟩) (Or.inl Rc.memR) (.int .i64 ((4 : Nat) : Int)))
  have H3:=hide ((uh H2).setWhat 3)
  have HS3:=hide ((uh HS2).setCell (p:=⟨y.R,3,none⟩) (Or.inl Rc.memR) (.int .i64 ((3 : Nat) : Int)))
  by_cases ha0 : a = 0
  ·rw [if_pos ha0] at HT
   have ha1 : (a == 0) = true:=by simpa using ha0
   clear ha0
   cases ld
   all_goals
    simp only [Bool.false_eq_true,if_false,if_true] at HVa
    go_enter Tryz.func193,Tryz.ntmps193
    go_wp2_with fail
    rw [← hw1] at HVa HAt H1 HS1 H2 HS2 H3 HS3 HBk b0 b1 b2 b3 b4 b5 r3 f3 ⊢
    clear hw1
    refine (uh HVa).mono ?_
    rintro e w1 ⟨rfl,rfl⟩
    go_wp2_with fail
    refine (uh HAt).mono ?_
    rintro e w1 ⟨rfl,rfl⟩
    go_wp2_with fail
    go_ret
    exact ⟨by rw [uh HT]; rfl,y.av,y.xv,by rw [uh HT]; exact uh H3,uh HS3⟩
  ·rw [if_neg ha0] at HT
   have ha1 : (a == 0) = false:=by simpa using ha0
   clear ha0
   cases ld
   all_goals
    simp only [Bool.false_eq_true,if_false,if_true] at HVa
    go_enter Tryz.func193,Tryz.ntmps193
    go_wp2_with fail
    rw [← hw1] at HVa HAt H1 HS1 H2 HS2 H3 HS3 HBk b0 b1 b2 b3 b4 b5 r3 f3 ⊢
    clear hw1
    refine (uh HVa).mono ?_
    rintro e w1 ⟨rfl,rfl⟩
    go_wp2_with fail
    refine (uh HAt).mono ?_
    rintro e w1 ⟨rfl,rfl⟩
    go_wp2_with fail
    go_ret
    exact ⟨by rw [uh HT]; rfl,y.av,y.xv,by rw [uh HT]; exact uh H2,uh HS2⟩
end
end Go.Proofs.YtciihepbeacppaaGreat
