import Derived.Test.YtciihepbeacppaaGreatM09
import Derived.Test.YtciihepbeacppaaGreatM01
import Derived.Test.YtciihepbeacppaaGreatM08
import Derived.Test.YtciihepbeacppaaGreatM00
import Derived.Deep.RegionLaw
import Derived.Laws.CopyOwn
import Derived.Laws.OwnMore
namespace Go.Proofs.YtciihepbeacppaaGreat
open Go.RowKit
set_option linter.unusedVariables false
def blC (l:List Bool):List Value:=l.map Value.bool
theorem blC_get {l:List Bool} {j:Nat} (h:j < l.length):(blC l)[j]? = some (.bool (l.getD j false)):=by simp [blC,h]
theorem blC_set (l:List Bool) (j:Nat) (b:Bool):(blC l).set j (.bool b) = blC (l.set j b):=by simp [blC,List.map_set]
def Seen (bl:List Bool) (seen:List Nat):Prop:=bl.length = 24∧∀ c,c < 24→(bl.getD c false = true↔c∈seen)
theorem Seen.add {bl:List Bool} {seen:List Nat} (h:Seen bl seen) {c:Nat} (hc:c < 24):Seen (bl.set c true) (c :: seen):=by
 refine ⟨by simpa using h.1,fun d hd=>?_⟩
 rw [getD_set _ _ _ _ _ (by rw [h.1];exact hc),List.mem_cons]
 by_cases e:c = d
 ·rw [if_pos e];simp [e]
 ·rw [if_neg e,h.2 d hd]
  exact ⟨Or.inr,fun h=>h.resolve_left (fun h=>e h.symm)⟩
theorem false_ap {f:CF} {k:Nat} (hk:k < f.ap.length) (h:f.ap[k].l = f.ap[k].r):falB f = true:=by
 unfold falB
 have:f.ap.any (fun p=>p.l == p.r) = true:=List.any_eq_true.2 ⟨_,List.getElem_mem hk,by simpa using h⟩
 rw [this];rfl
theorem false_rest {f:CF} (h:∀ j,(hj:j < f.ap.length)→f.ap[j].l≠f.ap[j].r):falB f = dupB [f.cl.getD 0 0] f.ow:=by
 unfold falB
 have:f.ap.any (fun p=>p.l == p.r) = false:=by
  rw [List.any_eq_false]
  intro p hp
  obtain ⟨j,hj,rfl⟩:=List.mem_iff_getElem.1 hp
  simpa using h j hj
 rw [this];rfl
set_option maxRecDepth 100000 in
set_option maxHeartbeats 8000000 in
theorem false_any {w:World} {A:Nat} {f:CF} {av ov:Value} (h:IsF w A f av ov) (hR:Rm f) (h0:f.cl.getD 0 0 < 24) :
  Calls Tryz.prog 115 #[.pointer (some ⟨A,0,none⟩)] w fun e w'=>e = .returned (.bool (falB f))∧Below w.heap.size w w':=by
 obtain ⟨ao,cap,hav,hm',hnc,hc⟩:=pr_of_own h.ap
 have hm:cap≤9223372036854775807:=by unfold maxLen at hm';omega
 have h5:=h.c5
 rw [hav] at h5
 have HC:=hide hc
 have HF:=hide h
 clear hc hav h hm'
 go_enter Tryz.func115,Tryz.ntmps115
 go_wp2_with fail
 go_loopw [13] (fun i wr=>∃ k:Nat,k≤f.ap.length∧i = .int .i64 k∧Hid (∀ j,(hj:j < f.ap.length)→j < k→f.ap[j].l≠f.ap[j].r)∧Hid (Below w.heap.size w wr)) (fun i _=>f.ap.length - (intOf i).toNat)
 case atStart=>exact ⟨0,Nat.zero_le _,rfl,fun _ _ h=>absurd h (by omega),hide (Below.refl _ _)⟩
 case round =>
  obtain ⟨k,hk,rfl,hall,hbl⟩:=hrel
  by_cases hlt:k < f.ap.length
  ·obtain ⟨g,hao,hcell⟩:=uh HC (by intro h;rw [h] at hlt;simp at hlt)
   subst hao
   obtain ⟨hx0,hx1,hx2⟩:=hcell k hlt
   have c0:=((uh hbl).cell (World.block_lt_of_cell? w _ hx0)).trans hx0
   have c1:=((uh hbl).cell (World.block_lt_of_cell? w _ hx1)).trans hx1
   have c2:=((uh hbl).cell (World.block_lt_of_cell? w _ hx2)).trans hx2
   clear hcell hx0 hx1 hx2
   obtain ⟨p,hp⟩:∃ p,p = f.ap[k]:=⟨_,rfl⟩
   rw [← hp] at c0 c1 c2
   have HP:=hide hp
   have HBz:=hide ((uh hbl).alloc (uh hbl).size (.cells #[Value.int .i64 p.k,.int .i64 p.l,.int .i64 p.r] 182))
   obtain ⟨-,n1,n2⟩:=new3 wr (Value.int .i64 p.k) (.int .i64 p.l) (.int .i64 p.r) 182
   clear hp
   by_cases hlr:p.l = p.r
   ·have he:((p.l:Int) == (p.r:Int)) = true:=by rw [nat_beq];simpa using hlr
    have HE:Hid (falB f = true):=hide (false_ap hlt (by rw [← uh HP];exact hlr))
    clear hlr
    go_wp2_with fail
    go_ret
    exact ⟨by rw [uh HE];rfl,uh HBz⟩
   ·have he:((p.l:Int) == (p.r:Int)) = false:=by rw [nat_beq];simpa using hlr
    have HLR:=hide hlr
    clear hlr
    go_wp2_with fail
    go_roundw
    case rel =>
     refine ⟨k + 1,by omega,by go_num,hide (fun j hj hjk=>?_),HBz⟩
     by_cases e:j = k
     ·subst e;rw [← uh HP];exact uh HLR
     ·exact hall.out j hj (by omega)
    case measure=>simp [intOf];omega
  ·have hd:decide ((k:Int) < (f.ap.length:Int)) = false:=by simp;omega
   have HE:Hid (falB f = dupB [f.cl.getD 0 0] f.ow):=hide (false_rest (fun j hj=>hall.out j hj (by omega)))
   have hFr:=(uh HF).of_eq (fun k hk=>(uh hbl).block k ((uh HF).lt k hk))
   have h0r:=(hFr.alloc (Obj.cells #[Value.bool false,Value.bool false,Value.bool false,Value.bool false,Value.bool false,Value.bool false,Value.bool false,Value.bool false,Value.bool false,Value.bool false,Value.bool false,Value.bool false,Value.bool false,Value.bool false,Value.bool false,Value.bool false,Value.bool false,Value.bool false,Value.bool false,Value.bool false,Value.bool false,Value.bool false,Value.bool false,Value.bool false] 240)).cls (i:=0) (by omega)
   unfold clV at h0r
   obtain ⟨c0,hc0⟩:∃ c0,c0 = f.cl.getD 0 0:=⟨_,rfl⟩
   rw [← hc0] at h0r h0 HE
   have hD0:Ob (wr.alloc (Obj.cells #[Value.bool false,Value.bool false,Value.bool false,Value.bool false,Value.bool false,Value.bool false,Value.bool false,Value.bool false,Value.bool false,Value.bool false,Value.bool false,Value.bool false,Value.bool false,Value.bool false,Value.bool false,Value.bool false,Value.bool false,Value.bool false,Value.bool false,Value.bool false,Value.bool false,Value.bool false,Value.bool false,Value.bool false] 240)) 240 24 wr.heap.size (blC (List.replicate 24 false)):=by
    exact World.ownsRow_lit (base:=0) (e:=240) (size:=24) wr (blC (List.replicate 24 false)).toArray 1 (Nat.zero_le _) (by simp [maxLen]) rfl
   obtain ⟨⟨u0,hu0⟩,hz0⟩:=hD0.some (j:=c0) h0
   have hD1:Ob (wr.alloc (Obj.cells ([Value.bool false,Value.bool false,Value.bool false,Value.bool false,Value.bool false,Value.bool false,Value.bool false,Value.bool false,Value.bool false,Value.bool false,Value.bool false,Value.bool false,Value.bool false,Value.bool false,Value.bool false,Value.bool false,Value.bool false,Value.bool false,Value.bool false,Value.bool false,Value.bool false,Value.bool false,Value.bool false,Value.bool false].set c0 (Value.bool true)).toArray 240)) 240 24 wr.heap.size (blC ((List.replicate 24 false).set c0 true)):=by
    have h1:=World.ownsRow_lit (base:=0) (e:=240) (size:=24) wr ([Value.bool false,Value.bool false,Value.bool false,Value.bool false,Value.bool false,Value.bool false,Value.bool false,Value.bool false,Value.bool false,Value.bool false,Value.bool false,Value.bool false,Value.bool false,Value.bool false,Value.bool false,Value.bool false,Value.bool false,Value.bool false,Value.bool false,Value.bool false,Value.bool false,Value.bool false,Value.bool false,Value.bool false].set c0 (Value.bool true)).toArray 1 (Nat.zero_le _) (by simp [maxLen]) (by simp)
    rw [← blC_set]
    exact h1
   have hsn:Seen ((List.replicate 24 false).set c0 true) [c0]:=by
    refine Seen.add (seen:=[]) ⟨by simp,fun c hc=>?_⟩ h0
    rw [List.getD_eq_getElem?_getD,List.getElem?_replicate,if_pos hc];simp
   have hB1:Below w.heap.size w (wr.alloc (Obj.cells ([Value.bool false,Value.bool false,Value.bool false,Value.bool false,Value.bool false,Value.bool false,Value.bool false,Value.bool false,Value.bool false,Value.bool false,Value.bool false,Value.bool false,Value.bool false,Value.bool false,Value.bool false,Value.bool false,Value.bool false,Value.bool false,Value.bool false,Value.bool false,Value.bool false,Value.bool false,Value.bool false,Value.bool false].set c0 (Value.bool true)).toArray 240)):=(uh hbl).alloc (uh hbl).size _
   have hF1:=(uh HF).of_eq (fun k hk=>hB1.block k ((uh HF).lt k hk))
   have h6:=hF1.c6
   obtain ⟨oo,ocap,hov,hom',hon,hoc⟩:=pr_of_own (uh HF).ow
   have hom:ocap≤9223372036854775807:=by unfold maxLen at hom';omega
   rw [hov] at h6
   have HOC:=hide hoc
   have HD1:=hide hD1
   have HSn:=hide hsn
   have HB1:=hide hB1
   obtain ⟨D,hD⟩:∃ D,D = wr.heap.size:=⟨_,rfl⟩
   have hDB:w.heap.size≤D:=by rw [hD];exact (uh hbl).size
   have HDD:=hide hD
   have HC0:=hide hc0
   clear hFr hD0 hD1 hsn hB1 hF1 hov hoc hom' hD hc0
   go_wp2_with fail
   obtain ⟨w1,hw1⟩:∃ w1,w1 = wr.alloc (Obj.cells ([Value.bool false,Value.bool false,Value.bool false,Value.bool false,Value.bool false,Value.bool false,Value.bool false,Value.bool false,Value.bool false,Value.bool false,Value.bool false,Value.bool false,Value.bool false,Value.bool false,Value.bool false,Value.bool false,Value.bool false,Value.bool false,Value.bool false,Value.bool false,Value.bool false,Value.bool false,Value.bool false,Value.bool false].set c0 (Value.bool true)).toArray 240):=⟨_,rfl⟩
   rw [← hw1] at h6 HD1 HB1 ⊢
   rw [← uh HDD] at HD1 ⊢
   clear hw1 h0r hu0 hz0
   go_loopw [34] (fun i wr=>∃ (k:Nat) (bl:List Bool) (seen:List Nat),k≤f.ow.length∧i = .int .i64 k∧Hid (Ob wr 240 24 D (blC bl))∧Hid (Seen bl seen)∧Hid (dupB seen (f.ow.drop k) = falB f)∧Hid (Below w.heap.size w wr)) (fun i _=>f.ow.length - (intOf i).toNat)
   case atStart=>exact ⟨0,_,[c0],Nat.zero_le _,rfl,HD1,HSn,hide (uh HE).symm,HB1⟩
   case round =>
    obtain ⟨k,bl,seen,hk,rfl,hD2,hsn,hdu,hbl2⟩:=hrel
    by_cases hlt2:k < f.ow.length
    ·obtain ⟨g,hoo,hcell⟩:=uh HOC (by intro h;rw [h] at hlt2;simp at hlt2)
     subst hoo
     obtain ⟨hx0,hx1,hx2⟩:=hcell k hlt2
     have c0':=((uh hbl2).cell (World.block_lt_of_cell? w _ hx0)).trans hx0
     have c1:=((uh hbl2).cell (World.block_lt_of_cell? w _ hx1)).trans hx1
     have c2:=((uh hbl2).cell (World.block_lt_of_cell? w _ hx2)).trans hx2
     clear hcell hx0 hx1 hx2
     obtain ⟨hpl,-⟩:=hR _ (List.getElem_mem hlt2)
     obtain ⟨p,hp⟩:∃ p,p = f.ow[k]:=⟨_,rfl⟩
     rw [← hp] at c0' c1 c2 hpl
     have hstep:dupB seen (f.ow.drop k) = if p.l∈seen then true else dupB (p.l :: seen) (f.ow.drop (k + 1)):=by
      rw [List.drop_eq_getElem_cons hlt2,← hp];rfl
     rw [uh hdu] at hstep
     obtain ⟨-,n1,n2⟩:=new3 wr (Value.int .i64 p.k) (.int .i64 p.l) (.int .i64 p.r) 182
     have hD3:=(uh hD2).alloc (.cells #[Value.int .i64 p.k,.int .i64 p.l,.int .i64 p.r] 182)
     have hdl:bl.length = 24:=(uh hsn).1
     have d1:=(World.ownsRow.cellAt hD3 p.l (by omega)).trans (blC_get (l:=bl) (by omega))
     have z1:=World.ownsRow.frozenAt hD3 p.l
     obtain ⟨sb,hsb⟩:∃ sb,sb = bl.getD p.l false:=⟨_,rfl⟩
     rw [← hsb] at d1
     have hiff:=(uh hsn).2 p.l hpl
     rw [← hsb] at hiff
     have HB3:=hide ((uh hbl2).alloc (uh hbl2).size (.cells #[Value.int .i64 p.k,.int .i64 p.l,.int .i64 p.r] 182))
     have HD4:=hide (hD3.set p.l (.bool true))
     rw [blC_set] at HD4
     have HSn4:=hide ((uh hsn).add hpl)
     have HSt:=hide hstep
     have HIf:=hide hiff
     clear hp hstep hD3 hsb hiff hD2 hsn hdu
     cases sb with
     | true =>
      have HFin:Hid (falB f = true):=hide (by rw [uh HSt,if_pos ((uh HIf).1 rfl)])
      go_wp2_with fail
      go_ret
      exact ⟨by rw [uh HFin];rfl,uh HB3⟩
     | false =>
      have HNx:Hid (dupB (p.l :: seen) (f.ow.drop (k + 1)) = falB f):=hide (by
       rw [uh HSt,if_neg (fun h=>by have:=(uh HIf).2 h;cases this)])
      have HB4:=hide ((uh HB3).setCell (p:=⟨D,p.l,none⟩) hDB (.bool true))
      go_wp2_with fail
      go_roundw
      case rel=>exact ⟨k + 1,_,p.l :: seen,by omega,by go_num,HD4,HSn4,HNx,HB4⟩
      case measure=>simp [intOf];omega
    ·have hd2:decide ((k:Int) < (f.ow.length:Int)) = false:=by simp;omega
     have HFin:Hid (falB f = false):=hide (by rw [← uh hdu,List.drop_of_length_le (by omega)];rfl)
     go_wp2_with fail
     go_ret
     exact ⟨by rw [uh HFin];rfl,uh hbl2⟩
def Bk (w:World) (A:Nat) (T:TypeId) (xs:List Value):Prop:=w.heap[A]? = some (.cells xs.toArray T (0,0))
section
variable {w w':World} {A T:Nat} {xs:List Value}
theorem Bk.lt (h:Bk w A T xs):A < w.heap.size:=(Array.getElem?_eq_some_iff.1 h).1
theorem Bk.of_eq (h:Bk w A T xs) (he:w'.heap[A]? = w.heap[A]?):Bk w' A T xs:=he.trans h
theorem Bk.cell (h:Bk w A T xs) (j:Nat) {u:Value} (hj:xs[j]? = some u):w.cell? ⟨A,j,none⟩ = some u:=by
 rw [cell_of_row w A j xs.toArray T (0,0) h];simpa using hj
theorem Bk.frz (h:Bk w A T xs) (j:Nat):w.frozen? ⟨A,j,none⟩ = false:=frozen_of_row w A j xs.toArray T h
theorem Bk.set (h:Bk w A T xs) (j:Nat) (u:Value):Bk (w.setCell ⟨A,j,none⟩ u) A T (xs.set j u):=by
 have:=heap_setCell_same w A j xs.toArray T u h
 unfold Bk;rw [this];simp
theorem Bk.new (w:World) (T:TypeId) (xs:List Value):Bk (w.alloc (.cells xs.toArray T)) w.heap.size T xs:=heap_alloc_new w _
theorem Bk.alloc (h:Bk w A T xs) (o:Obj):Bk (w.alloc o) A T xs:=h.of_eq (Below.heap_alloc _ _ _ h.lt)
theorem Bk.below (h:Bk w A T xs) (hb:Below w.heap.size w w'):Bk w' A T xs:=h.of_eq (hb.block _ h.lt)
theorem Bk.stp {F F':List Nat} (h:Bk w A T xs) (hs:Stp F w F' w') (hA:A ∉ F):Bk w' A T xs:=h.of_eq (hs.block _ h.lt hA)
theorem Bk.setO (h:Bk w A T xs) {p:Addr} (hp:p.block≠A) (u:Value):Bk (w.setCell p u) A T xs:=h.of_eq (Below.heap_setCell _ _ _ _ (fun e=>hp e.symm))
end
section
variable {w w':World} {B e sz n:Nat} {v:Value} {xs:List Value}
theorem own_setO (h:w.ownsRow B e sz v n xs) {p:Addr} (hp:v.ownBlock≠some p.block) (u:Value):(w.setCell p u).ownsRow B e sz v n xs :=
 ownsRow_of_eq h (fun k hk=>Below.heap_setCell _ _ _ _ (by rintro rfl;exact hp hk))
theorem own_le {B':Nat} (h:w.ownsRow B e sz v n xs) (hb:B'≤B):w.ownsRow B' e sz v n xs:=by
 refine ⟨h.1,?_⟩
 rcases h.2 with hn | ⟨g,cap,cur,rfl,hB,hg,rest⟩
 ·exact .inl hn
 ·exact .inr ⟨g,cap,cur,rfl,Nat.le_trans hb hB,hg,rest⟩
theorem own_bw (h:w.ownsRow B e sz v n xs) (hb:Below w.heap.size w w'):w'.ownsRow B e sz v n xs:=ownsRow_of_eq h (fun k hk=>hb.block k (h.lt k hk).2)
theorem own_slc (h:w.ownsRow B e sz v n xs):∃ ao cap,v = .slice ao n cap∧n≤cap∧cap≤9223372036854775807:=by
 rcases h.2 with ⟨rfl,rfl⟩ | ⟨g,cap,cur,rfl,_,_,h1,h2,_⟩
 ·exact ⟨_,_,rfl,by omega,by omega⟩
 ·exact ⟨_,_,rfl,h1,by unfold maxLen at h2;omega⟩
theorem own_pos (h:w.ownsRow B e sz v n xs) (hn:0 < n):∃ g cap,v = .slice (some ⟨g,0,none⟩) n cap∧n≤cap∧cap≤9223372036854775807∧g < w.heap.size:=by
 have hh:=h
 rcases h.2 with ⟨rfl,rfl⟩ | ⟨g,cap,cur,rfl,_,_,h1,h2,_⟩
 ·omega
 ·exact ⟨_,_,rfl,h1,by unfold maxLen at h2;omega,(hh.lt g rfl).2⟩
end
theorem Stp.foots {F F' F'':List Nat} {w w':World} (h:Stp F w F' w') (hf:∀ k∈F'',k∈F∨w.heap.size≤k):Stp F w F'' w':=⟨h.os,h.tape,h.output,h.size,h.block,hf⟩
theorem Stp.wide {F F' G:List Nat} {w w':World} (h:Stp F w F' w') (hf:∀ k∈F,k∈G):Stp G w G w':=⟨h.os,h.tape,h.output,h.size,fun k hk hG=>h.block k hk (fun hF=>hG (hf k hF)),fun _ hk=>Or.inl hk⟩
theorem Stp.ofBw {F:List Nat} {w w':World} (h:Below w.heap.size w w'):Stp F w F w':=⟨h.os,h.tape,h.output,h.size,fun k hk _=>h.block k hk,fun _ hk=>Or.inl hk⟩
structure Fm (w:World) (A:Nat) (f:CF) (av ov:Value):Prop where
 is:IsF w A f av ov
 nd:(bsF A av ov).Nodup
 c5:f.cl.length = 5
section
variable {w w1 w':World} {A:Nat} {f:CF} {av ov v':Value}
theorem Fm.nds (h:Fm w A f av ov):av.ownBlock≠some A∧ov.ownBlock≠some A∧∀ k,av.ownBlock = some k→ov.ownBlock≠some k:=by
 have:=h.nd
 unfold bsF at this
 rw [List.nodup_cons,List.nodup_append] at this
 obtain ⟨h1,-,-,h4⟩:=this
 simp only [List.mem_append,Option.mem_toList,not_or] at h1
 exact ⟨h1.1,h1.2,fun k hk hc=>h4 k (by simpa using hk) k (by simpa using hc) rfl⟩
theorem Fm.of_eq (h:Fm w A f av ov) (he:∀ k∈bsF A av ov,w'.heap[k]? = w.heap[k]?):Fm w' A f av ov:=⟨h.is.of_eq he,h.nd,h.c5⟩
theorem Fm.lt (h:Fm w A f av ov):∀ k∈bsF A av ov,k < w.heap.size:=h.is.lt
theorem Fm.below (h:Fm w A f av ov) (hb:Below w.heap.size w w'):Fm w' A f av ov:=h.of_eq (fun k hk=>hb.block k (h.lt k hk))
theorem nd3 {a:Nat} {u v:Value} (h1:u.ownBlock≠some a) (h2:v.ownBlock≠some a) (h3:∀ k,u.ownBlock = some k→v.ownBlock≠some k):(bsF a u v).Nodup:=by
 unfold bsF
 rw [List.nodup_cons,List.nodup_append]
 refine ⟨by simp only [List.mem_append,Option.mem_toList,not_or];exact ⟨h1,h2⟩,by cases u.ownBlock <;> simp,by cases v.ownBlock <;> simp,?_⟩
 intro x hx y hy e
 subst e
 rw [Option.mem_toList] at hx hy
 exact h3 x hx hy
theorem stp_grow {g:Nat} {o:Obj} {row:Option Nat} (hg:(w.alloc o).grownBy w1 row) (hblk:some g = row∨g = (w.alloc o).heap.size):Stp row.toList w [g] w1 :=
 ⟨hg.os,hg.tape,hg.output,Nat.le_trans (by simp) hg.size,fun k hk hn=>(hg.block k (by simp;omega) (fun e=>hn (by rw [← e];simp))).trans (Below.heap_alloc _ _ _ hk),fun k hk=>by
  rw [List.mem_singleton] at hk
  subst hk
  rcases hblk with e | e
  ·left;rw [← e];simp
  ·right;rw [e];simp⟩
theorem Ob.stored {T n:Nat} {xs:List Value} (h:Ob w T n A xs) (j:Nat) (u:Value):Ob (w.setCell ⟨A,j,none⟩ u) T n A (xs.set j u):=(World.ownsRow.stored h j u).1
theorem Fm.newOv {ow':List Pr} {F':List Nat} (h:Fm w A f av ov) (hs:Stp ov.ownBlock.toList w F' w1) (hF:∀ k,v'.ownBlock = some k→k∈F') (hr:w1.ownsRow 0 182 3 v' ow'.length (prCells ow')) :
  Fm (w1.setCell ⟨A,6,none⟩ v') A { f with ow:=ow' } av v'∧Stp (bsF A av ov) w (bsF A av v') (w1.setCell ⟨A,6,none⟩ v'):=by
 obtain ⟨n1,n2,n3⟩:=h.nds
 have hA:A ∉ ov.ownBlock.toList:=by simpa using n2
 have hv:∀ k,v'.ownBlock = some k→ov.ownBlock = some k∨w.heap.size≤k:=fun k hk=>by
  rcases hs.foot k (hF k hk) with g | g
  ·exact Or.inl (by simpa using g)
  ·exact Or.inr g
 have hAl:=h.lt A (by simp [bsF])
 have hvA:v'.ownBlock≠some A:=fun e=>by
  rcases hv A e with g | g
  ·exact n2 g
  ·omega
 have hva:∀ k,av.ownBlock = some k→v'.ownBlock≠some k:=fun k hk e=>by
  rcases hv k e with g | g
  ·exact n3 k hk g
  ·have:=h.lt k (by simp [bsF,hk]);omega
 have ob1:Ob w1 179 7 A (foCells f av ov):=h.is.ob.of_eq (hs.block A hAl hA)
 have o2:=ob1.stored 6 v'
 refine ⟨⟨⟨o2,?_,?_⟩,nd3 n1 hvA hva,h.c5⟩,?_⟩
 ·refine ownsRow_of_eq (w:=w) h.is.ap (fun k hk=>?_)
  rw [Below.heap_setCell _ _ _ _ (by show k≠A;rintro rfl;exact n1 hk)]
  exact hs.block k (h.lt k (by simp [bsF,hk])) (by simpa using n3 k hk)
 ·exact own_setO hr (p:=⟨A,6,none⟩) hvA v'
 ·refine ((hs.wide (G:=bsF A av ov) (fun k hk=>by simp only [bsF,List.mem_cons,List.mem_append];exact Or.inr (Or.inr hk))).setCell (p:=⟨A,6,none⟩) (Or.inl (by simp [bsF])) v').foots (fun k hk=>?_)
  simp only [bsF,List.mem_cons,List.mem_append,Option.mem_toList] at hk ⊢
  rcases hk with rfl | hk | hk
  ·exact Or.inl (Or.inl rfl)
  ·exact Or.inl (Or.inr (Or.inl hk))
  ·rcases hv k hk with g | g
   ·exact Or.inl (Or.inr (Or.inr g))
   ·exact Or.inr g
theorem Fm.newAv {ap':List Pr} {F':List Nat} (h:Fm w A f av ov) (hs:Stp av.ownBlock.toList w F' w1) (hF:∀ k,v'.ownBlock = some k→k∈F') (hr:w1.ownsRow 0 182 3 v' ap'.length (prCells ap')) :
  Fm (w1.setCell ⟨A,5,none⟩ v') A { f with ap:=ap' } v' ov∧Stp (bsF A av ov) w (bsF A v' ov) (w1.setCell ⟨A,5,none⟩ v'):=by
 obtain ⟨n1,n2,n3⟩:=h.nds
 have hA:A ∉ av.ownBlock.toList:=by simpa using n1
 have hv:∀ k,v'.ownBlock = some k→av.ownBlock = some k∨w.heap.size≤k:=fun k hk=>by
  rcases hs.foot k (hF k hk) with g | g
  ·exact Or.inl (by simpa using g)
  ·exact Or.inr g
 have hAl:=h.lt A (by simp [bsF])
 have hvA:v'.ownBlock≠some A:=fun e=>by
  rcases hv A e with g | g
  ·exact n1 g
  ·omega
 have hva:∀ k,v'.ownBlock = some k→ov.ownBlock≠some k:=fun k hk e=>by
  rcases hv k hk with g | g
  ·exact n3 k g e
  ·have:=h.lt k (by simp [bsF,e]);omega
 have ob1:Ob w1 179 7 A (foCells f av ov):=h.is.ob.of_eq (hs.block A hAl hA)
 have o2:=ob1.stored 5 v'
 refine ⟨⟨⟨o2,?_,?_⟩,nd3 hvA n2 hva,h.c5⟩,?_⟩
 ·exact own_setO hr (p:=⟨A,5,none⟩) hvA v'
 ·refine ownsRow_of_eq (w:=w) h.is.ow (fun k hk=>?_)
  rw [Below.heap_setCell _ _ _ _ (by show k≠A;rintro rfl;exact n2 hk)]
  exact hs.block k (h.lt k (by simp [bsF,hk])) (by simpa using fun e=>n3 k e hk)
 ·refine ((hs.wide (G:=bsF A av ov) (fun k hk=>by simp only [bsF,List.mem_cons,List.mem_append];exact Or.inr (Or.inl hk))).setCell (p:=⟨A,5,none⟩) (Or.inl (by simp [bsF])) v').foots (fun k hk=>?_)
  simp only [bsF,List.mem_cons,List.mem_append,Option.mem_toList] at hk ⊢
  rcases hk with rfl | hk | hk
  ·exact Or.inl (Or.inl rfl)
  ·rcases hv k hk with g | g
   ·exact Or.inl (Or.inr (Or.inl g))
   ·exact Or.inr g
  ·exact Or.inl (Or.inr (Or.inr hk))
theorem Fm.setCl (h:Fm w A f av ov) (i c:Nat) (hi:i < 5):Fm (w.setCell ⟨A,i,none⟩ (.int .i64 (c:Int))) A { f with cl:=f.cl.set i c } av ov:=by
 obtain ⟨n1,n2,n3⟩:=h.nds
 have h5:=h.c5
 refine ⟨⟨?_,own_setO h.is.ap (p:=⟨A,i,none⟩) n1 _,own_setO h.is.ow (p:=⟨A,i,none⟩) n2 _⟩,h.nd,by simpa using h5⟩
 have o:=h.is.ob.stored i (.int .i64 (c:Int))
 have e:(foCells f av ov).set i (.int .i64 (c:Int)) = foCells { f with cl:=f.cl.set i c } av ov:=by
  obtain ⟨a0,a1,a2,a3,a4,ha⟩:∃ a0 a1 a2 a3 a4,f.cl = [a0,a1,a2,a3,a4]:=by
   match hc:f.cl,h5 with
   | [a0,a1,a2,a3,a4],_=>exact ⟨a0,a1,a2,a3,a4,rfl⟩
  have hk:i = 0∨i = 1∨i = 2∨i = 3∨i = 4:=by omega
  rcases hk with rfl | rfl | rfl | rfl | rfl <;> simp [foCells,clV,ha]
 rw [e] at o
 exact o
end
theorem prC_one (p:Pr):∀ u∈prC p,u.oneCell' = true:=by
 intro u hu
 simp only [prC,List.mem_cons,List.not_mem_nil,or_false] at hu
 rcases hu with rfl | rfl | rfl <;> rfl
section
variable {w:World} {A:Nat} {f:CF} {av ov:Value}
set_option maxRecDepth 100000 in
set_option maxHeartbeats 2000000 in
theorem lay_any (h:Fm w A f av ov) (k l r:Nat) (hn:f.ow.length≤100000):Calls Tryz.prog 254 #[.pointer (some ⟨A,0,none⟩),.int .i64 k,.int .i64 l,.int .i64 r] w fun e w'=>e = .returned (.tuple #[])∧∃ ov',Fm w' A { f with ow:=f.ow ++ [⟨k,l,r⟩] } av ov'∧Stp (bsF A av ov) w (bsF A av ov') w':=by
 obtain ⟨i0,hi,hz0,hz1,hz2⟩:=info_parts Tryz.infoPair
 have H:=hide h
 have c6:=h.is.c6
 have HS:=hide h.is.ow
 obtain ⟨sa,sc,hs,-,-⟩:=own_slc h.is.ow
 subst hs
 clear h
 go_enter Tryz.func254,Tryz.ntmps254
 go_wp2_with (at_builtin;refine wpList_app1 _ rfl (.tmp 12) (.tmp 17) 177 rfl 0 182 i0 _ 3 24 Tryz.underlying177 hi hz0 hz1 hz2 rfl (by decide) _ f.ow.length (prCells f.ow) rfl ((uh HS).alloc _) ⟨_,0,none⟩ 1 [.int .i64 (k:Int),.int .i64 (l:Int),.int .i64 (r:Int)] rfl rfl (new_cells _ _ (by simp) [.int .i64 (k:Int),.int .i64 (l:Int),.int .i64 (r:Int)] _) (prC_one ⟨k,l,r⟩) (by omega) (by omega) (Nat.zero_le _) ?_)
 intro g1 cap1 w1 hown1 hgrow1 hblk1
 have hs1:=stp_grow hgrow1 (by simpa using hblk1)
 have hf:=(uh H).newOv (ow':=f.ow ++ [⟨k,l,r⟩]) hs1 (v':=.slice (some ⟨g1,0,none⟩) (f.ow.length + 1) cap1) (fun k hk=>by simpa [Value.ownBlock] using hk.symm) (by
  rw [List.length_append,List.length_singleton,prCells_app];exact hown1)
 have ob1:=(uh H).is.ob.of_eq (hs1.block A ((uh H).lt A (by simp [bsF])) (by simpa using (uh H).nds.2.1))
 have d6:=World.ownsRow.cellAt ob1 6 (by omega)
 have f6:=World.ownsRow.frozenAt ob1 6
 have HF:=hide hf
 clear hown1 hgrow1 hblk1 hs1 hf ob1 c6
 go_wp2_with fail
 go_end0
 exact ⟨rfl,_,(uh HF).1,(uh HF).2⟩
set_option maxRecDepth 100000 in
set_option maxHeartbeats 2000000 in
theorem part_any (h:Fm w A f av ov) (l r:Nat) (hn:f.ap.length≤100000):Calls Tryz.prog 259 #[.pointer (some ⟨A,0,none⟩),.int .i64 l,.int .i64 r] w fun e w'=>e = .returned (.tuple #[])∧∃ av',Fm w' A { f with ap:=f.ap ++ [⟨2,l,r⟩] } av' ov∧Stp (bsF A av ov) w (bsF A av' ov) w':=by
 obtain ⟨i0,hi,hz0,hz1,hz2⟩:=info_parts Tryz.infoPair
 have H:=hide h
 have c5:=h.is.c5
 have HS:=hide h.is.ap
 obtain ⟨sa,sc,hs,-,-⟩:=own_slc h.is.ap
 subst hs
 clear h
 go_enter Tryz.func259,Tryz.ntmps259
 go_wp2_with (at_builtin;refine wpList_app1 _ rfl (.tmp 10) (.tmp 14) 177 rfl 0 182 i0 _ 3 24 Tryz.underlying177 hi hz0 hz1 hz2 rfl (by decide) _ f.ap.length (prCells f.ap) rfl ((uh HS).alloc _) ⟨_,0,none⟩ 1 [.int .i64 2,.int .i64 (l:Int),.int .i64 (r:Int)] rfl rfl (new_cells _ _ (by simp) [.int .i64 2,.int .i64 (l:Int),.int .i64 (r:Int)] _) (prC_one ⟨2,l,r⟩) (by omega) (by omega) (Nat.zero_le _) ?_)
 intro g1 cap1 w1 hown1 hgrow1 hblk1
 have hs1:=stp_grow hgrow1 (by simpa using hblk1)
 have hf:=(uh H).newAv (ap':=f.ap ++ [⟨2,l,r⟩]) hs1 (v':=.slice (some ⟨g1,0,none⟩) (f.ap.length + 1) cap1) (fun k hk=>by simpa [Value.ownBlock] using hk.symm) (by
  rw [List.length_append,List.length_singleton,prCells_app];exact hown1)
 have ob1:=(uh H).is.ob.of_eq (hs1.block A ((uh H).lt A (by simp [bsF])) (by simpa using (uh H).nds.1))
 have d6:=World.ownsRow.cellAt ob1 5 (by omega)
 have f6:=World.ownsRow.frozenAt ob1 5
 have HF:=hide hf
 clear hown1 hgrow1 hblk1 hs1 hf ob1 c5
 go_wp2_with fail
 go_end0
 exact ⟨rfl,_,(uh HF).1,(uh HF).2⟩
end
theorem below_boxQ (w:World) (o:Obj):Below w.heap.size w (w.alloc o):=(Below.refl _ _).alloc (Nat.le_refl _) o
section
variable {w:World} {A:Nat} {f:CF} {av ov:Value}
def NewF (w:World) (f:CF) (A':Nat) (w':World):Prop:=∃ av' ov',Fm w' A' f av' ov'∧(∀ k∈bsF A' av' ov',w.heap.size≤k)∧Below w.heap.size w w'
theorem own_bsz {w0:World} {e sz n:Nat} {v:Value} {xs:List Value} (h:w.ownsRow w0.heap.size e sz v n xs):∀ k,v.ownBlock = some k→w0.heap.size≤k∧k < w.heap.size:=fun k hk=>h.lt k hk
set_option maxRecDepth 100000 in
set_option maxHeartbeats 2000000 in
theorem copy_any (h:IsF w A f av ov) (h5:f.cl.length = 5) (ha:f.ap.length≤40000) (ho:f.ow.length≤40000):Calls Tryz.prog 241 #[.pointer (some ⟨A,0,none⟩)] w fun e w'=>∃ A',e = .returned (.pointer (some ⟨A',0,none⟩))∧NewF w f A' w':=by
 obtain ⟨i0,hi0,hz0,hz1,hz2⟩:=info_parts Tryz.infoPair
 have H:=hide h
 have hbx:=below_boxQ w (.cells #[] 182)
 have c5:=(h.alloc (.cells #[] 182)).c5
 have HLa:=hide ((Lst.of_own h.ap ha).below hbx)
 have HR0:=hide (World.ownsRow_lit (base:=w.heap.size) (e:=182) (size:=3) w #[] 0 (Nat.le_refl _) (by simp [maxLen]) rfl)
 obtain ⟨aa,ac,hav,-,-⟩:=own_slc h.ap
 obtain ⟨oa,oc,hov,-,-⟩:=own_slc h.ow
 have HAV:=hide hav
 have HOV:=hide hov
 rw [hav] at c5 HLa
 clear h hbx hav hov
 go_enter Tryz.func241,Tryz.ntmps241
 go_wp2_with (at_builtin;refine wpList_app_lst rfl (.tmp 5) (.tmp 9) 177 rfl w.heap.size 182 i0 _ 3 24 Tryz.underlying177 hi0 hz0 hz1 hz2 rfl (by decide) _ 0 [] rfl (uh HR0) _ f.ap.length (prCells f.ap) rfl (uh HLa) (prCells_one f.ap) (by omega) (by decide) (by simp) ?_)
 intro v1 w1 hown1 hgrow1
 have hb1:Below w.heap.size w w1:=((Below.refl w.heap.size w).alloc (Nat.le_refl _) _).grown hgrow1 (by simp) (fun k e=>by cases e;exact Nat.le_refl _)
 have h1:=(uh H).of_eq (w':=w1) (fun k hk=>hb1.block k ((uh H).lt k hk))
 have hb1x:=below_boxQ w1 (.cells #[] 182)
 have c6:=(h1.alloc (.cells #[] 182)).c6
 have HLo:=hide ((Lst.of_own h1.ow ho).below hb1x)
 have HR1:=hide (World.ownsRow_lit (base:=w1.heap.size) (e:=182) (size:=3) w1 #[] 0 (Nat.le_refl _) (by simp [maxLen]) rfl)
 rw [uh HOV] at c6 HLo
 obtain ⟨a1,k1,rfl⟩:=slice_of_own hown1
 have HO1:=hide hown1
 have HB1:=hide hb1
 have H1:=hide h1
 clear hown1 hgrow1 hb1 h1 hb1x c5 HLa HR0
 go_wp2_with (at_builtin;refine wpList_app_lst rfl (.tmp 11) (.tmp 15) 177 rfl w1.heap.size 182 i0 _ 3 24 Tryz.underlying177 hi0 hz0 hz1 hz2 rfl (by decide) _ 0 [] rfl (uh HR1) _ f.ow.length (prCells f.ow) rfl (uh HLo) (prCells_one f.ow) (by omega) (by decide) (by simp) ?_)
 intro v2 w2 hown2 hgrow2
 have hb2:Below w1.heap.size w1 w2:=((Below.refl w1.heap.size w1).alloc (Nat.le_refl _) _).grown hgrow2 (by simp) (fun k e=>by cases e;exact Nat.le_refl _)
 have h2:=(uh H1).of_eq (w':=w2) (fun k hk=>hb2.block k ((uh H1).lt k hk))
 obtain ⟨a2,k2,rfl⟩:=slice_of_own hown2
 have x0:=h2.cls (i:=0) (by omega)
 have x1:=h2.cls (i:=1) (by omega)
 have x2:=h2.cls (i:=2) (by omega)
 have x3:=h2.cls (i:=3) (by omega)
 have x4:=h2.cls (i:=4) (by omega)
 have hN:NewF w f w2.heap.size (w2.alloc (.cells #[clV f 0,clV f 1,clV f 2,clV f 3,clV f 4,.slice a1 f.ap.length k1,.slice a2 f.ow.length k2] 179)):=by
  have hbw2:=(uh HB1).trans (hb2.mono (uh HB1).size)
  have r1:=own_bw (uh HO1) hb2
  have l1:=own_bsz (w0:=w) r1
  have l1':=(uh HO1).lt
  have l2:=own_bsz (w0:=w1) hown2
  have hs1:=(uh HB1).size
  refine ⟨.slice a1 f.ap.length k1,.slice a2 f.ow.length k2,⟨⟨?_,own_le (r1.alloc _) (Nat.zero_le _),own_le (hown2.alloc _) (Nat.zero_le _)⟩,nd3 (fun e=>?_) (fun e=>?_) (fun k e1 e2=>?_),h5⟩,fun k hk=>?_,hbw2.alloc hbw2.size _⟩
  ·exact World.ownsRow_lit (base:=0) (e:=179) (size:=7) w2 #[clV f 0,clV f 1,clV f 2,clV f 3,clV f 4,.slice a1 f.ap.length k1,.slice a2 f.ow.length k2] 1 (Nat.zero_le _) (by simp [maxLen]) rfl
  ·have:=(l1 _ (by simpa [Value.ownBlock] using e)).2;omega
  ·have:=(l2 _ (by simpa [Value.ownBlock] using e)).2;omega
  ·have h1:=(l1' k (by simpa [Value.ownBlock] using e1)).2
   have h2:=(l2 k (by simpa [Value.ownBlock] using e2)).1
   omega
  ·simp only [bsF,List.mem_cons,List.mem_append,Option.mem_toList] at hk
   rcases hk with rfl | hk | hk
   ·exact hbw2.size
   ·exact (l1 k (by simpa [Value.ownBlock] using hk)).1
   ·have:=(l2 k (by simpa [Value.ownBlock] using hk)).1;omega
 have HN:=hide hN
 unfold clV at x0 x1 x2 x3 x4 HN
 obtain ⟨y0,e0⟩:∃ y,y = f.cl.getD 0 0:=⟨_,rfl⟩
 obtain ⟨y1,e1⟩:∃ y,y = f.cl.getD 1 0:=⟨_,rfl⟩
 obtain ⟨y2,e2⟩:∃ y,y = f.cl.getD 2 0:=⟨_,rfl⟩
 obtain ⟨y3,e3⟩:∃ y,y = f.cl.getD 3 0:=⟨_,rfl⟩
 obtain ⟨y4,e4⟩:∃ y,y = f.cl.getD 4 0:=⟨_,rfl⟩
 rw [← e0] at x0
 rw [← e1] at x1
 rw [← e2] at x2
 rw [← e3] at x3
 rw [← e4] at x4
 rw [← e0,← e1,← e2,← e3,← e4] at HN
 clear e0 e1 e2 e3 e4 h5
 clear hown2 hgrow2 hb2 h2 hN c6
 go_wp2_with fail
 go_ret
 exact ⟨_,rfl,uh HN⟩
end
def rnN (kept gone c:Nat):Nat:=if c = gone then kept else c
def rnP (kept gone:Nat) (p:Pr):Pr:=⟨p.k,rnN kept gone p.l,rnN kept gone p.r⟩
def joF (f:CF) (kept gone:Nat):CF:=⟨f.cl.map (rnN kept gone),f.ap.map (rnP kept gone),f.ow.map (rnP kept gone)⟩
theorem prCells_set1 {l:List Pr} {i:Nat} (hi:i < l.length) (c:Nat):(prCells l).set (i * 3 + 1) (.int .i64 (c:Int)) = prCells (l.set i ⟨(l.getD i pr0).k,c,(l.getD i pr0).r⟩):=by
 induction l generalizing i with
 | nil=>simp at hi
 | cons x l ih =>
  have hx:∀ y:Pr,prCells (y :: l) = [Value.int .i64 y.k,.int .i64 y.l,.int .i64 y.r] ++ prCells l:=fun y=>rfl
  cases i with
  | zero=>rw [hx,List.set_cons_zero,hx];rfl
  | succ i =>
   have h1:=ih (i:=i) (by simpa using hi)
   rw [hx,List.set_append_right _ _ (by simp;omega),List.set_cons_succ]
   show _ = [Value.int .i64 x.k,.int .i64 x.l,.int .i64 x.r] ++ prCells _
   rw [show (i + 1) * 3 + 1 - [Value.int .i64 (x.k:Int),.int .i64 (x.l:Int),.int .i64 (x.r:Int)].length = i * 3 + 1 by simp;omega,h1]
   rfl
def rnK (kept gone:Nat) (l:List Pr) (k:Nat):List Pr:=(l.take k).map (rnP kept gone) ++ l.drop k
theorem rnK_len (kept gone:Nat) (l:List Pr) (k:Nat):(rnK kept gone l k).length = l.length:=by simp [rnK];omega
theorem rnK_get {kept gone:Nat} {l:List Pr} {k:Nat} (hk:k < l.length):(rnK kept gone l k).getD k pr0 = l[k]:=by
 unfold rnK
 rw [List.getD_eq_getElem?_getD,List.getElem?_append_right (by simp;omega)]
 simp [hk,Nat.min_eq_left (Nat.le_of_lt hk)]
theorem rnK_step {kept gone:Nat} {l:List Pr} {k:Nat} (hk:k < l.length):rnK kept gone l (k + 1) = (rnK kept gone l k).set k (rnP kept gone l[k]):=by
 unfold rnK
 have e:l.drop k = l[k] :: l.drop (k + 1):=List.drop_eq_getElem_cons hk
 have e2:(l.take (k + 1)).map (rnP kept gone) = (l.take k).map (rnP kept gone) ++ [rnP kept gone l[k]]:=by
  rw [List.take_add_one,List.getElem?_eq_getElem hk,List.map_append];rfl
 have e3:((l.take k).map (rnP kept gone)).length = k:=by simp;omega
 rw [e2,e,List.set_append_right _ _ (by omega),e3,Nat.sub_self,List.set_cons_zero,List.append_assoc]
 rfl
section
variable {w:World} {v:Value} {l:List Pr}
set_option maxRecDepth 100000 in
set_option maxHeartbeats 2000000 in
theorem rename_any (h:w.ownsRow 0 182 3 v l.length (prCells l)) (hl:l.length≤100000) (kept gone:Nat) :
  Calls Tryz.prog 266 #[v,.int .i64 kept,.int .i64 gone] w fun e w'=>e = .returned (.tuple #[])∧w'.ownsRow 0 182 3 v l.length (prCells (l.map (rnP kept gone)))∧Stp v.ownBlock.toList w v.ownBlock.toList w':=by
 obtain ⟨va,vc,hv,hvn,hvm⟩:=own_slc h
 subst hv
 have HR0:Hid (w.ownsRow 0 182 3 (.slice va l.length vc) l.length (prCells (rnK kept gone l 0))∧Stp (Value.slice va l.length vc).ownBlock.toList w (Value.slice va l.length vc).ownBlock.toList w):=hide ⟨by simpa [rnK] using h,Stp.refl _ _⟩
 clear h
 go_enter Tryz.func266,Tryz.ntmps266
 go_wp2_with fail
 go_loopw [6] (fun i wx=>∃ (k:Nat),k≤l.length∧i = .int .i64 k∧Hid (wx.ownsRow 0 182 3 (.slice va l.length vc) l.length (prCells (rnK kept gone l k))∧Stp (Value.slice va l.length vc).ownBlock.toList w (Value.slice va l.length vc).ownBlock.toList wx)) (fun i _=>l.length - (intOf i).toNat)
 case atStart=>exact ⟨0,Nat.zero_le _,rfl,HR0⟩
 case round =>
  clear HR0
  obtain ⟨k,hk,rfl,hI⟩:=hrel
  by_cases hlt:k < l.length
  ·have hd:decide ((k:Int) < (l.length:Int)) = true:=by simp;omega
   obtain ⟨g,cap,hgv,-,-,-⟩:=own_pos (uh hI).1 (by omega)
   simp only [Value.slice.injEq,true_and] at hgv
   obtain ⟨rfl,rfl⟩:=hgv
   obtain ⟨p,hp⟩:∃ p,p = l[k]:=⟨_,rfl⟩
   have hK:=rnK_get (kept:=kept) (gone:=gone) hlt
   have hr:=(uh hI).1
   have hlen:=rnK_len kept gone l k
   have hr':wr.ownsRow 0 182 3 (.slice (some ⟨g,0,none⟩) (rnK kept gone l k).length vc) (rnK kept gone l k).length (prCells (rnK kept gone l k)):=by rw [hlen];exact hr
   obtain ⟨-,x1,x2⟩:=own_cells hr' (i:=k) (by omega)
   rw [hK,← hp] at x1 x2
   have f1:=hr.frozenAt (k * 3 + 1)
   have f2:=hr.frozenAt (k * 3 + 2)
   have i1:(0:Int)≤(k:Int):=by omega
   have i2:(k:Int) < (l.length:Int):=by omega
   -- what the two stores leave
   have hs1:∀ c:Nat,(wr.setCell ⟨g,k * 3 + 1,none⟩ (.int .i64 (c:Int))).ownsRow 0 182 3 (.slice (some ⟨g,0,none⟩) l.length vc) l.length (prCells ((rnK kept gone l k).set k ⟨p.k,c,p.r⟩)):=fun c=>by
    have:=(hr.stored (k * 3 + 1) (.int .i64 (c:Int))).1
    rw [prCells_set1 (by omega),hK,← hp] at this
    exact this
   have hs2:∀ (w2:World) (c d:Nat),w2.ownsRow 0 182 3 (.slice (some ⟨g,0,none⟩) l.length vc) l.length (prCells ((rnK kept gone l k).set k ⟨p.k,c,p.r⟩))→(w2.setCell ⟨g,k * 3 + 2,none⟩ (.int .i64 (d:Int))).ownsRow 0 182 3 (.slice (some ⟨g,0,none⟩) l.length vc) l.length (prCells ((rnK kept gone l k).set k ⟨p.k,c,d⟩)):=fun w2 c d hw=>by
    have:=(hw.stored (k * 3 + 2) (.int .i64 (d:Int))).1
    rw [prCells_set2 (by simp;omega)] at this
    simpa [hlen,hlt] using this
   have hs0:wr.ownsRow 0 182 3 (.slice (some ⟨g,0,none⟩) l.length vc) l.length (prCells ((rnK kept gone l k).set k ⟨p.k,p.l,p.r⟩)):=by
    have e:(rnK kept gone l k).set k ⟨p.k,p.l,p.r⟩ = rnK kept gone l k:=by
     have:(⟨p.k,p.l,p.r⟩:Pr) = (rnK kept gone l k)[k]'(by omega):=by
      have h2:=pr_at (l:=rnK kept gone l k) (k:=k) (by omega)
      rw [← h2,hK,← hp]
     rw [this,List.set_getElem_self]
    rw [e];exact hr
   have HS0:=hide hs0
   have HS1:=hide hs1
   have HS2:=hide hs2
   have HST:=hide (uh hI).2
   have HNX:Hid (rnK kept gone l (k + 1) = (rnK kept gone l k).set k ⟨p.k,rnN kept gone p.l,rnN kept gone p.r⟩):=hide (by rw [rnK_step hlt,← hp];rfl)
   clear hr hr' hK hlen hp hs0 hs1 hs2 hI
   have y2:∀ c:Nat,(wr.setCell ⟨g,k * 3 + 1,none⟩ (.int .i64 (c:Int))).cell? ⟨g,k * 3 + 2,none⟩ = some (.int .i64 (p.r:Int)):=fun c=>by
    rw [World.cell?_setCell_other _ _ _ _ (by simp)];exact x2
   have z2:∀ c:Nat,(wr.setCell ⟨g,k * 3 + 1,none⟩ (.int .i64 (c:Int))).frozen? ⟨g,k * 3 + 2,none⟩ = false:=fun c=>(uh HS1 c).frozenAt (k * 3 + 2)
   by_cases e1:p.l = gone
   ·by_cases e2:p.r = gone
    ·have b1:((p.l:Int) == (gone:Int)) = true:=by simp [e1]
     have b2:((p.r:Int) == (gone:Int)) = true:=by simp [e2]
     have HE:Hid (rnN kept gone p.l = kept∧rnN kept gone p.r = kept):=hide ⟨if_pos e1,if_pos e2⟩
     clear e1 e2
     go_wp2_with fail
     go_roundw
     case rel=>exact ⟨k + 1,by omega,by go_num,hide ⟨by rw [uh HNX,(uh HE).1,(uh HE).2];exact uh HS2 _ kept kept (uh HS1 kept),((uh HST).setCell (p:=⟨g,k * 3 + 1,none⟩) (Or.inl (by simp [Value.ownBlock])) _).setCell (p:=⟨g,k * 3 + 2,none⟩) (Or.inl (by simp [Value.ownBlock])) _⟩⟩
     case measure=>simp [intOf];omega
    ·have b1:((p.l:Int) == (gone:Int)) = true:=by simp [e1]
     have b2:((p.r:Int) == (gone:Int)) = false:=by simp;omega
     have HE:Hid (rnN kept gone p.l = kept∧rnN kept gone p.r = p.r):=hide ⟨if_pos e1,if_neg e2⟩
     clear e1 e2
     go_wp2_with fail
     go_roundw
     case rel=>exact ⟨k + 1,by omega,by go_num,hide ⟨by rw [uh HNX,(uh HE).1,(uh HE).2];exact uh HS1 kept,(uh HST).setCell (p:=⟨g,k * 3 + 1,none⟩) (Or.inl (by simp [Value.ownBlock])) _⟩⟩
     case measure=>simp [intOf];omega
   ·by_cases e2:p.r = gone
    ·have b1:((p.l:Int) == (gone:Int)) = false:=by simp;omega
     have b2:((p.r:Int) == (gone:Int)) = true:=by simp [e2]
     have HE:Hid (rnN kept gone p.l = p.l∧rnN kept gone p.r = kept):=hide ⟨if_neg e1,if_pos e2⟩
     clear e1 e2
     go_wp2_with fail
     go_roundw
     case rel=>exact ⟨k + 1,by omega,by go_num,hide ⟨by rw [uh HNX,(uh HE).1,(uh HE).2];exact uh HS2 _ p.l kept (uh HS0),(uh HST).setCell (p:=⟨g,k * 3 + 2,none⟩) (Or.inl (by simp [Value.ownBlock])) _⟩⟩
     case measure=>simp [intOf];omega
    ·have b1:((p.l:Int) == (gone:Int)) = false:=by simp;omega
     have b2:((p.r:Int) == (gone:Int)) = false:=by simp;omega
     have HE:Hid (rnN kept gone p.l = p.l∧rnN kept gone p.r = p.r):=hide ⟨if_neg e1,if_neg e2⟩
     clear e1 e2
     go_wp2_with fail
     go_roundw
     case rel=>exact ⟨k + 1,by omega,by go_num,hide ⟨by rw [uh HNX,(uh HE).1,(uh HE).2];exact uh HS0,uh HST⟩⟩
     case measure=>simp [intOf];omega
  ·have hd:decide ((k:Int) < (l.length:Int)) = false:=by simp;omega
   have HE:Hid (rnK kept gone l k = l.map (rnP kept gone)):=hide (by unfold rnK;rw [List.take_of_length_le (by omega),List.drop_eq_nil_of_le (by omega),List.append_nil])
   go_wp2_with fail
   go_end0
   exact ⟨rfl,by rw [← uh HE];exact (uh hI).1,(uh hI).2⟩
end
def clK (kept gone:Nat) (c:List Nat) (k:Nat):List Nat:=(c.take k).map (rnN kept gone) ++ c.drop k
theorem clK_step {kept gone:Nat} {c:List Nat} {k:Nat} (hk:k < c.length):clK kept gone c (k + 1) = (clK kept gone c k).set k (rnN kept gone (c.getD k 0))∧(clK kept gone c k).getD k 0 = c.getD k 0:=by
 unfold clK
 have e:c.drop k = c[k] :: c.drop (k + 1):=List.drop_eq_getElem_cons hk
 have e0:c.getD k 0 = c[k]:=by simp [hk]
 have e2:(c.take (k + 1)).map (rnN kept gone) = (c.take k).map (rnN kept gone) ++ [rnN kept gone c[k]]:=by
  rw [List.take_add_one,List.getElem?_eq_getElem hk,List.map_append];rfl
 have e3:((c.take k).map (rnN kept gone)).length = k:=by simp;omega
 refine ⟨?_,?_⟩
 ·rw [e2,e,List.set_append_right _ _ (by omega),e3,Nat.sub_self,List.set_cons_zero,List.append_assoc,e0]
  rfl
 ·rw [List.getD_eq_getElem?_getD,List.getElem?_append_right (by omega),e3,Nat.sub_self,e,e0];rfl
theorem clK_len (kept gone:Nat) (c:List Nat) (k:Nat):(clK kept gone c k).length = c.length:=by simp [clK];omega
theorem set_same {l:List Nat} {k c:Nat} (hk:k < l.length) (h:l.getD k 0 = c):l.set k c = l:=by
 have:c = l[k]:=by rw [← h];simp [hk]
 rw [this,List.set_getElem_self]
section
variable {w w':World} {A:Nat} {f:CF} {av ov:Value}
theorem Fm.newRow (h:Fm w A f av ov) {ow':List Pr} (hl:ow'.length = f.ow.length) (hr:w'.ownsRow 0 182 3 ov f.ow.length (prCells ow')) (hs:Stp ov.ownBlock.toList w ov.ownBlock.toList w'):Fm w' A { f with ow:=ow' } av ov∧Stp (bsF A av ov) w (bsF A av ov) w':=by
 obtain ⟨n1,n2,n3⟩:=h.nds
 refine ⟨⟨⟨h.is.ob.of_eq (hs.block A (h.lt A (by simp [bsF])) (by simpa using n2)),ownsRow_of_eq h.is.ap (fun k hk=>hs.block k (h.lt k (by simp [bsF,hk])) (by simpa using n3 k hk)),?_⟩,h.nd,h.c5⟩,hs.wide (fun k hk=>by simp only [bsF,List.mem_cons,List.mem_append];exact Or.inr (Or.inr hk))⟩
 show w'.ownsRow 0 _ 3 ov ow'.length (prCells ow')
 rw [hl];exact hr
theorem Fm.newRowA (h:Fm w A f av ov) {ap':List Pr} (hl:ap'.length = f.ap.length) (hr:w'.ownsRow 0 182 3 av f.ap.length (prCells ap')) (hs:Stp av.ownBlock.toList w av.ownBlock.toList w'):Fm w' A { f with ap:=ap' } av ov∧Stp (bsF A av ov) w (bsF A av ov) w':=by
 obtain ⟨n1,n2,n3⟩:=h.nds
 refine ⟨⟨⟨h.is.ob.of_eq (hs.block A (h.lt A (by simp [bsF])) (by simpa using n1)),?_,ownsRow_of_eq h.is.ow (fun k hk=>hs.block k (h.lt k (by simp [bsF,hk])) (by simpa using fun e=>n3 k e hk))⟩,h.nd,h.c5⟩,hs.wide (fun k hk=>by simp only [bsF,List.mem_cons,List.mem_append];exact Or.inr (Or.inl hk))⟩
 show w'.ownsRow 0 _ 3 av ap'.length (prCells ap')
 rw [hl];exact hr
set_option maxRecDepth 100000 in
set_option maxHeartbeats 2000000 in
theorem fjoin_any (h:Fm w A f av ov) (ha:f.ap.length≤100000) (ho:f.ow.length≤100000) (kept gone:Nat):Calls Tryz.prog 260 #[.pointer (some ⟨A,0,none⟩),.int .i64 kept,.int .i64 gone] w fun e w'=>e = .returned (.tuple #[])∧Fm w' A (joF f kept gone) av ov∧Stp (bsF A av ov) w (bsF A av ov) w':=by
 have H5:=hide h.c5
 have HI0:Hid (Fm w A { f with cl:=clK kept gone f.cl 0 } av ov∧Stp (bsF A av ov) w (bsF A av ov) w):=hide ⟨by simpa [clK] using h,Stp.refl _ _⟩
 clear h
 go_enter Tryz.func260,Tryz.ntmps260
 go_wp2_with fail
 go_loopw [6] (fun i wx=>∃ (k:Nat),k≤5∧i = .int .i64 k∧Hid (Fm wx A { f with cl:=clK kept gone f.cl k } av ov∧Stp (bsF A av ov) w (bsF A av ov) wx)) (fun i _=>5 - (intOf i).toNat)
 case atStart=>exact ⟨0,Nat.zero_le _,rfl,HI0⟩
 case round =>
  clear HI0
  obtain ⟨k,hk,rfl,hI⟩:=hrel
  by_cases hlt:k < 5
  ·have hd:decide ((k:Int) < (5:Int)) = true:=by simp;omega
   have hst:=clK_step (kept:=kept) (gone:=gone) (c:=f.cl) (k:=k) (by have:=uh H5;omega)
   obtain ⟨c,hc⟩:∃ c,c = f.cl.getD k 0:=⟨_,rfl⟩
   have x:wr.cell? ⟨A,k,none⟩ = some (.int .i64 (c:Int)):=by
    have:=(uh hI).1.is.cls hlt
    unfold clV at this
    rw [this]
    show some (Value.int .i64 (((clK kept gone f.cl k).getD k 0:Nat):Int)) = _
    rw [hst.2,← hc]
   have fz:wr.frozen? ⟨A,k,none⟩ = false:=World.ownsRow.frozenAt (uh hI).1.is.ob k
   have HST:Hid (clK kept gone f.cl (k + 1) = (clK kept gone f.cl k).set k (rnN kept gone c)):=hide (by rw [hst.1,← hc])
   have i1:(0:Int)≤(k:Int):=by omega
   have i2:(k:Int) < (5:Int):=by omega
   have HG:Hid ((clK kept gone f.cl k).getD k 0 = c):=hide (by rw [hst.2,← hc])
   clear hst hc
   by_cases e1:c = gone
   ·have b1:((c:Int) == (gone:Int)) = true:=by simp [e1]
    have HE:Hid (rnN kept gone c = kept):=hide (if_pos e1)
    clear e1
    go_wp2_with fail
    go_roundw
    case rel=>exact ⟨k + 1,by omega,by go_num,hide ⟨by rw [uh HST,uh HE];exact (uh hI).1.setCl k kept hlt,(uh hI).2.setCell (p:=⟨A,k,none⟩) (Or.inl (by simp [bsF])) _⟩⟩
    case measure=>simp [intOf];omega
   ·have b1:((c:Int) == (gone:Int)) = false:=by simp;omega
    have HE:Hid (clK kept gone f.cl (k + 1) = clK kept gone f.cl k):=hide (by
     rw [uh HST,show rnN kept gone c = c from if_neg e1]
     exact set_same (by rw [clK_len];have:=uh H5;omega) (uh HG))
    clear e1
    go_wp2_with fail
    go_roundw
    case rel=>exact ⟨k + 1,by omega,by go_num,hide ⟨by rw [uh HE];exact (uh hI).1,(uh hI).2⟩⟩
    case measure=>simp [intOf];omega
  ·have hd:decide ((k:Int) < (5:Int)) = false:=by simp;omega
   have hcl:clK kept gone f.cl k = f.cl.map (rnN kept gone):=by
    have:=uh H5
    unfold clK
    rw [List.take_of_length_le (by omega),List.drop_eq_nil_of_le (by omega),List.append_nil]
   have hF:=(uh hI).1
   rw [hcl] at hF
   have HST:=hide (uh hI).2
   have c5:=hF.is.c5
   have HRA:=hide (rename_any hF.is.ap ha kept gone)
   have HF:=hide hF
   clear hF hcl hI
   obtain ⟨aa,ac,hav,-,-⟩:=own_slc (uh HF).is.ap
   obtain ⟨oa,oc,hov,-,-⟩:=own_slc (uh HF).is.ow
   subst hav
   subst hov
   go_wp2_with fail
   refine (uh HRA).mono ?_
   rintro e w1 ⟨rfl,hr1,hs1⟩
   have hF1:=(uh HF).newRowA (ap':=f.ap.map (rnP kept gone)) (by simp) hr1 hs1
   have c6:=hF1.1.is.c6
   have HRO:=hide (rename_any hF1.1.is.ow ho kept gone)
   have HF1:=hide hF1
   clear hr1 hs1 hF1 HRA c5
   go_wp2_with fail
   refine (uh HRO).mono ?_
   rintro e w2 ⟨rfl,hr2,hs2⟩
   have hF2:=(uh HF1).1.newRow (ow':=f.ow.map (rnP kept gone)) (by simp) hr2 hs2
   have HF2:=hide hF2
   clear hr2 hs2 hF2 HRO c6
   go_wp2_with fail
   go_end0
   exact ⟨rfl,(uh HF2).1,((uh HST).trans (uh HF1).2).trans (uh HF2).2⟩
end
def tkK (l:List Pr) (i k:Nat):List Pr:=((List.range k).filter (fun j=>j != i)).map (fun j=>l.getD j pr0)
def tkO (l:List Pr) (i:Nat):List Pr:=tkK l i l.length
theorem tkK_step (l:List Pr) (i k:Nat):tkK l i (k + 1) = tkK l i k ++ (if k = i then [] else [l.getD k pr0]):=by
 unfold tkK
 rw [List.range_succ,List.filter_append,List.map_append]
 congr 1
 by_cases h:k = i <;> simp [h]
theorem tkK_len (l:List Pr) (i k:Nat):(tkK l i k).length≤k:=by
 unfold tkK
 rw [List.length_map]
 exact Nat.le_trans (List.length_filter_le _ _) (by simp)
section
variable {w:World} {A:Nat} {f:CF} {av ov:Value}
set_option maxRecDepth 100000 in
set_option maxHeartbeats 2000000 in
theorem ftake_any (h:Fm w A f av ov) (ho:f.ow.length≤100000) (i:Nat):Calls Tryz.prog 251 #[.pointer (some ⟨A,0,none⟩),.int .i64 i] w fun e w'=>e = .returned (.tuple #[])∧∃ ov',Fm w' A { f with ow:=tkO f.ow i } av ov'∧Stp (bsF A av ov) w (bsF A av ov') w':=by
 obtain ⟨i0,hi0,hz0,hz1,hz2⟩:=info_parts Tryz.infoPair
 obtain ⟨oa,oc,hov,-,-⟩:=own_slc h.is.ow
 subst hov
 have H:=hide h
 have HR0:Hid ((w.alloc (.cells #[] 182)).ownsRow w.heap.size 182 3 (.slice (some ⟨w.heap.size,0,none⟩) 0 0) 0 []∧Below w.heap.size w (w.alloc (.cells #[] 182))):=hide ⟨World.ownsRow_lit (base:=w.heap.size) (e:=182) (size:=3) w #[] 0 (Nat.le_refl _) (by simp [maxLen]) rfl,below_boxQ w _⟩
 clear h
 go_enter Tryz.func251,Tryz.ntmps251
 go_wp2_with fail
 go_loopw [4,5] (fun rv j wx=>∃ (k:Nat),k≤f.ow.length∧j = .int .i64 k∧Hid (wx.ownsRow w.heap.size 182 3 rv (tkK f.ow i k).length (prCells (tkK f.ow i k))∧Below w.heap.size w wx)) (fun _ j _=>f.ow.length - (intOf j).toNat)
 case atStart=>exact ⟨0,Nat.zero_le _,rfl,HR0⟩
 case round =>
  clear HR0
  obtain ⟨k,hk,rfl,hI⟩:=hrel
  have hF:=(uh H).below (uh hI).2
  have c6:=hF.is.c6
  obtain ⟨ra,rc,hrv,-,-⟩:=own_slc (uh hI).1
  subst hrv
  by_cases hlt:k < f.ow.length
  ·have hd:decide ((k:Int) < (f.ow.length:Int)) = true:=by simp;omega
   by_cases hki:k = i
   ·have b1:((k:Int) != (i:Int)) = false:=by simp [hki]
    have HE:Hid (tkK f.ow i (k + 1) = tkK f.ow i k):=hide (by rw [tkK_step,if_pos hki,List.append_nil])
    clear hki hF
    go_wp2_with fail
    go_roundw
    case rel=>exact ⟨k + 1,by omega,by go_num,hide (by rw [uh HE];exact uh hI)⟩
    case measure=>simp [intOf];omega
   ·have b1:((k:Int) != (i:Int)) = true:=by rw [bne_iff_ne];omega
    obtain ⟨p,hp⟩:∃ p,p = f.ow.getD k pr0:=⟨_,rfl⟩
    have HE:Hid (tkK f.ow i (k + 1) = tkK f.ow i k ++ [p]):=hide (by rw [tkK_step,if_neg hki,← hp])
    obtain ⟨g,cap,hgv,-,-⟩:=own_formP hF.is.ow hlt
    simp only [Value.slice.injEq,true_and] at hgv
    obtain ⟨rfl,rfl⟩:=hgv
    obtain ⟨x0,x1,x2⟩:=own_cells hF.is.ow hlt
    rw [← hp] at x0 x1 x2
    have HROW:=hide (uh hI).1
    have hlen:=tkK_len f.ow i k
    have hbs:=(uh hI).2.size
    have i1:(0:Int)≤(k:Int):=by omega
    have i2:(k:Int) < (f.ow.length:Int):=by omega
    obtain ⟨L,hL⟩:∃ L,L = tkK f.ow i k:=⟨_,rfl⟩
    rw [← hL] at HE HROW hlen hI ⊢
    clear hki hF hp hL
    go_wp2_with (at_builtin;refine wpList_app1 _ rfl (.tmp 19) (.tmp 27) 177 rfl w.heap.size 182 i0 _ 3 24 Tryz.underlying177 hi0 hz0 hz1 hz2 rfl (by decide) _ L.length (prCells L) rfl ((uh HROW).alloc _) ⟨_,0,none⟩ 1 [.int .i64 (p.k:Int),.int .i64 (p.l:Int),.int .i64 (p.r:Int)] rfl rfl (new_cells _ _ (by simp) [.int .i64 (p.k:Int),.int .i64 (p.l:Int),.int .i64 (p.r:Int)] _) (prC_one p) (by omega) (by omega) (by simp;omega) ?_)
    intro g4 cap4 w4 hown4 hgrow4 hblk4
    have HN:Hid (w4.ownsRow w.heap.size 182 3 (.slice (some ⟨g4,0,none⟩) (L.length + 1) cap4) (tkK f.ow i (k + 1)).length (prCells (tkK f.ow i (k + 1)))∧Below w.heap.size w w4):=hide (by
     rw [uh HE,List.length_append,List.length_singleton,prCells_app]
     refine ⟨hown4,?_⟩
     have hb:=(uh hI).2.alloc hbs (.cells #[.int .i64 (p.k:Int),.int .i64 (p.l:Int),.int .i64 (p.r:Int)] 182)
     exact hb.grown hgrow4 hb.size (fun k hk=>((uh HROW).lt k hk).1))
    clear hown4 hgrow4 hblk4
    go_wp2_with fail
    go_roundw
    case rel=>exact ⟨k + 1,by omega,by go_num,HN⟩
    case measure=>simp [intOf];omega
  ·have hd:decide ((k:Int) < (f.ow.length:Int)) = false:=by simp;omega
   have hke:k = f.ow.length:=by omega
   have hs:Stp (Value.slice oa f.ow.length oc).ownBlock.toList w (Value.slice ra (tkK f.ow i k).length rc).ownBlock.toList wr:=(Stp.ofBw (F:=(Value.slice oa f.ow.length oc).ownBlock.toList) (uh hI).2).foots (fun j hj=>Or.inr ((uh hI).1.lt j (by simpa using hj)).1)
   have hN:=(uh H).newOv (ow':=tkK f.ow i k) hs (v':=.slice ra (tkK f.ow i k).length rc) (fun j hj=>by simpa using hj) (own_le (uh hI).1 (Nat.zero_le _))
   have HN:Hid (Fm (wr.setCell ⟨A,6,none⟩ (.slice ra (tkK f.ow i k).length rc)) A { f with ow:=tkO f.ow i } av (.slice ra (tkK f.ow i k).length rc)∧Stp (bsF A av (.slice oa f.ow.length oc)) w (bsF A av (.slice ra (tkK f.ow i k).length rc)) (wr.setCell ⟨A,6,none⟩ (.slice ra (tkK f.ow i k).length rc))):=hide (by
    have e:tkO f.ow i = tkK f.ow i k:=by unfold tkO;rw [hke]
    rw [e];exact hN)
   have f6:=World.ownsRow.frozenAt hF.is.ob 6
   clear hs hN hke hF
   go_wp2_with fail
   go_end0
   exact ⟨rfl,_,(uh HN).1,(uh HN).2⟩
end
def enN (l:List Pr) (c:Nat):Nat:=l.countP (fun p=>decide (p.r = c))
theorem enN_step {l:List Pr} {k:Nat} (hk:k < l.length) (c:Nat):enN (l.take (k + 1)) c = enN (l.take k) c + (if (l.getD k pr0).r = c then 1 else 0):=by
 have e:l.getD k pr0 = l[k]:=pr_at hk
 unfold enN
 rw [List.take_add_one,List.getElem?_eq_getElem hk,List.countP_append,e]
 by_cases h:l[k].r = c <;> simp [h]
theorem enN_le (l:List Pr) (c:Nat):enN l c≤l.length:=List.countP_le_length
section
variable {w:World} {A:Nat} {f:CF} {av ov:Value}
set_option maxRecDepth 100000 in
set_option maxHeartbeats 2000000 in
theorem ends_any (h:IsF w A f av ov) (_ho:f.ow.length≤100000) (c:Nat):Calls Tryz.prog 262 #[.pointer (some ⟨A,0,none⟩),.int .i64 c] w fun e w'=>e = .returned (.int .i64 (enN f.ow c:Nat))∧Below w.heap.size w w':=by
 obtain ⟨oa,oc,hov,hoc,hom⟩:=own_slc h.ow
 subst hov
 have c6:=h.c6
 have H:=hide h
 have HB0:=hide (Below.refl w.heap.size w)
 clear h
 go_enter Tryz.func262,Tryz.ntmps262
 go_wp2_with fail
 go_loopw [5,13] (fun n i wx=>∃ (k:Nat),k≤f.ow.length∧n = .int .i64 (enN (f.ow.take k) c:Nat)∧i = .int .i64 k∧Hid (Below w.heap.size w wx)) (fun _ i _=>f.ow.length - (intOf i).toNat)
 case atStart=>exact ⟨0,Nat.zero_le _,rfl,rfl,HB0⟩
 case round =>
  clear HB0
  obtain ⟨k,hk,rfl,rfl,hb⟩:=hrel
  have hle:=enN_le (f.ow.take k) c
  have hlk:(f.ow.take k).length≤k:=by simp;omega
  by_cases hlt:k < f.ow.length
  ·have hd:decide ((k:Int) < (f.ow.length:Int)) = true:=by simp;omega
   have hF:=(uh H).below (uh hb)
   obtain ⟨g,cap,hgv,-,-⟩:=own_formP hF.ow hlt
   simp only [Value.slice.injEq,true_and] at hgv
   obtain ⟨rfl,rfl⟩:=hgv
   obtain ⟨x0,x1,x2⟩:=own_cells hF.ow hlt
   have hst:=enN_step hlt c
   obtain ⟨p,hp⟩:∃ p,p = f.ow.getD k pr0:=⟨_,rfl⟩
   rw [← hp] at x0 x1 x2 hst
   obtain ⟨n,hn⟩:∃ n,n = enN (f.ow.take k) c:=⟨_,rfl⟩
   rw [← hn] at hst hle ⊢
   have HB1:Hid (Below w.heap.size w (wr.alloc (.cells #[.int .i64 (p.k:Int),.int .i64 (p.l:Int),.int .i64 (p.r:Int)] 182))):=hide ((uh hb).alloc (uh hb).size _)
   have i1:(0:Int)≤(k:Int):=by omega
   have i2:(k:Int) < (f.ow.length:Int):=by omega
   clear hF hp hn
   by_cases e1:p.r = c
   ·have b1:((p.r:Int) == (c:Int)) = true:=by simp [e1]
    rw [if_pos e1] at hst
    have HST:=hide hst
    clear e1 hst
    go_wp2_with fail
    go_roundw
    case rel=>exact ⟨k + 1,by omega,by rw [uh HST];go_num,by go_num,HB1⟩
    case measure=>simp [intOf];omega
   ·have b1:((p.r:Int) == (c:Int)) = false:=by simp;omega
    rw [if_neg e1] at hst
    have HST:=hide hst
    clear e1 hst
    go_wp2_with fail
    go_roundw
    case rel=>exact ⟨k + 1,by omega,by rw [uh HST];rfl,by go_num,HB1⟩
    case measure=>simp [intOf];omega
  ·have hd:decide ((k:Int) < (f.ow.length:Int)) = false:=by simp;omega
   have HE:Hid (enN (f.ow.take k) c = enN f.ow c):=hide (by rw [List.take_of_length_le (by omega)])
   go_wp2_with fail
   go_ret
   exact ⟨ret_int (by rw [uh HE]),uh hb⟩
theorem idx5_0 (a b c d e:Value) (w:World):(Instr.index 176 (.agg #[a,b,c,d,e]) (.int .i64 0)).run Tryz.prog w = .ok a w:=by kernel_rfl
theorem idx5_1 (a b c d e:Value) (w:World):(Instr.index 176 (.agg #[a,b,c,d,e]) (.int .i64 1)).run Tryz.prog w = .ok b w:=by kernel_rfl
theorem idx5_2 (a b c d e:Value) (w:World):(Instr.index 176 (.agg #[a,b,c,d,e]) (.int .i64 2)).run Tryz.prog w = .ok c w:=by kernel_rfl
theorem idx5_3 (a b c d e:Value) (w:World):(Instr.index 176 (.agg #[a,b,c,d,e]) (.int .i64 3)).run Tryz.prog w = .ok d w:=by kernel_rfl
theorem idx5_4 (a b c d e:Value) (w:World):(Instr.index 176 (.agg #[a,b,c,d,e]) (.int .i64 4)).run Tryz.prog w = .ok e w:=by kernel_rfl
def nmB (f:CF) (c:Nat):Bool:=decide (f.cl.getD 0 0 = c) || decide (f.cl.getD 1 0 = c) || decide (f.cl.getD 2 0 = c) || decide (f.cl.getD 3 0 = c) || decide (f.cl.getD 4 0 = c)
set_option maxRecDepth 100000 in
set_option maxHeartbeats 2000000 in
theorem named_any (h:IsF w A f av ov) (c:Nat):Calls Tryz.prog 261 #[.pointer (some ⟨A,0,none⟩),.int .i64 c] w fun e w'=>e = .returned (.bool (nmB f c))∧w' = w:=by
 have x0:=h.cls (i:=0) (by omega)
 have x1:=h.cls (i:=1) (by omega)
 have x2:=h.cls (i:=2) (by omega)
 have x3:=h.cls (i:=3) (by omega)
 have x4:=h.cls (i:=4) (by omega)
 unfold clV at x0 x1 x2 x3 x4
 unfold nmB
 generalize f.cl.getD 0 0 = y0 at *
 generalize f.cl.getD 1 0 = y1 at *
 generalize f.cl.getD 2 0 = y2 at *
 generalize f.cl.getD 3 0 = y3 at *
 generalize f.cl.getD 4 0 = y4 at *
 clear h
 have j0:=idx5_0 (.int .i64 (y0:Int)) (.int .i64 (y1:Int)) (.int .i64 (y2:Int)) (.int .i64 (y3:Int)) (.int .i64 (y4:Int))
 have j1:=idx5_1 (.int .i64 (y0:Int)) (.int .i64 (y1:Int)) (.int .i64 (y2:Int)) (.int .i64 (y3:Int)) (.int .i64 (y4:Int))
 have j2:=idx5_2 (.int .i64 (y0:Int)) (.int .i64 (y1:Int)) (.int .i64 (y2:Int)) (.int .i64 (y3:Int)) (.int .i64 (y4:Int))
 have j3:=idx5_3 (.int .i64 (y0:Int)) (.int .i64 (y1:Int)) (.int .i64 (y2:Int)) (.int .i64 (y3:Int)) (.int .i64 (y4:Int))
 have j4:=idx5_4 (.int .i64 (y0:Int)) (.int .i64 (y1:Int)) (.int .i64 (y2:Int)) (.int .i64 (y3:Int)) (.int .i64 (y4:Int))
 obtain ⟨b,hb⟩:∃ b,b = (decide (y0 = c) || decide (y1 = c) || decide (y2 = c) || decide (y3 = c) || decide (y4 = c)):=⟨_,rfl⟩
 rw [← hb]
 have HB:=hide hb
 clear hb
 go_enter Tryz.func261,Tryz.ntmps261
 go_wp2_with fail
 go_loop [11] (fun i=>∃ (k:Nat),k≤5∧i = .int .i64 k∧Hid ((0 < k→y0≠c)∧(1 < k→y1≠c)∧(2 < k→y2≠c)∧(3 < k→y3≠c)∧(4 < k→y4≠c))) (fun i=>5 - (intOf i).toNat)
 case atStart=>exact ⟨0,Nat.zero_le _,rfl,hide ⟨by omega,by omega,by omega,by omega,by omega⟩⟩
 case round =>
  obtain ⟨k,hk,rfl,hn⟩:=hrel
  have hcase:k = 0∨k = 1∨k = 2∨k = 3∨k = 4∨k = 5:=by omega
  rcases hcase with rfl | rfl | rfl | rfl | rfl | rfl
  ·by_cases e1:y0 = c
   ·have b1:((y0:Int) == (c:Int)) = true:=by simp [e1]
    have HE:Hid (b = true):=hide (by rw [uh HB];simp [e1])
    clear e1
    go_wp2_with fail
    go_ret
    exact ⟨ret_bool (uh HE).symm,rfl⟩
   ·have b1:((y0:Int) == (c:Int)) = false:=by simp;omega
    have HN:Hid ((0 < 1→y0≠c)∧(1 < 1→y1≠c)∧(2 < 1→y2≠c)∧(3 < 1→y3≠c)∧(4 < 1→y4≠c)):=hide (by
     obtain ⟨h0,h1,h2,h3,h4⟩:=uh hn
     refine ⟨?_,?_,?_,?_,?_⟩ <;> intro hh <;> first | exact e1 | omega | (apply h0;omega) | (apply h1;omega) | (apply h2;omega) | (apply h3;omega) | (apply h4;omega))
    clear e1
    go_wp2_with fail
    go_round
    case rel=>exact ⟨1,by omega,by go_num,HN⟩
    case measure=>simp [intOf]
  ·by_cases e1:y1 = c
   ·have b1:((y1:Int) == (c:Int)) = true:=by simp [e1]
    have HE:Hid (b = true):=hide (by rw [uh HB];simp [e1])
    clear e1
    go_wp2_with fail
    go_ret
    exact ⟨ret_bool (uh HE).symm,rfl⟩
   ·have b1:((y1:Int) == (c:Int)) = false:=by simp;omega
    have HN:Hid ((0 < 2→y0≠c)∧(1 < 2→y1≠c)∧(2 < 2→y2≠c)∧(3 < 2→y3≠c)∧(4 < 2→y4≠c)):=hide (by
     obtain ⟨h0,h1,h2,h3,h4⟩:=uh hn
     refine ⟨?_,?_,?_,?_,?_⟩ <;> intro hh <;> first | exact e1 | omega | (apply h0;omega) | (apply h1;omega) | (apply h2;omega) | (apply h3;omega) | (apply h4;omega))
    clear e1
    go_wp2_with fail
    go_round
    case rel=>exact ⟨2,by omega,by go_num,HN⟩
    case measure=>simp [intOf]
  ·by_cases e1:y2 = c
   ·have b1:((y2:Int) == (c:Int)) = true:=by simp [e1]
    have HE:Hid (b = true):=hide (by rw [uh HB];simp [e1])
    clear e1
    go_wp2_with fail
    go_ret
    exact ⟨ret_bool (uh HE).symm,rfl⟩
   ·have b1:((y2:Int) == (c:Int)) = false:=by simp;omega
    have HN:Hid ((0 < 3→y0≠c)∧(1 < 3→y1≠c)∧(2 < 3→y2≠c)∧(3 < 3→y3≠c)∧(4 < 3→y4≠c)):=hide (by
     obtain ⟨h0,h1,h2,h3,h4⟩:=uh hn
     refine ⟨?_,?_,?_,?_,?_⟩ <;> intro hh <;> first | exact e1 | omega | (apply h0;omega) | (apply h1;omega) | (apply h2;omega) | (apply h3;omega) | (apply h4;omega))
    clear e1
    go_wp2_with fail
    go_round
    case rel=>exact ⟨3,by omega,by go_num,HN⟩
    case measure=>simp [intOf]
  ·by_cases e1:y3 = c
   ·have b1:((y3:Int) == (c:Int)) = true:=by simp [e1]
    have HE:Hid (b = true):=hide (by rw [uh HB];simp [e1])
    clear e1
    go_wp2_with fail
    go_ret
    exact ⟨ret_bool (uh HE).symm,rfl⟩
   ·have b1:((y3:Int) == (c:Int)) = false:=by simp;omega
    have HN:Hid ((0 < 4→y0≠c)∧(1 < 4→y1≠c)∧(2 < 4→y2≠c)∧(3 < 4→y3≠c)∧(4 < 4→y4≠c)):=hide (by
     obtain ⟨h0,h1,h2,h3,h4⟩:=uh hn
     refine ⟨?_,?_,?_,?_,?_⟩ <;> intro hh <;> first | exact e1 | omega | (apply h0;omega) | (apply h1;omega) | (apply h2;omega) | (apply h3;omega) | (apply h4;omega))
    clear e1
    go_wp2_with fail
    go_round
    case rel=>exact ⟨4,by omega,by go_num,HN⟩
    case measure=>simp [intOf]
  ·by_cases e1:y4 = c
   ·have b1:((y4:Int) == (c:Int)) = true:=by simp [e1]
    have HE:Hid (b = true):=hide (by rw [uh HB];simp [e1])
    clear e1
    go_wp2_with fail
    go_ret
    exact ⟨ret_bool (uh HE).symm,rfl⟩
   ·have b1:((y4:Int) == (c:Int)) = false:=by simp;omega
    have HN:Hid ((0 < 5→y0≠c)∧(1 < 5→y1≠c)∧(2 < 5→y2≠c)∧(3 < 5→y3≠c)∧(4 < 5→y4≠c)):=hide (by
     obtain ⟨h0,h1,h2,h3,h4⟩:=uh hn
     refine ⟨?_,?_,?_,?_,?_⟩ <;> intro hh <;> first | exact e1 | omega | (apply h0;omega) | (apply h1;omega) | (apply h2;omega) | (apply h3;omega) | (apply h4;omega))
    clear e1
    go_wp2_with fail
    go_round
    case rel=>exact ⟨5,by omega,by go_num,HN⟩
    case measure=>simp [intOf]
  ·have HE:Hid (b = false):=hide (by
    obtain ⟨h0,h1,h2,h3,h4⟩:=uh hn
    rw [uh HB]
    simp [h0,h1,h2,h3,h4])
   go_wp2_with fail
   go_ret
   exact ⟨ret_bool (uh HE).symm,rfl⟩
end
end Go.Proofs.YtciihepbeacppaaGreat
