import Derived.Test.YtciihepbeacppaaGreatGR
import Derived.Test.YtciihepbeacppaaGreatM24
import Derived.Test.YtciihepbeacppaaGreatM00
import Derived.Test.YtciihepbeacppaaGreatM08
import Derived.Test.YtciihepbeacppaaGreatM09
import Derived.Test.YtciihepbeacppaaGreatM23
import Derived.Test.YtciihepbeacppaaGreatM21
import Derived.Deep.Cut
import Derived.Deep.CutRange
import Derived.Deep.DeepCutAuto
import Derived.Deep.RegionHeld3
import Derived.Deep.RegionWith
namespace Go.Proofs.YtciihepbeacppaaGreat
open Go.RowKit
set_option linter.unusedVariables false
def hiT (m k i:Nat):Nat:=if k = 2∧m≤i then i + 1 else m
theorem hiN_step {al:List Atm} {k:Nat} (h:k < al.length):hiN (al.take (k + 1)) = hiT (hiT (hiN (al.take k)) al[k].lk al[k].li) al[k].rk al[k].ri:=by
 unfold hiN
 rw [List.take_succ_eq_append_getElem h,List.foldl_append]
 rfl
theorem hiT_le {m k i:Nat} (hm:m≤101) (hi:i≤100):hiT m k i≤101:=by unfold hiT;split <;> omega
theorem hiN_le:∀ (al:List Atm),(∀ a∈al,a.li≤100∧a.ri≤100)→hiN al≤101:=by
 intro al h
 have key:∀ (l:List Atm) (m:Nat),(∀ a∈l,a.li≤100∧a.ri≤100)→m≤101→l.foldl (fun m a=>hiT (hiT m a.lk a.li) a.rk a.ri) m≤101:=by
  intro l
  induction l with
  | nil=>intro m _ hm;exact hm
  | cons a l ih=>intro m hl hm;exact ih _ (fun b hb=>hl b (List.mem_cons_of_mem _ hb)) (hiT_le (hiT_le hm (hl a (by simp)).1) (hl a (by simp)).2)
 exact key al 0 h (by omega)
theorem idxT_0 (a b c d:Value) (w:World):(Instr.index 287 (.agg #[a,b,c,d]) (.int .i64 0)).run Tryz.prog w = .ok (.agg #[a,b]) w:=by kernel_rfl
theorem idxT_1 (a b c d:Value) (w:World):(Instr.index 287 (.agg #[a,b,c,d]) (.int .i64 1)).run Tryz.prog w = .ok (.agg #[c,d]) w:=by kernel_rfl
section
variable {w:World} {B:Nat} {av:Value} {al:List Atm}
set_option maxRecDepth 100000 in
set_option maxHeartbeats 8000000 in
theorem hidden_any (h:w.ownsRow B 239 5 av al.length (atCells al)) (hal:al.length≤1000) (hb:∀ a∈al,a.li≤100∧a.ri≤100) :
  Calls Tryz.prog 196 #[av] w fun e w'=>e = .returned (.int .i64 (hiN al:Nat))∧Below w.heap.size w w':=by
 obtain ⟨ao,cap,hav,hcm,hcn,hcell⟩:=at_of_own h
 have HC:=hide hcell
 have HBD:=hide hb
 have HLE:Hid (∀ k,hiN (al.take k)≤101):=hide (fun k=>hiN_le _ (fun a ha=>hb a (List.mem_of_mem_take ha)))
 rw [hav]
 clear h hcell hav hb
 go_enter Tryz.func196,Tryz.ntmps196
 go_wp2_with fail
 go_loopg [3,10] al.length (fun gn cv iv wx=>∃ (k:Nat),k + gn = al.length∧iv = .int .i64 k∧cv = .int .i64 (hiN (al.take k):Nat)∧Hid (Below w.heap.size w wx))
 case atStart=>exact ⟨0,by omega,rfl,rfl,hide (Below.refl _ _)⟩
 case round =>
  obtain ⟨k,hkn,rfl,rfl,hI⟩:=hrel
  obtain ⟨G1,hG1⟩:∃ G1,G1 = gk:=⟨_,rfl⟩
  by_cases hlt:k < al.length
  ·have hd:decide ((k:Int) < (al.length:Int)) = true:=by simp;omega
   obtain ⟨g,rfl,hgl,hc⟩:=uh HC (fun e=>by rw [e] at hlt;simp at hlt)
   obtain ⟨x0,x1,x2,x3,x4⟩:=hc k hlt
   have x0:=((uh hI).cell hgl).trans x0
   have x1:=((uh hI).cell hgl).trans x1
   have x2:=((uh hI).cell hgl).trans x2
   have x3:=((uh hI).cell hgl).trans x3
   have x4:=((uh hI).cell hgl).trans x4
   have hst:=hiN_step hlt
   have hbd:=uh HBD _ (List.getElem_mem hlt)
   have hm1:=uh HLE k
   obtain ⟨a,ha⟩:∃ a,a = al[k]:=⟨_,rfl⟩
   rw [← ha] at x0 x1 x2 x3 x4 hst hbd
   obtain ⟨m,hm⟩:∃ m,m = hiN (al.take k):=⟨_,rfl⟩
   rw [← hm] at hst hm1 ⊢
   obtain ⟨ak,alk,ali,ark,ari⟩:=a
   simp only at x0 x1 x2 x3 x4 hst hbd
   have HST:=hide hst
   have HB1:Hid (Below w.heap.size w (wr.alloc (.cells #[Value.int .i64 ak,.int .i64 alk,.int .i64 ali,.int .i64 ark,.int .i64 ari] 239))):=hide ((uh hI).trans ((below_boxQ wr _).mono (uh hI).size))
   have i1:(0:Int)≤(k:Int):=by omega
   have i2:(k:Int) < (al.length:Int):=by omega
   have j0:=idxT_0 (.int .i64 (alk:Int)) (.int .i64 (ali:Int)) (.int .i64 (ark:Int)) (.int .i64 (ari:Int))
   have j1:=idxT_1 (.int .i64 (alk:Int)) (.int .i64 (ali:Int)) (.int .i64 (ark:Int)) (.int .i64 (ari:Int))
   clear hc hst ha hm hI
   go_wp2_with fail
   go_loopg [3,19] 2 (fun gn cv iv wx=>∃ (j:Nat),j + gn = 2∧iv = .int .i64 j∧cv = .int .i64 ((if j = 0 then m else if j = 1 then hiT m alk ali else hiT (hiT m alk ali) ark ari:Nat):Int)∧Hid (Below w.heap.size w wx))
   case atStart=>exact ⟨0,by omega,rfl,rfl,HB1⟩
   case round =>
    clear HB1
    obtain ⟨j,hjn,rfl,rfl,hJ⟩:=hrel
    obtain ⟨G2,hG2⟩:∃ G2,G2 = gk:=⟨_,rfl⟩
    have hj3:j = 0∨j = 1∨j = 2:=by omega
    rcases hj3 with rfl | rfl | rfl
    ·rw [if_pos rfl]
     have HN:Hid (Below w.heap.size w (wr.alloc (.cells #[Value.int .i64 alk,.int .i64 ali] 184))):=hide ((uh hJ).trans ((below_boxQ wr _).mono (uh hJ).size))
     clear hJ
     by_cases h2:alk = 2
     ·have d2:((alk:Int) == (2:Int)) = true:=by simp [h2]
      by_cases hge:m≤ali
      ·have d3:decide (m≤ali) = true:=by simpa using hge
       have HT:Hid (hiT m alk ali = ali + 1):=hide (by unfold hiT;rw [if_pos ⟨h2,hge⟩])
       clear h2 hge
       go_wp2_with fail
       go_roundg (G2 - 1)
       case rel=>exact ⟨1,by omega,by go_num,by rw [if_neg (by decide),if_pos rfl,uh HT];go_num,HN⟩
       case measure=>omega
      ·have d3:decide (m≤ali) = false:=by simpa using hge
       have HT:Hid (hiT m alk ali = m):=hide (by unfold hiT;rw [if_neg (fun h=>hge h.2)])
       clear h2 hge
       go_wp2_with fail
       go_roundg (G2 - 1)
       case rel=>exact ⟨1,by omega,by go_num,by rw [if_neg (by decide),if_pos rfl,uh HT],HN⟩
       case measure=>omega
     ·have d2:((alk:Int) == (2:Int)) = false:=by simp;omega
      have HT:Hid (hiT m alk ali = m):=hide (by unfold hiT;rw [if_neg (fun h=>h2 h.1)])
      clear h2
      go_wp2_with fail
      go_roundg (G2 - 1)
      case rel=>exact ⟨1,by omega,by go_num,by rw [if_neg (by decide),if_pos rfl,uh HT],HN⟩
      case measure=>omega
    ·rw [if_neg (by decide),if_pos rfl]
     have HN:Hid (Below w.heap.size w (wr.alloc (.cells #[Value.int .i64 ark,.int .i64 ari] 184))):=hide ((uh hJ).trans ((below_boxQ wr _).mono (uh hJ).size))
     have hm2:=hiT_le (k:=alk) hm1 hbd.1
     obtain ⟨m1,hm1e⟩:∃ m1,m1 = hiT m alk ali:=⟨_,rfl⟩
     have HM1:=hide hm1e
     rw [← hm1e] at hm2 ⊢
     clear hJ hm1e
     by_cases h2:ark = 2
     ·have d2:((ark:Int) == (2:Int)) = true:=by simp [h2]
      by_cases hge:m1≤ari
      ·have d3:decide (m1≤ari) = true:=by simpa using hge
       have HT:Hid (hiT m1 ark ari = ari + 1):=hide (by unfold hiT;rw [if_pos ⟨h2,hge⟩])
       clear h2 hge
       go_wp2_with fail
       go_roundg (G2 - 1)
       case rel=>exact ⟨2,by omega,by go_num,by rw [if_neg (by decide),if_neg (by decide),← uh HM1,uh HT];go_num,HN⟩
       case measure=>omega
      ·have d3:decide (m1≤ari) = false:=by simpa using hge
       have HT:Hid (hiT m1 ark ari = m1):=hide (by unfold hiT;rw [if_neg (fun h=>hge h.2)])
       clear h2 hge
       go_wp2_with fail
       go_roundg (G2 - 1)
       case rel=>exact ⟨2,by omega,by go_num,by rw [if_neg (by decide),if_neg (by decide),← uh HM1,uh HT],HN⟩
       case measure=>omega
     ·have d2:((ark:Int) == (2:Int)) = false:=by simp;omega
      have HT:Hid (hiT m1 ark ari = m1):=hide (by unfold hiT;rw [if_neg (fun h=>h2 h.1)])
      clear h2
      go_wp2_with fail
      go_roundg (G2 - 1)
      case rel=>exact ⟨2,by omega,by go_num,by rw [if_neg (by decide),if_neg (by decide),← uh HM1,uh HT],HN⟩
      case measure=>omega
    ·rw [if_neg (by decide),if_neg (by decide)]
     go_wp2_with fail
     go_roundg (G1 - 1)
     case rel=>exact ⟨k + 1,by omega,by go_num,by rw [uh HST],hJ⟩
     case measure=>omega
  ·have hd:decide ((k:Int) < (al.length:Int)) = false:=by simp;omega
   have hkl:al.take k = al:=List.take_of_length_le (by omega)
   rw [hkl]
   clear hkl
   go_wp2_with fail
   go_ret
   exact ⟨rfl,uh hI⟩
end
structure HL where
 q:Nat
 f:Nat
 X:Nat
 o:Nat
 uv:Value
 hv:Value
 av:Value
 ov:Value
structure AOk (al:List Atm):Prop where
 tm:TmOK al
 le:al.length≤1000
 bd:∀ a∈al,a.lk≤2∧a.rk≤2∧a.li≤100∧a.ri≤100
section
variable {w:World} {Q:Nat} {ws:List ByteArray} {s:PS} {al:List Atm} {vv pv nv sv0 lv:Value} {st ls:List Int}
end
def tsB (n:Nd):Bool:=decide (n.op = 7∨n.op = 8∨n.op = 9)
def nwB (n:Nd):Bool:=decide (n.op = 4)
theorem countP_step {α:Type} {l:List α} {P:α→Bool} {i:Nat} (h:i < l.length):(l.take (i + 1)).countP P = (l.take i).countP P + if P l[i] = true then 1 else 0:=by
 rw [List.take_succ_eq_append_getElem h,List.countP_append]
 congr 1
 by_cases e:P l[i] = true <;> simp [e]
theorem siB_no1 {nds:List Nd} {nv:Nat} {al:List Atm} {i:Nat} (hi:i < nds.length) (h:bkJ nds i = true):siB nds nv al = false:=by
 unfold siB
 have:(List.range nds.length).any (bkJ nds) = true:=by rw [List.any_eq_true];exact ⟨i,List.mem_range.2 hi,h⟩
 rw [this];rfl
theorem siB_no2 {nds:List Nd} {nv:Nat} {al:List Atm} {a:Atm} (ha:a∈al) (h:a.k = 4):siB nds nv al = false:=by
 unfold siB
 have:al.any (fun a=>decide (a.k = 4)) = true:=by rw [List.any_eq_true];exact ⟨a,ha,by simpa using h⟩
 rw [this];simp
theorem siB_eq {nds:List Nd} {nv:Nat} {al:List Atm} (h1:∀ i,i < nds.length→bkJ nds i = false) (h2:∀ a∈al,a.k≠4):siB nds nv al = (decide (nds.countP tsB≤5) && decide (nds.countP nwB≤4) && decide (nv + hiN al≤6) && decide (nv + hiN al + nds.countP nwB≤8)):=by
 unfold siB
 have e1:(List.range nds.length).any (bkJ nds) = false:=by rw [List.any_eq_false];intro i hi;rw [h1 i (List.mem_range.1 hi)];decide
 have e2:al.any (fun a=>decide (a.k = 4)) = false:=by rw [List.any_eq_false];intro a ha;simpa using h2 a ha
 rw [e1,e2]
 rfl
section
variable {w:World} {Q:Nat} {ws:List ByteArray} {ps:PS} {al:List Atm} {vv pv nv:Value}
theorem Cp.nd (h:Cp w Q ws ps al vv pv nv) {i:Nat} (hi:i < ps.nodes.length):∃ g cap,nv = .slice (some ⟨g,0,none⟩) ps.nodes.length cap∧w.cell? ⟨g,i * 6,none⟩ = some (.int .i64 (ps.nodes[i].op:Int))∧w.cell? ⟨g,i * 6 + 1,none⟩ = some (.int .i64 (ps.nodes[i].v:Int))∧w.cell? ⟨g,i * 6 + 2,none⟩ = some (.int .i64 (ps.nodes[i].ak:Int))∧w.cell? ⟨g,i * 6 + 3,none⟩ = some (.int .i64 (ps.nodes[i].ai:Int))∧w.cell? ⟨g,i * 6 + 4,none⟩ = some (.int .i64 (ps.nodes[i].nx:Int))∧w.cell? ⟨g,i * 6 + 5,none⟩ = some (.int .i64 (ps.nodes[i].ot:Int)):=by
 obtain ⟨g,cap,hv,-,-,-⟩:=own_pos h.nr (by omega)
 subst hv
 have key:∀ j,j < 6→w.cell? ⟨g,i * 6 + j,none⟩ = ps.nodes[i].cells[j]?:=fun j hj=>by rw [h.nr.cellAt _ (by omega),nd_get hi j hj]
 exact ⟨g,cap,rfl,key 0 (by omega),key 1 (by omega),key 2 (by omega),key 3 (by omega),key 4 (by omega),key 5 (by omega)⟩
set_option maxRecDepth 100000 in
set_option maxHeartbeats 16000000 in
theorem isSimple_any (h:Cp w Q ws ps al vv pv nv) (hA:AOk al) (hnl:ps.nodes.length≤100000) (hvl:ps.vars.length≤1000) :
  Calls Tryz.prog 170 #[.pointer (some ⟨Q,0,none⟩)] w fun e w'=>e = .returned (.bool (siB ps.nodes ps.vars.length al))∧Below w.heap.size w w':=by
 obtain ⟨R,hR⟩:∃ R,R = siB ps.nodes ps.vars.length al:=⟨_,rfl⟩
 rw [← hR]
 have hba:∀ a∈al,a.li≤100∧a.ri≤100:=fun a ha=>(hA.bd a ha).2.2
 have hall:=hA.le
 have HH:Hid (∀ W,Below w.heap.size w W→Calls Tryz.prog 196 #[pv] W fun e w'=>e = .returned (.int .i64 (hiN al:Nat))∧Below W.heap.size W w'):=hide (fun W hW=>hidden_any (h.below hW).pr hA.le hba)
 have hhl:=hiN_le al hba
 obtain ⟨na,nc,hnv,-,-⟩:=own_slc h.nr
 obtain ⟨va,vc,hvv,-,-⟩:=own_slc h.vr
 obtain ⟨ao,cap,hav,hcm,hcn,hcell⟩:=at_of_own h.pr
 subst hnv
 subst hvv
 subst hav
 have c1:=h.bk.cell 1 rfl
 have c2:=h.bk.cell 2 rfl
 have c3:=h.bk.cell 3 rfl
 have hQl:=h.bk.lt
 have H:=hide h
 have HR:=hide hR
 have HC:=hide hcell
 obtain ⟨nds,hnds⟩:∃ nds,nds = ps.nodes:=⟨_,rfl⟩
 have HN:Hid (∀ i,(hi:i < nds.length)→∃ g cap,Value.slice na ps.nodes.length nc = .slice (some ⟨g,0,none⟩) nds.length cap∧w.cell? ⟨g,i * 6,none⟩ = some (.int .i64 (nds[i].op:Int))∧w.cell? ⟨g,i * 6 + 4,none⟩ = some (.int .i64 (nds[i].nx:Int))):=hide (by
  subst hnds
  intro i hi
  obtain ⟨g,cap,e,x0,-,-,-,x4,-⟩:=h.nd hi
  exact ⟨g,cap,e,x0,x4⟩)
 rw [← hnds] at c3 hnl HN HR
 clear h hA hR hcell hba hnds
 go_enter Tryz.func170,Tryz.ntmps170
 go_wp2_with fail
 go_loopg [3,4,5] nds.length (fun gn tv nwv iv wx=>∃ (k:Nat),k + gn = nds.length∧iv = .int .i64 k∧tv = .int .i64 ((nds.take k).countP tsB:Nat)∧nwv = .int .i64 ((nds.take k).countP nwB:Nat)∧Hid (wx = w∧∀ i,i < k→bkJ nds i = false))
 case atStart=>exact ⟨0,by omega,rfl,rfl,rfl,hide ⟨rfl,fun i hi=>by omega⟩⟩
 case round =>
  obtain ⟨k,hkn,rfl,rfl,rfl,hI⟩:=hrel
  obtain ⟨G1,hG1⟩:∃ G1,G1 = gk:=⟨_,rfl⟩
  obtain ⟨hwr,hbj⟩:=uh hI
  rw [hwr]
  clear hwr
  have HBJ:=hide hbj
  have ht1:(nds.take k).countP tsB≤k:=Nat.le_trans List.countP_le_length (by rw [List.length_take];omega)
  have hn1:(nds.take k).countP nwB≤k:=Nat.le_trans List.countP_le_length (by rw [List.length_take];omega)
  clear hI hbj
  by_cases hlt:k < nds.length
  ·have hd:decide ((k:Int) < (nds.length:Int)) = true:=by simp;omega
   obtain ⟨g,cap2,hgv,x0,x4⟩:=uh HN k hlt
   simp only [Value.slice.injEq] at hgv
   obtain ⟨rfl,-,rfl⟩:=hgv
   have hts:=countP_step (P:=tsB) hlt
   have hnw:=countP_step (P:=nwB) hlt
   have hbk:bkJ nds k = (decide (nds[k].op = 10) && decide (nds[k].nx < k)):=by unfold bkJ;rw [getD_at hlt]
   obtain ⟨nd,hnd⟩:∃ nd,nd = nds[k]:=⟨_,rfl⟩
   rw [← hnd] at x0 x4 hts hnw hbk
   obtain ⟨T,hT⟩:∃ T,T = (nds.take k).countP tsB:=⟨_,rfl⟩
   obtain ⟨N,hN⟩:∃ N,N = (nds.take k).countP nwB:=⟨_,rfl⟩
   rw [← hT] at hts ht1 ⊢
   rw [← hN] at hnw hn1 ⊢
   have HNX:Hid (bkJ nds k = false→∀ i,i < k + 1→bkJ nds i = false):=hide (fun e i hi=>by
    by_cases h1:i = k
    ·rw [h1];exact e
    ·exact uh HBJ i (by omega))
   have k1:(0:Int)≤(k:Int):=by omega
   have k2:(k:Int) < (nds.length:Int):=by omega
   have HTS:=hide hts
   have HNW:=hide hnw
   have HBK:=hide hbk
   clear hts hnw hbk hnd hT hN
   have htsB:tsB nd = decide (nd.op = 7∨nd.op = 8∨nd.op = 9):=rfl
   have hnwB:nwB nd = decide (nd.op = 4):=rfl
   by_cases ht:nd.op = 7∨nd.op = 8∨nd.op = 9
   ·have HT2:Hid ((nds.take (k + 1)).countP tsB = T + 1):=hide (by rw [uh HTS,htsB,if_pos (by simpa using ht)])
    have HN2:Hid ((nds.take (k + 1)).countP nwB = N):=hide (by rw [uh HNW,hnwB,if_neg (by simp;omega),Nat.add_zero])
    have HB2:Hid (∀ i,i < k + 1→bkJ nds i = false):=hide (uh HNX (by rw [uh HBK];simp;omega))
    clear htsB hnwB HTS HNW HBK
    rcases ht with ht | ht | ht
    ·rw [ht] at x0
     go_wp2_with fail
     go_roundg (G1 - 1)
     case rel=>exact ⟨k + 1,by omega,by go_num,by rw [uh HT2];go_num,by rw [uh HN2],hide ⟨rfl,uh HB2⟩⟩
     case measure=>omega
    ·rw [ht] at x0
     go_wp2_with fail
     go_roundg (G1 - 1)
     case rel=>exact ⟨k + 1,by omega,by go_num,by rw [uh HT2];go_num,by rw [uh HN2],hide ⟨rfl,uh HB2⟩⟩
     case measure=>omega
    ·rw [ht] at x0
     go_wp2_with fail
     go_roundg (G1 - 1)
     case rel=>exact ⟨k + 1,by omega,by go_num,by rw [uh HT2];go_num,by rw [uh HN2],hide ⟨rfl,uh HB2⟩⟩
     case measure=>omega
   ·have HT2:Hid ((nds.take (k + 1)).countP tsB = T):=hide (by rw [uh HTS,htsB,if_neg (by simpa using ht),Nat.add_zero])
    have t7:((nd.op:Int) == (7:Int)) = false:=by simp;omega
    have t8:((nd.op:Int) == (8:Int)) = false:=by simp;omega
    have t9:((nd.op:Int) == (9:Int)) = false:=by simp;omega
    by_cases h4:nd.op = 4
    ·have HN2:Hid ((nds.take (k + 1)).countP nwB = N + 1):=hide (by rw [uh HNW,hnwB,if_pos (by simpa using h4)])
     have HB2:Hid (∀ i,i < k + 1→bkJ nds i = false):=hide (uh HNX (by rw [uh HBK];simp;omega))
     rw [h4] at x0
     clear htsB hnwB HTS HNW HBK t7 t8 t9
     go_wp2_with fail
     go_roundg (G1 - 1)
     case rel=>exact ⟨k + 1,by omega,by go_num,by rw [uh HT2],by rw [uh HN2];go_num,hide ⟨rfl,uh HB2⟩⟩
     case measure=>omega
    ·have HN2:Hid ((nds.take (k + 1)).countP nwB = N):=hide (by rw [uh HNW,hnwB,if_neg (by simpa using h4),Nat.add_zero])
     have t4:((nd.op:Int) == (4:Int)) = false:=by simp;omega
     by_cases h10:nd.op = 10
     ·rw [h10] at x0
      by_cases hb:nd.nx < k
      ·have d1:decide ((nd.nx:Int) < (k:Int)) = true:=by simp;omega
       have HE:Hid (R = false):=hide (by rw [uh HR];exact siB_no1 hlt (by rw [uh HBK];simp [h10,hb]))
       clear htsB hnwB HTS HNW HBK t7 t8 t9 t4
       go_wp2_with fail
       go_ret
       exact ⟨ret_bool (uh HE).symm,Below.refl _ _⟩
      ·have d1:decide ((nd.nx:Int) < (k:Int)) = false:=by simp;omega
       have HB2:Hid (∀ i,i < k + 1→bkJ nds i = false):=hide (uh HNX (by rw [uh HBK];simp [hb]))
       clear htsB hnwB HTS HNW HBK t7 t8 t9 t4
       go_wp2_with fail
       go_roundg (G1 - 1)
       case rel=>exact ⟨k + 1,by omega,by go_num,by rw [uh HT2],by rw [uh HN2],hide ⟨rfl,uh HB2⟩⟩
       case measure=>omega
     ·have t10:((nd.op:Int) == (10:Int)) = false:=by simp;omega
      have HB2:Hid (∀ i,i < k + 1→bkJ nds i = false):=hide (uh HNX (by rw [uh HBK];simp [h10]))
      clear htsB hnwB HTS HNW HBK
      go_wp2_with fail
      go_roundg (G1 - 1)
      case rel=>exact ⟨k + 1,by omega,by go_num,by rw [uh HT2],by rw [uh HN2],hide ⟨rfl,uh HB2⟩⟩
      case measure=>omega
  ·have hd:decide ((k:Int) < (nds.length:Int)) = false:=by simp;omega
   have hkl:nds.take k = nds:=List.take_of_length_le (by omega)
   rw [hkl] at ht1 hn1 ⊢
   have HB2:Hid (∀ i,i < nds.length→bkJ nds i = false):=hide (fun i hi=>uh HBJ i (by omega))
   obtain ⟨T,hT⟩:∃ T,T = nds.countP tsB:=⟨_,rfl⟩
   obtain ⟨N,hN⟩:∃ N,N = nds.countP nwB:=⟨_,rfl⟩
   rw [← hT] at ht1 ⊢
   rw [← hN] at hn1 ⊢
   have HTN:=hide (And.intro hT hN)
   clear hkl hT hN HBJ HN
   go_wp2_with fail
   go_loopg [58] al.length (fun gn iv wx=>∃ (j:Nat),j + gn = al.length∧iv = .int .i64 j∧Hid (Below w.heap.size w wx∧∀ i,i < j→∀ a,al[i]? = some a→a.k≠4))
   case atStart=>exact ⟨0,by omega,rfl,hide ⟨Below.refl _ _,fun i hi=>by omega⟩⟩
   case round =>
    obtain ⟨j,hjn,rfl,hJ⟩:=hrel
    obtain ⟨G2,hG2⟩:∃ G2,G2 = gk:=⟨_,rfl⟩
    by_cases hlt2:j < al.length
    ·have hd2:decide ((j:Int) < (al.length:Int)) = true:=by simp;omega
     obtain ⟨g,rfl,hgl,hc⟩:=uh HC (fun e=>by rw [e] at hlt2;simp at hlt2)
     obtain ⟨x0,x1,x2,x3,x4⟩:=hc j hlt2
     have x0:=((uh hJ).1.cell hgl).trans x0
     have x1:=((uh hJ).1.cell hgl).trans x1
     have x2:=((uh hJ).1.cell hgl).trans x2
     have x3:=((uh hJ).1.cell hgl).trans x3
     have x4:=((uh hJ).1.cell hgl).trans x4
     have hge:al[j]? = some al[j]:=List.getElem?_eq_getElem hlt2
     obtain ⟨a,ha⟩:∃ a,a = al[j]:=⟨_,rfl⟩
     rw [← ha] at x0 x1 x2 x3 x4 hge
     obtain ⟨ak,alk,ali,ark,ari⟩:=a
     simp only at x0 x1 x2 x3 x4
     have HGE:=hide hge
     have HB1:Hid (Below w.heap.size w (wr.alloc (.cells #[Value.int .i64 ak,.int .i64 alk,.int .i64 ali,.int .i64 ark,.int .i64 ari] 239))):=hide ((uh hJ).1.trans ((below_boxQ wr _).mono (uh hJ).1.size))
     have k1:(0:Int)≤(j:Int):=by omega
     have k2:(j:Int) < (al.length:Int):=by omega
     clear hc ha hge
     by_cases h4:ak = 4
     ·have d4:((ak:Int) == (4:Int)) = true:=by simp [h4]
      have HE:Hid (R = false):=hide (by rw [uh HR];exact siB_no2 (List.mem_of_getElem? (uh HGE)) h4)
      clear h4
      go_wp2_with fail
      go_ret
      exact ⟨ret_bool (uh HE).symm,uh HB1⟩
     ·have d4:((ak:Int) == (4:Int)) = false:=by simp;omega
      have HA4:=hide h4
      clear h4
      go_wp2_with fail
      go_roundg (G2 - 1)
      case rel=>exact ⟨j + 1,by omega,by go_num,hide ⟨uh HB1,fun i hi y hy=>by
       by_cases e':i = j
       ·rw [e',uh HGE] at hy
        injection hy with hy
        rw [← hy];exact uh HA4
       ·exact (uh hJ).2 i (by omega) y hy⟩⟩
      case measure=>omega
    ·have hd2:decide ((j:Int) < (al.length:Int)) = false:=by simp;omega
     obtain ⟨hb,hno⟩:=uh hJ
     have d2:=(hb.cell hQl).trans c2
     have HH2:=hide (uh HH wr hb)
     obtain ⟨V,hV⟩:∃ V,V = ps.vars.length:=⟨_,rfl⟩
     have hvl2:V≤1000:=by rw [hV];exact hvl
     rw [← hV] at HR ⊢
     obtain ⟨Hn,hHn⟩:∃ Hn,Hn = hiN al:=⟨_,rfl⟩
     rw [← hHn] at HH2 hhl
     have hRe:R = (decide (T≤5) && decide (N≤4) && decide (V + Hn≤6) && decide (V + Hn + N≤8)):=by
      rw [uh HR,siB_eq (uh HB2) (fun a ha=>?_),← (uh HTN).1,← (uh HTN).2,← hHn]
      obtain ⟨i,hi⟩:=List.mem_iff_getElem?.1 ha
      exact hno i (by have:=(List.getElem?_eq_some_iff.1 hi).1;omega) a hi
     obtain ⟨M,hM⟩:∃ M,M = V + Hn:=⟨_,rfl⟩
     rw [← hM] at hRe
     have hq1:IntKind.i64.wrap ((V:Int) + (Hn:Int)) = (M:Int):=by rw [IntKind.wrap_i64];omega
     have HRE:=hide hRe
     have HB:=hide hb
     have hM2:M≤2000:=by omega
     obtain ⟨P,hP⟩:∃ P,P = M + N:=⟨_,rfl⟩
     have hq2:IntKind.i64.wrap ((M:Int) + (N:Int)) = (P:Int):=by rw [IntKind.wrap_i64];omega
     rw [← hP] at HRE
     clear hb hno hV hHn hRe hM hP hJ HR HB2 HTN HH HC
     go_wp2_with fail
     refine (uh HH2).mono ?_
     rintro e w5 ⟨rfl,hb5⟩
     have HB5:=hide ((uh HB).trans (hb5.mono (uh HB).size))
     clear hb5 HB HH2
     by_cases p1:T≤5
     ·have e1:decide (T≤5) = true:=by simpa using p1
      have e1':decide ((T:Int)≤(5:Int)) = true:=by simp;omega
      by_cases p2:N≤4
      ·have e2:decide (N≤4) = true:=by simpa using p2
       have e2':decide ((N:Int)≤(4:Int)) = true:=by simp;omega
       by_cases p3:M≤6
       ·have e3:decide (M≤6) = true:=by simpa using p3
        have e3':decide ((M:Int)≤(6:Int)) = true:=by simp;omega
        by_cases p4:P≤8
        ·have e4:decide (P≤8) = true:=by simpa using p4
         have e4':decide ((P:Int)≤(8:Int)) = true:=by simp;omega
         have HE:Hid (R = true):=hide (by rw [uh HRE,e1,e2,e3,e4];rfl)
         clear p1 p2 p3 p4 e1 e2 e3 e4
         go_wp2_with fail
         go_ret
         exact ⟨ret_bool (uh HE).symm,uh HB5⟩
        ·have e4:decide (P≤8) = false:=by simpa using p4
         have e4':decide ((P:Int)≤(8:Int)) = false:=by simp;omega
         have HE:Hid (R = false):=hide (by rw [uh HRE,e1,e2,e3,e4];rfl)
         clear p1 p2 p3 p4 e1 e2 e3 e4
         go_wp2_with fail
         go_ret
         exact ⟨ret_bool (uh HE).symm,uh HB5⟩
       ·have e3:decide (M≤6) = false:=by simpa using p3
        have e3':decide ((M:Int)≤(6:Int)) = false:=by simp;omega
        have HE:Hid (R = false):=hide (by rw [uh HRE,e1,e2,e3];rfl)
        clear p1 p2 p3 e1 e2 e3
        go_wp2_with fail
        go_ret
        exact ⟨ret_bool (uh HE).symm,uh HB5⟩
      ·have e2:decide (N≤4) = false:=by simpa using p2
       have e2':decide ((N:Int)≤(4:Int)) = false:=by simp;omega
       have HE:Hid (R = false):=hide (by rw [uh HRE,e1,e2];rfl)
       clear p1 p2 e1 e2
       go_wp2_with fail
       go_ret
       exact ⟨ret_bool (uh HE).symm,uh HB5⟩
     ·have e1:decide (T≤5) = false:=by simpa using p1
      have e1':decide ((T:Int)≤(5:Int)) = false:=by simp;omega
      have HE:Hid (R = false):=hide (by rw [uh HRE,e1];rfl)
      clear p1 e1
      go_wp2_with fail
      go_ret
      exact ⟨ret_bool (uh HE).symm,uh HB5⟩
end
theorem Tryz.infoBl:(Tryz.prog.info? 4).map (fun i=>(i.zero,i.size,i.bytes)) = some (some (.bool false),1,1):=by kernel_rfl
theorem Tryz.infoEs:(Tryz.prog.info? 255).map (fun i=>(i.zero,i.size,i.bytes)) = some (some (.slice none 0 0),1,24):=by kernel_rfl
theorem Tryz.infoBs:(Tryz.prog.info? 200).map (fun i=>(i.zero,i.size,i.bytes)) = some (some (.slice none 0 0),1,24):=by kernel_rfl
theorem ol_setW {S:Nat} {hv kv wv:Value} {KV WV:List Value} {n:Nat} (v:Value):olS S hv kv wv KV (WV.set n v) = (olS S hv kv wv KV WV).set (4 + (KV.length + n)) v.ownBlock:=by
 unfold olS
 rw [show 4 + (KV.length + n) = (KV.length + n) + 1 + 1 + 1 + 1 by omega]
 simp only [List.set_cons_succ]
 rw [List.set_append_right _ _ (by simp),List.map_set]
 simp
structure ShB (w W:World) (S:Nat) (c0 hv kv wv:Value) (WV:List Value) (lp:Bool) (hd:List Bool) (bd:Bool) (m i:Nat):Prop where
 bs:Bk W S 229 (shC c0 hv lp kv wv bd 3000 2097152 false)
 hl:hd.length = m
 hr:W.ownsRow 0 4 1 hv m (blC hd)
 kr:W.ownsRow 0 255 1 kv m (List.replicate m vNil)
 wr:W.ownsRow 0 200 1 wv m WV
 we:∀ j,j < i→W.ownsRow 0 4 1 (WV.getD j vNil) 5 (blC (List.replicate 5 false))
 ap:Apt (olS S hv kv wv (List.replicate m vNil) WV)
 bl:Below w.heap.size w W
 ge:∀ k∈shF S hv kv wv (List.replicate m vNil) WV,w.heap.size≤k
section
variable {w W W':World} {S:Nat} {c0 hv kv wv:Value} {WV:List Value} {lp bd:Bool} {hd:List Bool} {m i:Nat}
theorem ShB.wl (h:ShB w W S c0 hv kv wv WV lp hd bd m i):WV.length = m:=by have:=h.wr.1;omega
theorem ShB.of_eq (h:ShB w W S c0 hv kv wv WV lp hd bd m i) (him:i≤m) (he:∀ k∈shF S hv kv wv (List.replicate m vNil) WV,W'.heap[k]? = W.heap[k]?) (hb:Below w.heap.size w W'):ShB w W' S c0 hv kv wv WV lp hd bd m i:=by
 have hw:=h.wl
 exact ⟨h.bs.of_eq (he S mem_shS),h.hl,ownsRow_of_eq h.hr (fun k hk=>he k (mem_sh (i:=1) (congrArg some hk))),ownsRow_of_eq h.kr (fun k hk=>he k (mem_sh (i:=2) (congrArg some hk))),ownsRow_of_eq h.wr (fun k hk=>he k (mem_sh (i:=3) (congrArg some hk))),fun j hj=>ownsRow_of_eq (h.we j hj) (fun k hk=>he k (mem_sh ((ol_w (by omega)).trans (congrArg some hk)))),h.ap,hb,h.ge⟩
theorem ShB.lt (h:ShB w W S c0 hv kv wv WV lp hd bd m i) (hn:∀ j,i≤j→WV.getD j vNil = vNil):∀ k∈shF S hv kv wv (List.replicate m vNil) WV,k < W.heap.size:=by
 intro k hk
 obtain ⟨p,hp⟩:=mem_fpt.1 hk
 rcases ol_in hp with ⟨-,rfl⟩ | ⟨-,e⟩ | ⟨-,e⟩ | ⟨-,e⟩ | ⟨j,hj,-,e⟩ | ⟨j,hj,-,e⟩
 ·exact h.bs.lt
 ·exact (h.hr.lt k e).2
 ·exact (h.kr.lt k e).2
 ·exact (h.wr.lt k e).2
 ·have:(List.replicate m vNil).getD j vNil = vNil:=by rw [List.length_replicate] at hj;simp [hj]
  rw [this] at e
  cases e
 ·by_cases hji:j < i
  ·exact ((h.we j hji).lt k e).2
  ·rw [hn j (by omega)] at e
   cases e
theorem ShB.below (h:ShB w W S c0 hv kv wv WV lp hd bd m i) (him:i≤m) (hn:∀ j,i≤j→WV.getD j vNil = vNil) (hb:Below W.heap.size W W'):ShB w W' S c0 hv kv wv WV lp hd bd m i:=h.of_eq him (fun k hk=>hb.block k (h.lt hn k hk)) (h.bl.trans (hb.mono h.bl.size))
theorem ShB.row (h:ShB w W S c0 hv kv wv WV lp hd bd m i) (him:i < m) (hn:∀ j,i≤j→WV.getD j vNil = vNil) {o:Obj} (ho:o = .cells (madeCells #[Value.bool false] 5) 4) {wB wC:Nat} (hwv:wv = .slice (some ⟨wB,0,none⟩) m wC) :
  ShB w ((W.alloc o).setCell ⟨wB,i,none⟩ (.slice (some ⟨W.heap.size,0,none⟩) 5 5)) S c0 hv kv wv (WV.set i (.slice (some ⟨W.heap.size,0,none⟩) 5 5)) lp hd bd m (i + 1)∧∀ j,i + 1≤j→(WV.set i (.slice (some ⟨W.heap.size,0,none⟩) 5 5)).getD j vNil = vNil:=by
 have hw:=h.wl
 have hb1:=below_boxQ W o
 have h1:=h.below (Nat.le_of_lt him) hn hb1
 have hlt:=h.lt hn
 have hsz:W.heap.size < (W.alloc o).heap.size:=by simp
 have hwB:(olS S hv kv wv (List.replicate m vNil) WV)[3]? = some (some wB):=by rw [hwv];rfl
 have hwBl:=hlt wB (mem_sh hwB)
 have hwBg:=h.ge wB (mem_sh hwB)
 obtain ⟨v,hv0⟩:∃ v,v = Value.slice (some ⟨W.heap.size,0,none⟩) 5 5:=⟨_,rfl⟩
 have hvo:v.ownBlock = some W.heap.size:=by rw [hv0];rfl
 rw [← hv0]
 have hne:∀ p k,p≠3→(olS S hv kv wv (List.replicate m vNil) WV)[p]? = some (some k)→((W.alloc o).setCell ⟨wB,i,none⟩ v).heap[k]? = (W.alloc o).heap[k]?:=fun p k hp hk=>Below.heap_setCell _ _ _ _ (fun e=>hp (h.ap p 3 k hk (by rw [hwB,show k = wB from e])))
 have hset:∀ j,j≠i→(WV.set i v).getD j vNil = WV.getD j vNil:=fun j hj=>by rw [List.getD_eq_getElem?_getD,List.getElem?_set_ne (fun e=>hj e.symm),← List.getD_eq_getElem?_getD]
 have hold:∀ k,W.heap.size = k→∀ p,(olS S hv kv wv (List.replicate m vNil) WV)[p]?≠some (some k):=fun k hk p hp=>by have:=hlt k (mem_sh hp);omega
 refine ⟨⟨h1.bs.of_eq (hne 0 S (by omega) rfl),h.hl,ownsRow_of_eq h1.hr (fun k hk=>hne 1 k (by omega) (congrArg some hk)),ownsRow_of_eq h1.kr (fun k hk=>hne 2 k (by omega) (congrArg some hk)),?_,fun j hj=>?_,?_,h1.bl.setCell (p:=⟨wB,i,none⟩) hwBg _,fun k hk=>?_⟩,fun j hj=>by rw [hset j (by omega)];exact hn j (by omega)⟩
 ·have:=h1.wr
  rw [hwv] at this ⊢
  exact (this.stored i v).1
 ·by_cases hji:j = i
  ·subst hji
   have e1:(WV.set j v).getD j vNil = v:=by rw [List.getD_eq_getElem?_getD,List.getElem?_set_self (by omega)];rfl
   rw [e1,hv0]
   have h2:=World.ownsRow_lit (base:=0) (e:=4) (size:=1) W (madeCells #[Value.bool false] 5) 5 (Nat.zero_le _) (by simp [maxLen]) (by simp [madeCells])
   rw [toList_madeCells_one,← ho] at h2
   exact own_setO h2 (p:=⟨wB,j,none⟩) (by show some W.heap.size≠some wB;intro e;injection e with e;omega) _
  ·rw [hset j hji]
   refine ownsRow_of_eq (h1.we j (by omega)) (fun k hk=>hne (4 + ((List.replicate m vNil).length + j)) k (by omega) ((ol_w (by omega)).trans (congrArg some hk)))
 ·rw [ol_setW]
  refine h.ap.set _ (fun k hk=>Or.inr (hold k ?_))
  rw [hvo] at hk
  injection hk
 ·obtain ⟨p,hp⟩:=mem_fpt.1 hk
  rw [ol_setW,List.getElem?_set] at hp
  split at hp
  ·split at hp
   ·simp only [Option.some.injEq] at hp
    rw [hvo] at hp
    injection hp with hp
    rw [← hp]
    exact h.bl.size
   ·simp at hp
  ·exact h.ge k (mem_sh hp)
theorem ShB.head (h:ShB w W S c0 hv kv wv WV lp hd bd m i) (him:i≤m) {n hB hC:Nat} (hhv:hv = .slice (some ⟨hB,0,none⟩) m hC):ShB w (W.setCell ⟨hB,n,none⟩ (.bool true)) S c0 hv kv wv WV lp (hd.set n true) bd m i:=by
 have hw:=h.wl
 have hhB:(olS S hv kv wv (List.replicate m vNil) WV)[1]? = some (some hB):=by rw [hhv];rfl
 have hne:∀ p k,p≠1→(olS S hv kv wv (List.replicate m vNil) WV)[p]? = some (some k)→(W.setCell ⟨hB,n,none⟩ (.bool true)).heap[k]? = W.heap[k]?:=fun p k hp hk=>Below.heap_setCell _ _ _ _ (fun e=>hp (h.ap p 1 k hk (by rw [hhB,show k = hB from e])))
 refine ⟨h.bs.of_eq (hne 0 S (by omega) rfl),by rw [List.length_set];exact h.hl,?_,ownsRow_of_eq h.kr (fun k hk=>hne 2 k (by omega) (congrArg some hk)),ownsRow_of_eq h.wr (fun k hk=>hne 3 k (by omega) (congrArg some hk)),fun j hj=>ownsRow_of_eq (h.we j hj) (fun k hk=>hne _ k (by omega) ((ol_w (by omega)).trans (congrArg some hk))),h.ap,h.bl.setCell (p:=⟨hB,n,none⟩) (h.ge hB (mem_sh hhB)) _,h.ge⟩
 have:=h.hr
 rw [hhv] at this ⊢
 have h2:=(this.stored n (.bool true)).1
 have e:(blC hd).set n (.bool true) = blC (hd.set n true):=by unfold blC;rw [List.map_set]
 rw [e] at h2
 exact h2
theorem ShB.loop (h:ShB w W S c0 hv kv wv WV lp hd bd m i) (him:i≤m):ShB w (W.setCell ⟨S,2,none⟩ (.bool true)) S c0 hv kv wv WV true hd bd m i:=by
 have hw:=h.wl
 have hne:∀ p k,p≠0→(olS S hv kv wv (List.replicate m vNil) WV)[p]? = some (some k)→(W.setCell ⟨S,2,none⟩ (.bool true)).heap[k]? = W.heap[k]?:=fun p k hp hk=>Below.heap_setCell _ _ _ _ (fun e=>hp (h.ap p 0 k hk (by rw [show k = S from e];rfl)))
 exact ⟨h.bs.set 2 (.bool true),h.hl,ownsRow_of_eq h.hr (fun k hk=>hne 1 k (by omega) (congrArg some hk)),ownsRow_of_eq h.kr (fun k hk=>hne 2 k (by omega) (congrArg some hk)),ownsRow_of_eq h.wr (fun k hk=>hne 3 k (by omega) (congrArg some hk)),fun j hj=>ownsRow_of_eq (h.we j hj) (fun k hk=>hne _ k (by omega) ((ol_w (by omega)).trans (congrArg some hk))),h.ap,h.bl.setCell (p:=⟨S,2,none⟩) (h.ge S mem_shS) _,h.ge⟩
end
def hdK (nds:List Nd) (k:Nat):List Bool:=(List.range k).foldl (fun h i=>if bkJ nds i = true then h.set (nds.getD i nd0).nx true else h) (List.replicate nds.length false)
def lpK (nds:List Nd) (k:Nat):Bool:=(List.range k).any (bkJ nds)
theorem hdK_step (nds:List Nd) (k:Nat):hdK nds (k + 1) = if bkJ nds k = true then (hdK nds k).set (nds.getD k nd0).nx true else hdK nds k:=by
 unfold hdK;rw [List.range_succ,List.foldl_append];rfl
theorem lpK_step (nds:List Nd) (k:Nat):lpK nds (k + 1) = (lpK nds k || bkJ nds k):=by
 unfold lpK;rw [List.range_succ,List.any_append];simp
def BegP (w:World) (c:Cd) (c0:Value) (nds:List Nd) (S:Nat) (w':World):Prop :=
 ∃ hv kv wv WV,Sh w' S c c0 hv kv wv (List.replicate nds.length vNil) WV (List.replicate nds.length []) (sr0 nds)∧Below w.heap.size w w'∧∀ k∈shF S hv kv wv (List.replicate nds.length vNil) WV,w.heap.size≤k
theorem ShB.sh {w W:World} {S:Nat} {c0 hv kv wv:Value} {WV:List Value} {nds:List Nd} {nv:Nat} {al:List Atm} (h:ShB w W S c0 hv kv wv WV (lpK nds nds.length) (hdK nds nds.length) (!siB nds nv al) nds.length nds.length):Sh W S (cdO nds nv al) c0 hv kv wv (List.replicate nds.length vNil) WV (List.replicate nds.length []) (sr0 nds):=by
 have hrl:∀ {α:Type} (a:α),(List.replicate nds.length a).length = nds.length:=fun a=>List.length_replicate
 have hget:∀ {α:Type} (a d:α) (i:Nat),i < nds.length→(List.replicate nds.length a).getD i d = a:=fun a d i hi=>by simp [hi]
 refine ⟨h.bs,?_,?_,fun i hi=>?_,?_,fun i hi=>?_,?_,?_,?_,?_,fun l hl e he=>?_,h.ap,fun k hk=>?_⟩
 ·show W.ownsRow 0 _ 1 hv (hdL nds).length (blC (hdL nds))
  have e:(hdL nds).length = nds.length:=h.hl
  rw [e]
  exact h.hr
 ·rw [hrl];exact h.kr
 ·rw [hrl] at hi
  rw [hget _ _ i hi,hget _ _ i hi]
  exact ⟨rfl,.inl ⟨rfl,rfl⟩⟩
 ·rw [hrl];exact h.wr
 ·rw [hrl] at hi
  show W.ownsRow 0 _ 1 _ 5 (blC ((List.replicate nds.length (List.replicate 5 false)).getD i []))
  rw [hget _ _ i hi]
  exact h.we i hi
 ·show (List.replicate nds.length (List.replicate 5 false)).length = _
  rw [hrl,hrl]
 ·rw [hrl];exact h.hl
 ·rw [hrl];rfl
 ·show List.replicate nds.length [] = _
  rw [List.map_replicate];rfl
 ·rw [List.eq_of_mem_replicate hl] at he
  simp at he
 ·obtain ⟨l,hl,e,he,-⟩:=mem_drF.1 hk
  rw [List.eq_of_mem_replicate hl] at he
  simp at he
section
variable {w:World} {Q:Nat} {ws:List ByteArray} {ps:PS} {al:List Atm} {vv pv nv:Value}
set_option maxRecDepth 100000 in
set_option maxHeartbeats 16000000 in
theorem begin_sh (h:Cp w Q ws ps al vv pv nv) (hA:AOk al) (hnl:ps.nodes.length≤100000) (hvl:ps.vars.length≤1000) :
  Calls Tryz.prog 139 #[.pointer (some ⟨Q,0,none⟩)] w fun e w'=>∃ S,e = .returned (.pointer (some ⟨S,0,none⟩))∧BegP w (cdO ps.nodes ps.vars.length al) (.pointer (some ⟨Q,0,none⟩)) ps.nodes S w':=by
 have HSI:=hide (isSimple_any h hA hnl hvl)
 obtain ⟨na,nc,hnv,-,-⟩:=own_slc h.nr
 subst hnv
 have c3:=h.bk.cell 3 rfl
 have H:=hide h
 obtain ⟨nds,hnds⟩:∃ nds,nds = ps.nodes:=⟨_,rfl⟩
 obtain ⟨sb,hsb⟩:∃ sb,sb = siB ps.nodes ps.vars.length al:=⟨_,rfl⟩
 rw [← hsb] at HSI
 have HSB:=hide hsb
 obtain ⟨POST,hPOST⟩:∃ POST:Nat→World→Prop,POST = fun S w'=>BegP w (cdO ps.nodes ps.vars.length al) (.pointer (some ⟨Q,0,none⟩)) ps.nodes S w':=⟨_,rfl⟩
 have HPOST:=hide hPOST
 rw [show (fun (e:Ending) (w':World)=>∃ S,e = .returned (.pointer (some ⟨S,0,none⟩))∧BegP w (cdO ps.nodes ps.vars.length al) (.pointer (some ⟨Q,0,none⟩)) ps.nodes S w') = (fun e w'=>∃ S,e = .returned (.pointer (some ⟨S,0,none⟩))∧POST S w') by rw [hPOST]]
 rw [← hnds] at c3 hnl HPOST HSB
 have hQl:=h.bk.lt
 have HND:Hid (∀ i,(hi:i < nds.length)→∃ g cap,Value.slice na ps.nodes.length nc = .slice (some ⟨g,0,none⟩) nds.length cap∧w.cell? ⟨g,i * 6,none⟩ = some (.int .i64 (nds[i].op:Int))∧w.cell? ⟨g,i * 6 + 1,none⟩ = some (.int .i64 (nds[i].v:Int))∧w.cell? ⟨g,i * 6 + 2,none⟩ = some (.int .i64 (nds[i].ak:Int))∧w.cell? ⟨g,i * 6 + 3,none⟩ = some (.int .i64 (nds[i].ai:Int))∧w.cell? ⟨g,i * 6 + 4,none⟩ = some (.int .i64 (nds[i].nx:Int))∧w.cell? ⟨g,i * 6 + 5,none⟩ = some (.int .i64 (nds[i].ot:Int))∧g < w.heap.size):=hide (by
  subst hnds
  intro i hi
  obtain ⟨g,cap,e,x0,x1,x2,x3,x4,x5⟩:=h.nd hi
  exact ⟨g,cap,e,x0,x1,x2,x3,x4,x5,World.block_lt_of_cell? w _ x0⟩)
 have HCP:=hide (And.intro hnds hnl)
 have hmk1:=run_make_row' (P:=Tryz.prog) 200 4 (.bool false) 1 Tryz.underlying200 Tryz.infoBl rfl .i64 .i64 nds.length (by omega) (by omega)
 have hmk2:=run_make_row' (P:=Tryz.prog) 226 255 (.slice none 0 0) 24 Tryz.underlying226 Tryz.infoEs rfl .i64 .i64 nds.length (by omega) (by omega)
 have hmk3:=run_make_row' (P:=Tryz.prog) 227 200 (.slice none 0 0) 24 Tryz.underlying227 Tryz.infoBs rfl .i64 .i64 nds.length (by omega) (by omega)
 have hmk4:∀ W:World,(Instr.makeSlice 200 (.int .i64 5) (.int .i64 5)).run Tryz.prog W = .ok (.slice (some ⟨W.heap.size,0,none⟩) 5 5) (W.alloc (.cells (madeCells #[Value.bool false] 5) 4)):=run_make_row' (P:=Tryz.prog) 200 4 (.bool false) 1 Tryz.underlying200 Tryz.infoBl rfl .i64 .i64 5 (by omega) (by omega)
 clear h hA hvl hsb hPOST hnds
 go_enter Tryz.func139,Tryz.ntmps139
 go_wp2_with fail
 refine (uh HSI).mono ?_
 rintro e w1 ⟨rfl,hb1⟩
 have HB1:=hide hb1
 clear hb1 HSI
 go_upto_region 3 with fail
 obtain ⟨W2,hW2⟩:∃ W2,W2 = w1.alloc (.cells #[Value.pointer (some ⟨Q,0,none⟩),.slice none 0 0,.bool false,.slice none 0 0,.slice none 0 0,.bool (!sb),.int .i64 3000,.int .i64 2097152,.bool false] 229):=⟨_,rfl⟩
 have hb2:Below w.heap.size w W2:=by rw [hW2];exact (uh HB1).trans ((below_boxQ w1 _).mono (uh HB1).size)
 have hbk2:Bk W2 w1.heap.size 229 (shC (.pointer (some ⟨Q,0,none⟩)) (.slice none 0 0) false (.slice none 0 0) (.slice none 0 0) (!sb) 3000 2097152 false):=by rw [hW2];exact Bk.new w1 _ _
 have hSw:=(uh HB1).size
 obtain ⟨S,hS⟩:∃ S,S = w1.heap.size:=⟨_,rfl⟩
 rw [← hS] at hbk2 hSw
 have H2:=hide (And.intro hbk2 (And.intro hb2 hSw))
 rw [← hW2,← hS]
 clear hW2 hS hb2 hbk2 hSw HB1
 go_cut [] (fun wx=>∃ hB,Hid (Bk wx S 229 (shC (.pointer (some ⟨Q,0,none⟩)) (.slice (some ⟨hB,0,none⟩) nds.length nds.length) false (.slice none 0 0) (.slice none 0 0) (!sb) 3000 2097152 false)∧wx.ownsRow 0 4 1 (.slice (some ⟨hB,0,none⟩) nds.length nds.length) nds.length (blC (List.replicate nds.length false))∧S < hB∧Below w.heap.size w wx))
 case first =>
  obtain ⟨hbk,hb,hSw⟩:=uh H2
  have e1:=(hbk.alloc (.cells (madeCells #[Value.bool false] nds.length) 4)).cell 1 rfl
  have z1:=(hbk.alloc (.cells (madeCells #[Value.bool false] nds.length) 4)).frz 1
  have hSl:=hbk.lt
  have hrow:((W2.alloc (.cells (madeCells #[Value.bool false] nds.length) 4)).setCell ⟨S,1,none⟩ (.slice (some ⟨W2.heap.size,0,none⟩) nds.length nds.length)).ownsRow 0 4 1 (.slice (some ⟨W2.heap.size,0,none⟩) nds.length nds.length) nds.length (blC (List.replicate nds.length false)):=by
   have h2:=World.ownsRow_lit (base:=0) (e:=4) (size:=1) W2 (madeCells #[Value.bool false] nds.length) nds.length (Nat.zero_le _) (by have:=(uh HCP).2;simp [maxLen];omega) (by simp [madeCells])
   rw [toList_madeCells_one] at h2
   have e:blC (List.replicate nds.length false) = List.replicate nds.length (Value.bool false):=by unfold blC;rw [List.map_replicate]
   rw [e]
   exact own_setO h2 (p:=⟨S,1,none⟩) (by show some W2.heap.size≠some S;intro e;injection e with e;omega) _
  have HN:=hide (And.intro ((hbk.alloc (.cells (madeCells #[Value.bool false] nds.length) 4)).set 1 (.slice (some ⟨W2.heap.size,0,none⟩) nds.length nds.length)) (And.intro hrow (And.intro hSl ((hb.trans ((below_boxQ W2 (.cells (madeCells #[Value.bool false] nds.length) 4)).mono hb.size)).setCell (p:=⟨S,1,none⟩) hSw (.slice (some ⟨W2.heap.size,0,none⟩) nds.length nds.length)))))
  clear hbk hb hSw hSl hrow
  go_wp2_with fail
  go_meet
  exact ⟨_,HN⟩
 case rest =>
 obtain ⟨hB,hH⟩:=hcut
 have hSw:=(uh H2).2.2
 clear H2
 go_upto_region 4 with fail
 go_cut [] (fun wx=>∃ kB,Hid (Bk wx S 229 (shC (.pointer (some ⟨Q,0,none⟩)) (.slice (some ⟨hB,0,none⟩) nds.length nds.length) false (.slice (some ⟨kB,0,none⟩) nds.length nds.length) (.slice none 0 0) (!sb) 3000 2097152 false)∧wx.ownsRow 0 4 1 (.slice (some ⟨hB,0,none⟩) nds.length nds.length) nds.length (blC (List.replicate nds.length false))∧wx.ownsRow 0 255 1 (.slice (some ⟨kB,0,none⟩) nds.length nds.length) nds.length (List.replicate nds.length vNil)∧S < hB∧hB < kB∧Below w.heap.size w wx))
 case first =>
  obtain ⟨hbk,hrb,hsb,hb⟩:=uh hH
  obtain ⟨W3,hW3⟩:∃ W3,W3 = wc:=⟨_,rfl⟩
  rw [← hW3] at hbk hrb hb ⊢
  have e1:=(hbk.alloc (.cells (madeCells #[Value.slice none 0 0] nds.length) 255)).cell 3 rfl
  have z1:=(hbk.alloc (.cells (madeCells #[Value.slice none 0 0] nds.length) 255)).frz 3
  have hSl:=hbk.lt
  have hBl:=(hrb.lt hB rfl).2
  have hrow:((W3.alloc (.cells (madeCells #[Value.slice none 0 0] nds.length) 255)).setCell ⟨S,3,none⟩ (.slice (some ⟨W3.heap.size,0,none⟩) nds.length nds.length)).ownsRow 0 255 1 (.slice (some ⟨W3.heap.size,0,none⟩) nds.length nds.length) nds.length (List.replicate nds.length vNil):=by
   have h2:=World.ownsRow_lit (base:=0) (e:=255) (size:=1) W3 (madeCells #[Value.slice none 0 0] nds.length) nds.length (Nat.zero_le _) (by have:=(uh HCP).2;simp [maxLen];omega) (by simp [madeCells])
   rw [toList_madeCells_one] at h2
   exact own_setO h2 (p:=⟨S,3,none⟩) (by show some W3.heap.size≠some S;intro e;injection e with e;omega) _
  have hrb2:=own_setO (hrb.alloc (.cells (madeCells #[Value.slice none 0 0] nds.length) 255)) (p:=⟨S,3,none⟩) (by show some hB≠some S;intro e;injection e with e;omega) (.slice (some ⟨W3.heap.size,0,none⟩) nds.length nds.length)
  have HN:=hide (And.intro ((hbk.alloc (.cells (madeCells #[Value.slice none 0 0] nds.length) 255)).set 3 (.slice (some ⟨W3.heap.size,0,none⟩) nds.length nds.length)) (And.intro hrb2 (And.intro hrow (And.intro hsb (And.intro hBl ((hb.trans ((below_boxQ W3 (.cells (madeCells #[Value.slice none 0 0] nds.length) 255)).mono hb.size)).setCell (p:=⟨S,3,none⟩) hSw (.slice (some ⟨W3.heap.size,0,none⟩) nds.length nds.length)))))))
  clear hbk hrb hb hSl hrow hrb2 hW3 hH hBl hsb
  go_wp2_with fail
  go_meet
  exact ⟨_,HN⟩
 case rest =>
 obtain ⟨kB,hK⟩:=hcut
 clear hH
 go_upto_region 5 with fail
 go_cut [] (fun wx=>∃ wB,Hid (Bk wx S 229 (shC (.pointer (some ⟨Q,0,none⟩)) (.slice (some ⟨hB,0,none⟩) nds.length nds.length) false (.slice (some ⟨kB,0,none⟩) nds.length nds.length) (.slice (some ⟨wB,0,none⟩) nds.length nds.length) (!sb) 3000 2097152 false)∧wx.ownsRow 0 4 1 (.slice (some ⟨hB,0,none⟩) nds.length nds.length) nds.length (blC (List.replicate nds.length false))∧wx.ownsRow 0 255 1 (.slice (some ⟨kB,0,none⟩) nds.length nds.length) nds.length (List.replicate nds.length vNil)∧wx.ownsRow 0 200 1 (.slice (some ⟨wB,0,none⟩) nds.length nds.length) nds.length (List.replicate nds.length vNil)∧S < hB∧hB < kB∧kB < wB∧Below w.heap.size w wx))
 case first =>
  obtain ⟨hbk,hrb,hrk,hsb,hbk2,hb⟩:=uh hK
  obtain ⟨W3,hW3⟩:∃ W3,W3 = wc:=⟨_,rfl⟩
  rw [← hW3] at hbk hrb hrk hb ⊢
  have e1:=(hbk.alloc (.cells (madeCells #[Value.slice none 0 0] nds.length) 200)).cell 4 rfl
  have z1:=(hbk.alloc (.cells (madeCells #[Value.slice none 0 0] nds.length) 200)).frz 4
  have hSl:=hbk.lt
  have hBl:=(hrk.lt kB rfl).2
  have hrow:((W3.alloc (.cells (madeCells #[Value.slice none 0 0] nds.length) 200)).setCell ⟨S,4,none⟩ (.slice (some ⟨W3.heap.size,0,none⟩) nds.length nds.length)).ownsRow 0 200 1 (.slice (some ⟨W3.heap.size,0,none⟩) nds.length nds.length) nds.length (List.replicate nds.length vNil):=by
   have h2:=World.ownsRow_lit (base:=0) (e:=200) (size:=1) W3 (madeCells #[Value.slice none 0 0] nds.length) nds.length (Nat.zero_le _) (by have:=(uh HCP).2;simp [maxLen];omega) (by simp [madeCells])
   rw [toList_madeCells_one] at h2
   exact own_setO h2 (p:=⟨S,4,none⟩) (by show some W3.heap.size≠some S;intro e;injection e with e;omega) _
  have hrb2:=own_setO (hrb.alloc (.cells (madeCells #[Value.slice none 0 0] nds.length) 200)) (p:=⟨S,4,none⟩) (by show some hB≠some S;intro e;injection e with e;omega) (.slice (some ⟨W3.heap.size,0,none⟩) nds.length nds.length)
  have hrk2:=own_setO (hrk.alloc (.cells (madeCells #[Value.slice none 0 0] nds.length) 200)) (p:=⟨S,4,none⟩) (by show some kB≠some S;intro e;injection e with e;omega) (.slice (some ⟨W3.heap.size,0,none⟩) nds.length nds.length)
  have HN:=hide (And.intro ((hbk.alloc (.cells (madeCells #[Value.slice none 0 0] nds.length) 200)).set 4 (.slice (some ⟨W3.heap.size,0,none⟩) nds.length nds.length)) (And.intro hrb2 (And.intro hrk2 (And.intro hrow (And.intro hsb (And.intro hbk2 (And.intro hBl ((hb.trans ((below_boxQ W3 (.cells (madeCells #[Value.slice none 0 0] nds.length) 200)).mono hb.size)).setCell (p:=⟨S,4,none⟩) hSw (.slice (some ⟨W3.heap.size,0,none⟩) nds.length nds.length)))))))))
  clear hbk hrb hrk hb hSl hrow hrb2 hrk2 hW3 hK hBl hsb hbk2
  go_wp2_with fail
  go_meet
  exact ⟨_,HN⟩
 case rest =>
 obtain ⟨wB,hW⟩:=hcut
 clear hK
 have HI0:Hid (ShB w wc S (.pointer (some ⟨Q,0,none⟩)) (.slice (some ⟨hB,0,none⟩) nds.length nds.length) (.slice (some ⟨kB,0,none⟩) nds.length nds.length) (.slice (some ⟨wB,0,none⟩) nds.length nds.length) (List.replicate nds.length vNil) (lpK nds 0) (hdK nds 0) (!sb) nds.length 0∧∀ j,0≤j→(List.replicate nds.length vNil).getD j vNil = vNil):=hide (by
  obtain ⟨h1,h2,h3,h4,h5,h6,h7,h8⟩:=uh hW
  have hnil:∀ j,(List.replicate nds.length vNil).getD j vNil = vNil:=fun j=>by
   by_cases hj:j < nds.length
   ·simp [hj]
   ·rw [List.getD_eq_getElem?_getD,List.getElem?_eq_none (by rw [List.length_replicate];omega)];rfl
  have hol:∀ i k,(olS S (.slice (some ⟨hB,0,none⟩) nds.length nds.length) (.slice (some ⟨kB,0,none⟩) nds.length nds.length) (.slice (some ⟨wB,0,none⟩) nds.length nds.length) (List.replicate nds.length vNil) (List.replicate nds.length vNil))[i]? = some (some k)→i = 0∧k = S∨i = 1∧k = hB∨i = 2∧k = kB∨i = 3∧k = wB:=fun i k hi=>by
   rcases ol_in hi with ⟨a,b⟩ | ⟨a,e⟩ | ⟨a,e⟩ | ⟨a,e⟩ | ⟨j,hj,-,e⟩ | ⟨j,hj,-,e⟩
   ·exact Or.inl ⟨a,b⟩
   ·exact Or.inr (Or.inl ⟨a,by injection e with e;exact e.symm⟩)
   ·exact Or.inr (Or.inr (Or.inl ⟨a,by injection e with e;exact e.symm⟩))
   ·exact Or.inr (Or.inr (Or.inr ⟨a,by injection e with e;exact e.symm⟩))
   ·rw [hnil] at e;cases e
   ·rw [hnil] at e;cases e
  refine ⟨⟨h1,by unfold hdK;simp,h2,h3,h4,fun j hj=>by omega,fun i j k hi hj=>?_,h8,fun k hk=>?_⟩,fun j _=>hnil j⟩
  ·have a1:=hol i k hi
   have a2:=hol j k hj
   omega
  ·obtain ⟨i,hi⟩:=mem_fpt.1 hk
   have a1:=hol i k hi
   omega)
 clear hW
 go_wp2_with fail
 go_loopg [5] nds.length (fun gn iv wx=>∃ (k:Nat) (WV:List Value),k + gn = nds.length∧iv = .int .i64 k∧Hid (ShB w wx S (.pointer (some ⟨Q,0,none⟩)) (.slice (some ⟨hB,0,none⟩) nds.length nds.length) (.slice (some ⟨kB,0,none⟩) nds.length nds.length) (.slice (some ⟨wB,0,none⟩) nds.length nds.length) WV (lpK nds k) (hdK nds k) (!sb) nds.length k∧∀ j,k≤j→WV.getD j vNil = vNil))
 case atStart=>exact ⟨0,_,by omega,rfl,HI0⟩
 case round =>
  clear HI0
  obtain ⟨k,WV,hkn,rfl,hI⟩:=hrel
  obtain ⟨G1,hG1⟩:∃ G1,G1 = gk:=⟨_,rfl⟩
  by_cases hlt:k < nds.length
  ·have hd:decide ((k:Int) < (nds.length:Int)) = true:=by simp;omega
   obtain ⟨h1,h2⟩:=uh hI
   have d4:=h1.bs.cell 4 rfl
   have hbx:=below_boxQ wr (.cells (madeCells #[Value.bool false] 5) 4)
   have hrA:=h1.wr.alloc (.cells (madeCells #[Value.bool false] 5) 4)
   have e4:=(h1.bs.alloc (.cells (madeCells #[Value.bool false] 5) 4)).cell 4 rfl
   have hwl:=h1.wl
   have ck:=hrA.cellAt k (by omega)
   rw [List.getElem?_eq_getElem (by omega)] at ck
   have zk:=hrA.frozenAt k
   obtain ⟨h3,h4⟩:=h1.row hlt h2 (o:=.cells (madeCells #[Value.bool false] 5) 4) rfl (wB:=wB) (wC:=nds.length) rfl
   obtain ⟨W4,hW4⟩:∃ W4,W4 = (wr.alloc (.cells (madeCells #[Value.bool false] 5) 4)).setCell ⟨wB,k,none⟩ (.slice (some ⟨wr.heap.size,0,none⟩) 5 5):=⟨_,rfl⟩
   rw [← hW4] at h3
   have i1:(0:Int)≤(k:Int):=by omega
   have i2:(k:Int) < (nds.length:Int):=by omega
   have H3:=hide (And.intro h3 h4)
   clear h1 h2 hbx hrA h3 h4 hI
   go_upto_region 9 with fail
   go_cut [] (fun wx=>∃ WV',Hid (ShB w wx S (.pointer (some ⟨Q,0,none⟩)) (.slice (some ⟨hB,0,none⟩) nds.length nds.length) (.slice (some ⟨kB,0,none⟩) nds.length nds.length) (.slice (some ⟨wB,0,none⟩) nds.length nds.length) WV' (lpK nds k) (hdK nds k) (!sb) nds.length (k + 1)∧∀ j,k + 1≤j→WV'.getD j vNil = vNil))
   case first =>
    go_region
    all_goals
     go_wp2_with fail
     go_meet
     exact ⟨_,hide ⟨(uh H3).1.of_eq (by omega) (fun q _=>by rw [hW4];rfl) ⟨by have:=(uh H3).1.bl.os;rw [hW4] at this;exact this,by have:=(uh H3).1.bl.tape;rw [hW4] at this;exact this,by have:=(uh H3).1.bl.output;rw [hW4] at this;exact this,by have:=(uh H3).1.bl.size;rw [hW4] at this;exact this,by have:=(uh H3).1.bl.block;rw [hW4] at this;exact this⟩,(uh H3).2⟩⟩
   case rest =>
    clear H3 hW4 ck zk e4 d4 hwl
    obtain ⟨WV',hH⟩:=hcut
    obtain ⟨g,cap2,hgv,x0,x1,x2,x3,x4,x5,hgl⟩:=uh HND k hlt
    have hqc:=((uh hH).1.bl.cell hQl).trans c3
    simp only [Value.slice.injEq] at hgv
    obtain ⟨rfl,-,rfl⟩:=hgv
    have x0:=((uh hH).1.bl.cell hgl).trans x0
    have x1:=((uh hH).1.bl.cell hgl).trans x1
    have x2:=((uh hH).1.bl.cell hgl).trans x2
    have x3:=((uh hH).1.bl.cell hgl).trans x3
    have x4:=((uh hH).1.bl.cell hgl).trans x4
    have x5:=((uh hH).1.bl.cell hgl).trans x5
    have hbk:bkJ nds k = (decide (nds[k].op = 10) && decide (nds[k].nx < k)):=by unfold bkJ;rw [getD_at hlt]
    have hhs:=hdK_step nds k
    have hls:=lpK_step nds k
    rw [getD_at hlt] at hhs
    obtain ⟨nd,hnd⟩:∃ nd,nd = nds[k]:=⟨_,rfl⟩
    rw [← hnd] at x0 x1 x2 x3 x4 x5 hbk hhs
    obtain ⟨W5,hW5⟩:∃ W5,W5 = wc.alloc (.cells #[Value.int .i64 (nd.op:Int),.int .i64 (nd.v:Int),.int .i64 (nd.ak:Int),.int .i64 (nd.ai:Int),.int .i64 (nd.nx:Int),.int .i64 (nd.ot:Int)] 186):=⟨_,rfl⟩
    have hbx:Below wc.heap.size wc W5:=by rw [hW5];exact below_boxQ wc _
    have hXb:Bk W5 wc.heap.size 186 nd.cells:=by rw [hW5];exact Bk.new wc _ _
    obtain ⟨Y,hYe⟩:∃ Y,Y = wc.heap.size:=⟨_,rfl⟩
    rw [← hYe] at hXb
    have h5:=(uh hH).1.below (by omega) (uh hH).2 hbx
    have y0:=hXb.cell 0 rfl
    have y4:=hXb.cell 4 rfl
    have hYl:=hXb.lt
    have hYn:∀ q∈shF S (.slice (some ⟨hB,0,none⟩) nds.length nds.length) (.slice (some ⟨kB,0,none⟩) nds.length nds.length) (.slice (some ⟨wB,0,none⟩) nds.length nds.length) (List.replicate nds.length vNil) WV',q≠Y:=fun q hq e=>by have:=(uh hH).1.lt (uh hH).2 q hq;omega
    have H5:=hide (And.intro h5 (uh hH).2)
    have HBK:=hide hbk
    have HHS:=hide hhs
    have HLS:=hide hls
    have HYN:=hide hYn
    clear hbx hXb h5 hbk hhs hls hnd hYn hH
    go_upto_region 11 with fail
    rw [← hW5,← hYe]
    clear hW5 hYe x0 x1 x2 x3 x4 x5 hqc
    by_cases h10:nd.op = 10
    ·have d0:((nd.op:Int) == (10:Int)) = true:=by simp [h10]
     by_cases hb:nd.nx < k
     ·have d1:decide ((nd.nx:Int) < (k:Int)) = true:=by simp;omega
      have d1':decide (nd.nx < k) = true:=by simpa using hb
      have hbt:bkJ nds k = true:=by rw [uh HBK];simp [h10,hb]
      have hS2:=(uh H5).1.bs.cell 1 rfl
      have hhl:=(uh H5).1.hl
      have hcA:=(uh H5).1.hr.cellAt nd.nx (by omega)
      rw [blC_get (by omega)] at hcA
      have hzA:=(uh H5).1.hr.frozenAt nd.nx
      have h6:=(uh H5).1.head (by omega) (n:=nd.nx) (hB:=hB) (hC:=nds.length) rfl
      have H6:=hide h6
      have HBT:=hide hbt
      have m1:(0:Int)≤(nd.nx:Int):=by omega
      have m2:(nd.nx:Int) < (nds.length:Int):=by omega
      clear h6 hbt hhl h10 hb
      go_upto_region 12 with fail
      go_cut [] (fun wx=>Hid (ShB w wx S (.pointer (some ⟨Q,0,none⟩)) (.slice (some ⟨hB,0,none⟩) nds.length nds.length) (.slice (some ⟨kB,0,none⟩) nds.length nds.length) (.slice (some ⟨wB,0,none⟩) nds.length nds.length) WV' (lpK nds k) ((hdK nds k).set nd.nx true) (!sb) nds.length (k + 1)))
      case first =>
       go_region
       all_goals
        go_wp2_with fail
        go_meet
        exact hide ((uh H6).of_eq (by omega) (fun q _=>rfl) ⟨(uh H6).bl.os,(uh H6).bl.tape,(uh H6).bl.output,(uh H6).bl.size,(uh H6).bl.block⟩)
      case rest =>
       clear H6 y0 y4 hS2 hcA hzA
       have s2:=(uh hcut).bs.cell 2 rfl
       have s2z:=(uh hcut).bs.frz 2
       have HN:Hid (ShB w (wc.setCell ⟨S,2,none⟩ (.bool true)) S (.pointer (some ⟨Q,0,none⟩)) (.slice (some ⟨hB,0,none⟩) nds.length nds.length) (.slice (some ⟨kB,0,none⟩) nds.length nds.length) (.slice (some ⟨wB,0,none⟩) nds.length nds.length) WV' (lpK nds (k + 1)) (hdK nds (k + 1)) (!sb) nds.length (k + 1)∧∀ j,k + 1≤j→WV'.getD j vNil = vNil):=hide (by
        rw [uh HLS,uh HHS,uh HBT,if_pos rfl,Bool.or_true]
        exact ⟨(uh hcut).loop (by omega),(uh H5).2⟩)
       clear hcut
       go_wp2_with fail
       go_roundg (G1 - 1)
       case rel=>exact ⟨k + 1,_,by omega,by go_num,HN⟩
       case measure=>omega
     ·have d1:decide ((nd.nx:Int) < (k:Int)) = false:=by simp;omega
      have d1':decide (nd.nx < k) = false:=by simpa using hb
      have hbt:bkJ nds k = false:=by rw [uh HBK];simp [hb]
      have HN:Hid (ShB w W5 S (.pointer (some ⟨Q,0,none⟩)) (.slice (some ⟨hB,0,none⟩) nds.length nds.length) (.slice (some ⟨kB,0,none⟩) nds.length nds.length) (.slice (some ⟨wB,0,none⟩) nds.length nds.length) WV' (lpK nds (k + 1)) (hdK nds (k + 1)) (!sb) nds.length (k + 1)∧∀ j,k + 1≤j→WV'.getD j vNil = vNil):=hide (by
       rw [uh HLS,uh HHS,hbt,if_neg (by decide),Bool.or_false]
       exact uh H5)
      clear hbt h10 hb
      go_wp2_with fail
      go_roundg (G1 - 1)
      case rel=>exact ⟨k + 1,_,by omega,by go_num,HN⟩
      case measure=>omega
    ·have d0:((nd.op:Int) == (10:Int)) = false:=by simp;omega
     have hbt:bkJ nds k = false:=by rw [uh HBK];simp [h10]
     have HN:Hid (ShB w W5 S (.pointer (some ⟨Q,0,none⟩)) (.slice (some ⟨hB,0,none⟩) nds.length nds.length) (.slice (some ⟨kB,0,none⟩) nds.length nds.length) (.slice (some ⟨wB,0,none⟩) nds.length nds.length) WV' (lpK nds (k + 1)) (hdK nds (k + 1)) (!sb) nds.length (k + 1)∧∀ j,k + 1≤j→WV'.getD j vNil = vNil):=hide (by
      rw [uh HLS,uh HHS,hbt,if_neg (by decide),Bool.or_false]
      exact uh H5)
     clear hbt h10
     go_wp2_with fail
     go_roundg (G1 - 1)
     case rel=>exact ⟨k + 1,_,by omega,by go_num,HN⟩
     case measure=>omega
  ·have hd:decide ((k:Int) < (nds.length:Int)) = false:=by simp;omega
   have hkl:k = nds.length:=by omega
   have HP:Hid (POST S wr):=hide (by
    rw [uh HPOST]
    obtain ⟨h1,h2⟩:=uh hI
    rw [hkl,uh HSB] at h1
    exact ⟨_,_,_,WV,h1.sh,h1.bl,h1.ge⟩)
   clear hkl hI
   go_wp2_with fail
   go_ret
   exact ⟨S,rfl,uh HP⟩
end
end Go.Proofs.YtciihepbeacppaaGreat
