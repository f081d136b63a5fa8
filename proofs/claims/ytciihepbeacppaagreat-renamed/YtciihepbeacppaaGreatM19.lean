import Derived.Test.YtciihepbeacppaaGreatM18
import Derived.Test.YtciihepbeacppaaGreatM10
namespace Go.Proofs.YtciihepbeacppaaGreat
open Go.RowKit
set_option linter.unusedVariables false
def eqK (f:CF) (i k:Nat):Nat:=((List.range' k (i + 1 - k)).find? (fun j=>f.cl.getD j 0 == f.cl.getD i 0)).getD 0
theorem eqK_step {f:CF} {i k:Nat} (hk:k≤i):eqK f i k = if f.cl.getD k 0 = f.cl.getD i 0 then k else eqK f i (k + 1):=by
 unfold eqK
 rw [show i + 1 - k = (i + 1 - (k + 1)) + 1 by omega,List.range'_succ,List.find?_cons]
 by_cases h:f.cl.getD k 0 = f.cl.getD i 0
 ·rw [if_pos h];simp only [beq_iff_eq.2 h];rfl
 ·rw [if_neg h]
  have:(f.cl.getD k 0 == f.cl.getD i 0) = false:=by simpa using h
  rw [this]
theorem eqK_zero (f:CF) (i:Nat):eqK f i 0 = eqD f i:=by unfold eqK eqD;rw [Nat.sub_zero,List.range_eq_range']
theorem eqK_top (f:CF) (i:Nat):eqK f i (i + 1) = 0:=by unfold eqK;simp
theorem eqD_lt (f:CF) {i:Nat} (hi:i < 5):eqD f i < 5:=by
 unfold eqD
 cases h:(List.range (i + 1)).find? (fun k=>f.cl.getD k 0 == f.cl.getD i 0) with
 | none=>decide
 | some j =>
  have:=List.mem_of_find?_eq_some h
  rw [List.mem_range] at this
  simp only [Option.getD_some]
  omega
def natV (l:List Nat):List Value:=l.map (fun n=>Value.int .i64 (n:Nat))
def drC (A:Nat) (es bs:List Nat) (pt li:Nat):List Value:=ptr A :: (natV es ++ (natV bs ++ [.int .i64 (pt:Nat),.int .i64 (li:Nat)]))
def esK (f:CF) (k:Nat):List Nat:=(List.range 5).map (fun j=>if j < k then eqD f j else 0)
def bsK (f:CF) (k:Nat):List Nat:=(List.range 5).map (fun j=>if j < k then bgD f j else 0)
theorem esK_len (f:CF) (k:Nat):(esK f k).length = 5:=by simp [esK]
theorem bsK_len (f:CF) (k:Nat):(bsK f k).length = 5:=by simp [bsK]
theorem esK_set (f:CF) {k:Nat} (hk:k < 5):(esK f k).set k (eqD f k) = esK f (k + 1):=by
 have:k = 0∨k = 1∨k = 2∨k = 3∨k = 4:=by omega
 rcases this with rfl | rfl | rfl | rfl | rfl <;> rfl
theorem bsK_set (f:CF) {k:Nat} (hk:k < 5):(bsK f k).set k (bgD f k) = bsK f (k + 1):=by
 have:k = 0∨k = 1∨k = 2∨k = 3∨k = 4:=by omega
 rcases this with rfl | rfl | rfl | rfl | rfl <;> rfl
theorem esK_get (f:CF) {k:Nat} (hk:k < 5):(esK f k).set k 0 = esK f k:=by
 have:k = 0∨k = 1∨k = 2∨k = 3∨k = 4:=by omega
 rcases this with rfl | rfl | rfl | rfl | rfl <;> rfl
theorem bsK_get (f:CF) {k:Nat} (hk:k < 5):(bsK f k).set k 0 = bsK f k:=by
 have:k = 0∨k = 1∨k = 2∨k = 3∨k = 4:=by omega
 rcases this with rfl | rfl | rfl | rfl | rfl <;> rfl
theorem drC_e {A i n:Nat} {es bs:List Nat} {pt li:Nat} (he:es.length = 5) (hi:i < 5):(drC A es bs pt li).set (1 + i) (.int .i64 (n:Nat)) = drC A (es.set i n) bs pt li:=by
 unfold drC natV
 rw [Nat.add_comm,List.set_cons_succ,List.set_append_left _ _ (by simpa using by omega),List.map_set]
theorem drC_b {A i n:Nat} {es bs:List Nat} {pt li:Nat} (he:es.length = 5) (hb:bs.length = 5) (hi:i < 5):(drC A es bs pt li).set (6 + i) (.int .i64 (n:Nat)) = drC A es (bs.set i n) pt li:=by
 unfold drC natV
 rw [show 6 + i = (5 + i) + 1 by omega,List.set_cons_succ,List.set_append_right _ _ (by simp;omega),List.set_append_left _ _ (by simp;omega),List.map_set]
 simp [he]
theorem drC_pt {A n:Nat} {es bs:List Nat} {pt li:Nat} (he:es.length = 5) (hb:bs.length = 5):(drC A es bs pt li).set 11 (.int .i64 (n:Nat)) = drC A es bs n li∧(drC A es bs pt li)[11]? = some (.int .i64 (pt:Nat)):=by
 match es,he,bs,hb with
 | [a,b,c,d,e],_,[a',b',c',d',e'],_=>exact ⟨rfl,rfl⟩
theorem drC_li {A n:Nat} {es bs:List Nat} {pt li:Nat} (he:es.length = 5) (hb:bs.length = 5):(drC A es bs pt li).set 12 (.int .i64 (n:Nat)) = drC A es bs pt n∧(drC A es bs pt li)[12]? = some (.int .i64 (li:Nat)):=by
 match es,he,bs,hb with
 | [a,b,c,d,e],_,[a',b',c',d',e'],_=>exact ⟨rfl,rfl⟩
theorem drC_at {A i:Nat} {es bs:List Nat} {pt li:Nat} (he:es.length = 5) (hb:bs.length = 5) (hi:i < 5):(drC A es bs pt li)[1 + i]? = some (.int .i64 ((es.getD i 0:Nat):Int))∧(drC A es bs pt li)[6 + i]? = some (.int .i64 ((bs.getD i 0:Nat):Int)):=by
 match es,he,bs,hb with
 | [a,b,c,d,e],_,[a',b',c',d',e'],_ =>
  have:i = 0∨i = 1∨i = 2∨i = 3∨i = 4:=by omega
  rcases this with rfl | rfl | rfl | rfl | rfl <;> exact ⟨rfl,rfl⟩
structure IsD (w:World) (D A:Nat) (f:CF) (av ov:Value):Prop where
 bk:Bk w D 260 (drC A (esK f 5) (bsK f 5) (ptD f) (liD f))
 ff:IsF w A f av ov
section
variable {w:World} {A:Nat} {f:CF} {av ov:Value}
set_option maxRecDepth 100000 in
set_option maxHeartbeats 8000000 in
theorem draw_any (h:IsF w A f av ov) (hO:FoOk f):Calls Tryz.prog 229 #[.pointer (some ⟨A,0,none⟩)] w fun e w'=>∃ D,e = .returned (.pointer (some ⟨D,0,none⟩))∧IsD w' D A f av ov∧w.heap.size≤D∧Below w.heap.size w w':=by
 have hol:=hO.owLen
 obtain ⟨W1,hW1⟩:∃ W1,W1 = w.alloc (.cells #[ptr A,.int .i64 0,.int .i64 0,.int .i64 0,.int .i64 0,.int .i64 0,.int .i64 0,.int .i64 0,.int .i64 0,.int .i64 0,.int .i64 0,.int .i64 0,.int .i64 0] 260):=⟨_,rfl⟩
 have hb1:Below w.heap.size w W1:=by rw [hW1];exact below_boxQ w _
 have hD:Bk W1 w.heap.size 260 (drC A (esK f 0) (bsK f 0) 0 0):=by rw [hW1];exact Bk.new w _ _
 obtain ⟨D,hDe⟩:∃ D,D = w.heap.size:=⟨_,rfl⟩
 rw [← hDe] at hD
 have HI0:=hide (And.intro hD hb1)
 have H:=hide h
 have HO:=hide hO
 have HDe:=hide hDe
 have hAl:∀ k∈bsF A av ov,k≠D:=fun k hk=>by have:=h.lt k hk;omega
 have HAl:=hide hAl
 clear h hO hD hb1 hAl
 unfold ptr at hW1
 go_enter Tryz.func229,Tryz.ntmps229
 go_upto_region 2 with fail
 rw [← hW1,← hDe]
 clear hW1 hDe
 go_wp2_with fail
 go_loopg [4] 5 (fun gn iv wx=>∃ (k:Nat),k + gn = 5∧iv = .int .i64 k∧Hid (Bk wx D 260 (drC A (esK f k) (bsK f k) 0 0)∧Below w.heap.size w wx))
 case atStart=>exact ⟨0,by omega,rfl,HI0⟩
 case round =>
  clear HI0
  obtain ⟨k,hkn,rfl,hI⟩:=hrel
  obtain ⟨G,hG⟩:∃ G,G = gk:=⟨_,rfl⟩
  by_cases hlt:k < 5
  ·have hd:decide ((k:Int) < (5:Int)) = true:=by simp;omega
   have HJ0:Hid (Bk wr D 260 (drC A ((esK f k).set k (eqK f k (k + 1))) (bsK f k) 0 0)∧Below w.heap.size w wr):=hide ⟨by rw [eqK_top,esK_get f hlt];exact (uh hI).1,(uh hI).2⟩
   have i1:(0:Int)≤(k:Int):=by omega
   have i2:(k:Int) < (5:Int):=by omega
   clear hI
   go_wp2_with fail
   go_loopg [5] (k + 1) (fun gn jv wx=>∃ (z:Int),z + 1 = (gn:Int)∧gn≤k + 1∧jv = .int .i64 z∧Hid (Bk wx D 260 (drC A ((esK f k).set k (eqK f k gn)) (bsK f k) 0 0)∧Below w.heap.size w wx))
   case atStart=>exact ⟨(k:Int),by omega,Nat.le_refl _,rfl,HJ0⟩
   case round =>
    clear HJ0
    obtain ⟨z,hz,hgk,rfl,hJ⟩:=hrel
    have hF:=(uh H).below (uh hJ).2
    cases gk with
    | zero =>
     have hz1:z = -1:=by omega
     subst hz1
     have hE:=(uh hJ).1
     rw [eqK_zero,esK_set f hlt] at hE
     have hbs:=bsK_get f hlt
     have xk:=hF.cls (i:=k) (by omega)
     unfold clV at xk
     have hbg:bgD f k = match bgn f.ow (f.cl.getD k 0) with | some j=>(owA f j).k | none=>0:=rfl
     obtain ⟨ck,hck⟩:∃ c,c = f.cl.getD k 0:=⟨_,rfl⟩
     rw [← hck] at xk hbg
     have HBG:=hide (begins_any ck hF)
     have hg:=opI_ge (bgn f.ow ck)
     have hbk:=hE
     have hset:=bsK_set f hlt
     have hge:w.heap.size≤D:=by rw [uh HDe];exact Nat.le_refl _
     have d0:decide ((0:Int)≤-1) = false:=by decide
     cases hb:bgn f.ow ck with
     | none =>
      rw [hb] at HBG hg hbg
      have hb0:bgD f k = 0:=hbg
      rw [hb0,hbs] at hset
      have HN:Hid (Bk wr D 260 (drC A (esK f (k + 1)) (bsK f (k + 1)) 0 0)∧Below w.heap.size w wr):=hide ⟨by rw [← hset];exact hE,(uh hJ).2⟩
      clear hF hE hbs hbg hck hbk hset hge hb hb0 hJ
      go_wp2_with fail
      refine (uh HBG).mono ?_
      rintro e w3 ⟨rfl,rfl⟩
      go_wp2_with fail
      go_roundg (G - 1)
      case rel=>exact ⟨k + 1,by omega,by go_num,HN⟩
      case measure=>omega
     | some j =>
      rw [hb] at HBG hg hbg
      have hb0:bgD f k = (owA f j).k:=hbg
      obtain ⟨hjl,-⟩:=bgn_lt hb
      have c6:=hF.c6
      obtain ⟨oa,oc,hov,-,-⟩:=own_slc hF.ow
      subst hov
      obtain ⟨go,gc,hgo,-,-⟩:=own_formP hF.ow hjl
      simp only [Value.slice.injEq,true_and] at hgo
      obtain ⟨rfl,rfl⟩:=hgo
      obtain ⟨y0,-,-⟩:=own_cells hF.ow hjl
      obtain ⟨kd,hkd⟩:∃ kd,kd = (f.ow.getD j pr0).k:=⟨_,rfl⟩
      rw [← hkd] at y0
      have hb0':bgD f k = kd:=by rw [hb0,hkd];rfl
      rw [hb0'] at hset
      have hs2:=hE.set (6 + k) (.int .i64 (kd:Nat))
      rw [drC_b (esK_len f (k + 1)) (bsK_len f k) hlt,hset] at hs2
      have y:=hE.cell (6 + k) (drC_at (esK_len f (k + 1)) (bsK_len f k) hlt).2
      have zf:=hE.frz (6 + k)
      have HN:Hid (Bk (wr.setCell ⟨D,6 + k,none⟩ (.int .i64 (kd:Int))) D 260 (drC A (esK f (k + 1)) (bsK f (k + 1)) 0 0)∧Below w.heap.size w (wr.setCell ⟨D,6 + k,none⟩ (.int .i64 (kd:Int)))):=hide ⟨hs2,(uh hJ).2.setCell (p:=⟨D,6 + k,none⟩) hge _⟩
      rw [show opI (some j) = (j:Int) from rfl] at HBG hg
      have k1:(0:Int)≤(j:Int):=by omega
      have k2:(j:Int) < (f.ow.length:Int):=by omega
      clear hF hE hbs hbg hck hbk hset hge hb hb0 hb0' hkd hs2 hJ
      go_wp2_with fail
      refine (uh HBG).mono ?_
      rintro e w3 ⟨rfl,rfl⟩
      go_wp2_with fail
      go_region
      go_wp2_with fail
      go_roundg (G - 1)
      case rel=>exact ⟨k + 1,by omega,by go_num,hide ⟨(uh HN).1.of_eq rfl,⟨(uh HN).2.os,(uh HN).2.tape,(uh HN).2.output,(uh HN).2.size,(uh HN).2.block⟩⟩⟩
      case measure=>omega
    | succ m =>
     have hzm:z = (m:Int):=by omega
     subst hzm
     have d0:decide ((0:Int)≤(m:Int)) = true:=by simp
     have xm:=hF.cls (i:=m) (by omega)
     have xk:=hF.cls (i:=k) (by omega)
     unfold clV at xm xk
     have hst:=eqK_step (f:=f) (i:=k) (k:=m) (by omega)
     obtain ⟨cm,hcm⟩:∃ c,c = f.cl.getD m 0:=⟨_,rfl⟩
     obtain ⟨ck,hck⟩:∃ c,c = f.cl.getD k 0:=⟨_,rfl⟩
     rw [← hcm] at xm hst
     rw [← hck] at xk hst
     have k1:(0:Int)≤(m:Int):=by omega
     have k2:(m:Int) < 5:=by omega
     have hq0:IntKind.i64.wrap ((m:Int) - 1) = (m:Int) - 1:=by rw [IntKind.wrap_i64];omega
     by_cases hcc:cm = ck
     ·have d1:((cm:Int) == (ck:Int)) = true:=by simp [hcc]
      rw [if_pos hcc] at hst
      have hb2:=(uh hJ).1.set (1 + k) (.int .i64 (m:Nat))
      rw [drC_e (by rw [List.length_set,esK_len]) hlt,List.set_set] at hb2
      have y:=(uh hJ).1.cell (1 + k) (drC_at (by rw [List.length_set,esK_len]) (bsK_len f k) hlt).1
      have zf:=(uh hJ).1.frz (1 + k)
      have hge:w.heap.size≤D:=by rw [uh HDe];exact Nat.le_refl _
      have HN:Hid (Bk (wr.setCell ⟨D,1 + k,none⟩ (.int .i64 (m:Int))) D 260 (drC A ((esK f k).set k (eqK f k m)) (bsK f k) 0 0)∧Below w.heap.size w (wr.setCell ⟨D,1 + k,none⟩ (.int .i64 (m:Int)))):=hide ⟨by rw [hst];exact hb2,(uh hJ).2.setCell (p:=⟨D,1 + k,none⟩) hge _⟩
      clear hF hst hcm hck hcc hb2 hge hJ
      go_wp2_with fail
      go_quiet (fail)
      go_wp2_with fail
      go_roundg m
      case rel=>exact ⟨(m:Int) - 1,by omega,by omega,by go_num,hide ⟨(uh HN).1.of_eq rfl,⟨(uh HN).2.os,(uh HN).2.tape,(uh HN).2.output,(uh HN).2.size,(uh HN).2.block⟩⟩⟩
      case measure=>omega
     ·have d1:((cm:Int) == (ck:Int)) = false:=by simp;omega
      rw [if_neg hcc] at hst
      have HN:Hid (Bk wr D 260 (drC A ((esK f k).set k (eqK f k m)) (bsK f k) 0 0)∧Below w.heap.size w wr):=hide ⟨by rw [hst];exact (uh hJ).1,(uh hJ).2⟩
      clear hF hst hcm hck hcc hJ
      go_wp2_with fail
      go_quiet (fail)
      go_wp2_with fail
      go_roundg m
      case rel=>exact ⟨(m:Int) - 1,by omega,by omega,by go_num,hide ⟨(uh HN).1.of_eq rfl,⟨(uh HN).2.os,(uh HN).2.tape,(uh HN).2.output,(uh HN).2.size,(uh HN).2.block⟩⟩⟩
      case measure=>omega
  ·have hd:decide ((k:Int) < (5:Int)) = false:=by simp;omega
   have hk5:k = 5:=by omega
   subst hk5
   rw [show ((5:Nat):Int) = (5:Int) from rfl]
   have hF:=(uh H).below (uh hI).2
   have c6:=hF.c6
   obtain ⟨oa,oc,hov,-,-⟩:=own_slc hF.ow
   subst hov
   have HL0:Hid (Bk wr D 260 (drC A (esK f 5) (bsK f 5) ((f.ow.take 0).countP (fun p=>decide (p.k = 3))) ((f.ow.take 0).countP (fun p=>!decide (p.k = 3))))∧Below w.heap.size w wr):=hide ⟨(uh hI).1,(uh hI).2⟩
   clear hF hI
   go_wp2_with fail
   go_loopg [68] f.ow.length (fun gn iv wx=>∃ (m:Nat),m + gn = f.ow.length∧iv = .int .i64 m∧Hid (Bk wx D 260 (drC A (esK f 5) (bsK f 5) ((f.ow.take m).countP (fun p=>decide (p.k = 3))) ((f.ow.take m).countP (fun p=>!decide (p.k = 3))))∧Below w.heap.size w wx))
   case atStart=>exact ⟨0,by omega,rfl,HL0⟩
   case round =>
    clear HL0 c6
    obtain ⟨m,hmn,rfl,hI⟩:=hrel
    obtain ⟨G2,hG2⟩:∃ G2,G2 = gk:=⟨_,rfl⟩
    have hF:=(uh H).below (uh hI).2
    by_cases hml:m < f.ow.length
    ·have hd2:decide ((m:Int) < (f.ow.length:Int)) = true:=by simp;omega
     obtain ⟨go,gc,hgo,-,-⟩:=own_formP hF.ow hml
     simp only [Value.slice.injEq,true_and] at hgo
     obtain ⟨rfl,rfl⟩:=hgo
     obtain ⟨y0,y1,y2⟩:=own_cells hF.ow hml
     have hc1:(f.ow.take (m + 1)).countP (fun p=>decide (p.k = 3)) = (f.ow.take m).countP (fun p=>decide (p.k = 3)) + (if (f.ow.getD m pr0).k = 3 then 1 else 0):=by
      rw [List.take_add_one,List.getElem?_eq_getElem hml,List.countP_append,getD_eq hml]
      by_cases e:f.ow[m].k = 3 <;> simp [e]
     have hc2:(f.ow.take (m + 1)).countP (fun p=>!decide (p.k = 3)) = (f.ow.take m).countP (fun p=>!decide (p.k = 3)) + (if (f.ow.getD m pr0).k = 3 then 0 else 1):=by
      rw [List.take_add_one,List.getElem?_eq_getElem hml,List.countP_append,getD_eq hml]
      by_cases e:f.ow[m].k = 3 <;> simp [e]
     have hp1:(f.ow.take m).countP (fun p=>decide (p.k = 3))≤24:=Nat.le_trans List.countP_le_length (by rw [List.length_take];omega)
     have hp2:(f.ow.take m).countP (fun p=>!decide (p.k = 3))≤24:=Nat.le_trans List.countP_le_length (by rw [List.length_take];omega)
     obtain ⟨p,hp⟩:∃ p,p = f.ow.getD m pr0:=⟨_,rfl⟩
     rw [← hp] at y0 y1 y2 hc1 hc2
     obtain ⟨np,hnp⟩:∃ np,np = (f.ow.take m).countP (fun p=>decide (p.k = 3)):=⟨_,rfl⟩
     obtain ⟨nl,hnl⟩:∃ nl,nl = (f.ow.take m).countP (fun p=>!decide (p.k = 3)):=⟨_,rfl⟩
     rw [← hnp] at hI hc1 hp1
     rw [← hnl] at hI hc2 hp2
     obtain ⟨W1,hW1⟩:∃ W1,W1 = wr.alloc (.cells #[Value.int .i64 p.k,.int .i64 p.l,.int .i64 p.r] 182):=⟨_,rfl⟩
     have hbx:Below wr.heap.size wr W1:=by rw [hW1];exact below_boxQ wr _
     have hXb:Bk W1 wr.heap.size 182 [Value.int .i64 p.k,.int .i64 p.l,.int .i64 p.r]:=by rw [hW1];exact Bk.new wr _ _
     obtain ⟨X,hXe⟩:∃ X,X = wr.heap.size:=⟨_,rfl⟩
     rw [← hXe] at hXb
     have b0:=hXb.cell 0 rfl
     have hD1:=(uh hI).1.below hbx
     have hB1:=(uh hI).2.trans (hbx.mono (uh hI).2.size)
     have e11:=hD1.cell 11 (drC_pt (n:=0) (esK_len f 5) (bsK_len f 5)).2
     have e12:=hD1.cell 12 (drC_li (n:=0) (esK_len f 5) (bsK_len f 5)).2
     have z11:=hD1.frz 11
     have z12:=hD1.frz 12
     have hge:w.heap.size≤D:=by rw [uh HDe];exact Nat.le_refl _
     have k1:(0:Int)≤(m:Int):=by omega
     have k2:(m:Int) < (f.ow.length:Int):=by omega
     by_cases hk3:p.k = 3
     ·have d3:((p.k:Int) == 3) = true:=by simp [hk3]
      rw [if_pos hk3] at hc1 hc2
      have hs:=hD1.set 11 (.int .i64 ((np + 1:Nat):Int))
      rw [(drC_pt (esK_len f 5) (bsK_len f 5)).1] at hs
      rw [show ((np + 1:Nat):Int) = (np:Int) + 1 by omega] at hs
      have HN:Hid (Bk (W1.setCell ⟨D,11,none⟩ (.int .i64 ((np:Int) + 1))) D 260 (drC A (esK f 5) (bsK f 5) ((f.ow.take (m + 1)).countP (fun p=>decide (p.k = 3))) ((f.ow.take (m + 1)).countP (fun p=>!decide (p.k = 3))))∧Below w.heap.size w (W1.setCell ⟨D,11,none⟩ (.int .i64 ((np:Int) + 1)))):=hide ⟨by rw [hc1,hc2];exact hs,hB1.setCell (p:=⟨D,11,none⟩) hge _⟩
      clear hF hI hc1 hc2 hp hnp hnl hbx hXb hD1 hB1 hs hge hk3
      go_upto_region 16 with fail
      rw [← hW1,← hXe]
      clear hW1 hXe
      go_wp2_with fail
      go_roundg (G2 - 1)
      case rel=>exact ⟨m + 1,by omega,by go_num,HN⟩
      case measure=>omega
     ·have d3:((p.k:Int) == 3) = false:=by simp;omega
      rw [if_neg hk3] at hc1 hc2
      have hs:=hD1.set 12 (.int .i64 ((nl + 1:Nat):Int))
      rw [(drC_li (esK_len f 5) (bsK_len f 5)).1] at hs
      rw [show ((nl + 1:Nat):Int) = (nl:Int) + 1 by omega] at hs
      have HN:Hid (Bk (W1.setCell ⟨D,12,none⟩ (.int .i64 ((nl:Int) + 1))) D 260 (drC A (esK f 5) (bsK f 5) ((f.ow.take (m + 1)).countP (fun p=>decide (p.k = 3))) ((f.ow.take (m + 1)).countP (fun p=>!decide (p.k = 3))))∧Below w.heap.size w (W1.setCell ⟨D,12,none⟩ (.int .i64 ((nl:Int) + 1)))):=hide ⟨by rw [hc1,hc2];exact hs,hB1.setCell (p:=⟨D,12,none⟩) hge _⟩
      clear hF hI hc1 hc2 hp hnp hnl hbx hXb hD1 hB1 hs hge hk3
      go_upto_region 16 with fail
      rw [← hW1,← hXe]
      clear hW1 hXe
      go_wp2_with fail
      go_roundg (G2 - 1)
      case rel=>exact ⟨m + 1,by omega,by go_num,HN⟩
      case measure=>omega
    ·have hd2:decide ((m:Int) < (f.ow.length:Int)) = false:=by simp;omega
     have hte:f.ow.take m = f.ow:=List.take_of_length_le (by omega)
     rw [hte] at hI
     have HN:=hide (And.intro (uh hI).1 hF)
     clear hF hte
     go_wp2_with fail
     go_ret
     exact ⟨D,rfl,⟨(uh HN).1,(uh HN).2⟩,by rw [uh HDe];exact Nat.le_refl _,(uh hI).2⟩
end
theorem ptD_le {f:CF} (h:FoOk f):ptD f≤24:=Nat.le_trans List.countP_le_length h.owLen
theorem liD_le {f:CF} (h:FoOk f):liD f≤24:=Nat.le_trans List.countP_le_length h.owLen
section
variable {w:World} {D A D' A':Nat} {s t:CF} {av ov av' ov':Value}
theorem IsD.pt (h:IsD w D A s av ov):w.cell? ⟨D,11,none⟩ = some (.int .i64 (ptD s:Nat)):=h.bk.cell 11 (drC_pt (n:=0) (esK_len s 5) (bsK_len s 5)).2
theorem IsD.li (h:IsD w D A s av ov):w.cell? ⟨D,12,none⟩ = some (.int .i64 (liD s:Nat)):=h.bk.cell 12 (drC_li (n:=0) (esK_len s 5) (bsK_len s 5)).2
theorem esK5 (f:CF) {i:Nat} (hi:i < 5):(esK f 5).getD i 0 = eqD f i∧(bsK f 5).getD i 0 = bgD f i:=by
 have:i = 0∨i = 1∨i = 2∨i = 3∨i = 4:=by omega
 rcases this with rfl | rfl | rfl | rfl | rfl <;> exact ⟨rfl,rfl⟩
theorem IsD.eq (h:IsD w D A s av ov) {i:Nat} (hi:i < 5):w.cell? ⟨D,1 + i,none⟩ = some (.int .i64 (eqD s i:Nat)):=by
 have:=h.bk.cell (1 + i) (drC_at (esK_len s 5) (bsK_len s 5) hi).1
 rwa [(esK5 s hi).1] at this
theorem IsD.bg (h:IsD w D A s av ov) {i:Nat} (hi:i < 5):w.cell? ⟨D,6 + i,none⟩ = some (.int .i64 (bgD s i:Nat)):=by
 have:=h.bk.cell (6 + i) (drC_at (esK_len s 5) (bsK_len s 5) hi).2
 rwa [(esK5 s hi).2] at this
theorem IsD.fo (h:IsD w D A s av ov):w.cell? ⟨D,0,none⟩ = some (.pointer (some ⟨A,0,none⟩)):=h.bk.cell 0 rfl
theorem IsD.of_eq {w':World} (h:IsD w D A s av ov) (he:∀ k∈D :: bsF A av ov,w'.heap[k]? = w.heap[k]?):IsD w' D A s av ov:=⟨h.bk.of_eq (he D (by simp)),h.ff.of_eq (fun k hk=>he k (List.mem_cons_of_mem _ hk))⟩
theorem IsD.lt (h:IsD w D A s av ov):∀ k∈D :: bsF A av ov,k < w.heap.size:=fun k hk=>by
 rcases List.mem_cons.1 hk with rfl | hk
 ·exact h.bk.lt
 ·exact h.ff.lt k hk
theorem IsD.below {w':World} (h:IsD w D A s av ov) (hb:Below w.heap.size w w'):IsD w' D A s av ov:=h.of_eq (fun k hk=>hb.block k (h.lt k hk))
set_option maxRecDepth 100000 in
set_option maxHeartbeats 4000000 in
theorem hasRoom_any (h:IsD w D A s av ov) (h':IsD w D' A' t av' ov') (hO:FoOk s) (hO':FoOk t):Calls Tryz.prog 252 #[.pointer (some ⟨D,0,none⟩),.pointer (some ⟨D',0,none⟩)] w fun e w'=>e = .returned (.bool (roB s t))∧∃ n,w' = w.drewN n:=by
 have x1:=h.pt
 have x2:=h.li
 have y1:=h'.pt
 have y2:=h'.li
 have l1:=ptD_le hO
 have l2:=liD_le hO
 have l3:=ptD_le hO'
 have l4:=liD_le hO'
 obtain ⟨R,hR⟩:∃ R,R = roB s t:=⟨_,rfl⟩
 rw [← hR]
 unfold roB at hR
 obtain ⟨a,ha⟩:∃ a,a = ptD s:=⟨_,rfl⟩
 obtain ⟨b,hb⟩:∃ b,b = liD s:=⟨_,rfl⟩
 obtain ⟨c,hc⟩:∃ c,c = ptD t:=⟨_,rfl⟩
 obtain ⟨d,hd⟩:∃ d,d = liD t:=⟨_,rfl⟩
 rw [← ha] at x1 l1 hR
 rw [← hb] at x2 l2 hR
 rw [← hc] at y1 l3 hR
 rw [← hd] at y2 l4 hR
 have q1:IntKind.i64.wrap ((c:Int) + (d:Int)) = (c:Int) + (d:Int):=by rw [IntKind.wrap_i64];omega
 have q2:IntKind.i64.wrap ((a:Int) + (b:Int)) = (a:Int) + (b:Int):=by rw [IntKind.wrap_i64];omega
 have HR:=hide hR
 clear h h' hO hO' ha hb hc hd hR
 by_cases c1:a < c
 ·have d1:decide ((a:Int) < (c:Int)) = true:=by simp;omega
  have n1:decide (a < c) = true:=by simpa using c1
  have HE:Hid (R = false):=hide (by rw [uh HR];simp [c1])
  clear c1
  go_enter Tryz.func252,Tryz.ntmps252
  go_upto_region 1 with fail
  go_quiet (fail)
  go_wp2_with fail
  go_ret
  exact ⟨ret_bool (uh HE).symm,_,rfl⟩
 ·have d1:decide ((a:Int) < (c:Int)) = false:=by simp;omega
  have n1:decide (a < c) = false:=by simpa using c1
  by_cases c2:a + b < c + d
  ·have d2:decide ((a:Int) + (b:Int) < (c:Int) + (d:Int)) = true:=by simp;omega
   have n2:decide (a + b < c + d) = true:=by simpa using c2
   have HE:Hid (R = false):=hide (by rw [uh HR];simp [c2])
   clear c1 c2
   go_enter Tryz.func252,Tryz.ntmps252
   go_upto_region 1 with fail
   go_quiet (fail)
   go_wp2_with fail
   go_ret
   exact ⟨ret_bool (uh HE).symm,_,rfl⟩
  ·have d2:decide ((a:Int) + (b:Int) < (c:Int) + (d:Int)) = false:=by simp;omega
   have n2:decide (a + b < c + d) = false:=by simpa using c2
   have HR2:Hid (R = (decide (0 < d) || (decide (b = 0) && decide (a = c)))):=hide (by rw [uh HR];simp [c1,c2])
   clear c1 c2
   by_cases c3:0 < d
   ·have d3:decide ((0:Int) < (d:Int)) = true:=by simp;omega
    have n3:decide (0 < d) = true:=by simpa using c3
    have HE:Hid (R = true):=hide (by rw [uh HR2];simp [c3])
    clear c3
    go_enter Tryz.func252,Tryz.ntmps252
    go_upto_region 1 with fail
    go_quiet (fail)
    go_wp2_with fail
    go_quiet (fail)
    go_wp2_with fail
    go_ret
    exact ⟨ret_bool (uh HE).symm,_,World.drewN_drewN _ _ _⟩
   ·have d3:decide ((0:Int) < (d:Int)) = false:=by simp;omega
    have n3:decide (0 < d) = false:=by simpa using c3
    by_cases c4:b = 0
    ·have d4:((b:Int) == 0) = true:=by simp [c4]
     have HE:Hid (R = ((a:Int) == (c:Int))):=hide (by rw [uh HR2,nat_beq];simp [c3,c4])
     clear c3 c4
     cases d5:((a:Int) == (c:Int))
     all_goals
      rw [d5] at HE
      go_enter Tryz.func252,Tryz.ntmps252
      go_upto_region 1 with fail
      go_quiet (fail)
      go_wp2_with fail
      go_quiet (fail)
      go_wp2_with fail
      go_ret
      exact ⟨ret_bool (uh HE).symm,_,World.drewN_drewN _ _ _⟩
    ·have d4:((b:Int) == 0) = false:=by simp;omega
     have HE:Hid (R = false):=hide (by rw [uh HR2];simp [c3,c4])
     clear c3 c4
     go_enter Tryz.func252,Tryz.ntmps252
     go_upto_region 1 with fail
     go_quiet (fail)
     go_wp2_with fail
     go_quiet (fail)
     go_wp2_with fail
     go_ret
     exact ⟨ret_bool (uh HE).symm,_,World.drewN_drewN _ _ _⟩
theorem lkB_iff {s t:CF}:lkB s t = true↔∀ i,i < 5→lk1 s t i = true:=by
 unfold lkB
 simp only [Bool.and_eq_true]
 constructor
 ·rintro ⟨⟨⟨⟨a,b⟩,c⟩,d⟩,e⟩ i hi
  have:i = 0∨i = 1∨i = 2∨i = 3∨i = 4:=by omega
  rcases this with rfl | rfl | rfl | rfl | rfl <;> assumption
 ·intro h
  exact ⟨⟨⟨⟨h 0 (by omega),h 1 (by omega)⟩,h 2 (by omega)⟩,h 3 (by omega)⟩,h 4 (by omega)⟩
theorem lkB_no {s t:CF} {i:Nat} (hi:i < 5) (h:lk1 s t i = false):lkB s t = false:=by
 cases hb:lkB s t with
 | false=>rfl
 | true=>have:=lkB_iff.1 hb i hi;rw [h] at this;cases this
set_option maxRecDepth 100000 in
set_option maxHeartbeats 8000000 in
theorem looksLike_any (h:IsD w D A s av ov) (h':IsD w D' A' t av' ov'):Calls Tryz.prog 253 #[.pointer (some ⟨D,0,none⟩),.pointer (some ⟨D',0,none⟩)] w fun e w'=>e = .returned (.bool (lkB s t))∧∃ n,w' = w.drewN n:=by
 obtain ⟨R,hR⟩:∃ R,R = lkB s t:=⟨_,rfl⟩
 rw [← hR]
 have HR:=hide hR
 have H:=hide h
 have H':=hide h'
 have HI0:Hid ((∃ n,w = w.drewN n)∧∀ i,i < 0→lk1 s t i = true):=hide ⟨⟨0,rfl⟩,fun i hi=>by omega⟩
 clear h h' hR
 go_enter Tryz.func253,Tryz.ntmps253
 go_wp2_with fail
 go_loopw [5] (fun iv wx=>∃ (k:Nat),k≤5∧iv = .int .i64 k∧Hid ((∃ n,wx = w.drewN n)∧∀ i,i < k→lk1 s t i = true)) (fun iv _=>5 - (intOf iv).toNat)
 case atStart=>exact ⟨0,Nat.zero_le _,rfl,HI0⟩
 case round =>
  clear HI0
  obtain ⟨k,hk,rfl,hI⟩:=hrel
  obtain ⟨n0,hn0⟩:=(uh hI).1
  subst hn0
  by_cases hlt:k < 5
  ·have hd:decide ((k:Int) < (5:Int)) = true:=by simp;omega
   have x1:=(uh H).eq hlt
   have y1:=(uh H').eq hlt
   have x2:=(uh H).bg hlt
   have y2:=(uh H').bg hlt
   have hel:=eqD_lt t hlt
   have x3:=(uh H).eq hel
   have hl1:lk1 s t k = (decide (eqD s (eqD t k) = eqD s k) && !(decide (bgD t k = 3) && !decide (bgD s k = 3)) && !(decide (bgD t k = 4) && decide (bgD s k = 0))):=rfl
   obtain ⟨a,ha⟩:∃ a,a = eqD s k:=⟨_,rfl⟩
   obtain ⟨b,hb⟩:∃ b,b = eqD t k:=⟨_,rfl⟩
   obtain ⟨c,hc⟩:∃ c,c = bgD s k:=⟨_,rfl⟩
   obtain ⟨d,hdd⟩:∃ d,d = bgD t k:=⟨_,rfl⟩
   rw [← hb] at y1 hel x3 hl1
   obtain ⟨e,he⟩:∃ e,e = eqD s b:=⟨_,rfl⟩
   rw [← ha] at x1 hl1
   rw [← hc] at x2 hl1
   rw [← hdd] at y2 hl1
   rw [← he] at x3 hl1
   have HL:=hide hl1
   have HNo:Hid (lk1 s t k = false→R = false):=hide (fun h=>by rw [uh HR];exact lkB_no hlt h)
   have i1:(0:Int)≤(k:Int):=by omega
   have i2:(k:Int) < 5:=by omega
   have i3:(0:Int)≤(b:Int):=by omega
   have i4:(b:Int) < 5:=by omega
   clear hl1 ha hb hc hdd he
   by_cases q1:e = a
   ·have d1:((e:Int) != (a:Int)) = false:=by simp [q1]
    by_cases q2:d = 3
    ·have d2:((d:Int) == 3) = true:=by simp [q2]
     have d4:((d:Int) == 4) = false:=by simp [q2]
     by_cases q3:c = 3
     ·have d3:((c:Int) != 3) = false:=by simp [q3]
      have HY:Hid (lk1 s t k = true):=hide (by rw [uh HL];simp [q1,q2,q3])
      clear q1 q2 q3
      go_wp2_with fail
      go_quiet (fail)
      go_wp2_with fail
      go_roundw
      case rel=>exact ⟨k + 1,by omega,by go_num,hide ⟨⟨_,rfl⟩,fun i hi=>by
       by_cases e:i = k
       ·rw [e];exact uh HY
       ·exact (uh hI).2 i (by omega)⟩⟩
      case measure=>simp [intOf];omega
     ·have d3:((c:Int) != 3) = true:=by rw [bne_iff_ne];omega
      have HE:Hid (R = false):=hide (uh HNo (by rw [uh HL];simp [q1,q2,q3]))
      clear q1 q2 q3
      go_wp2_with fail
      go_quiet (fail)
      go_wp2_with fail
      go_ret
      exact ⟨ret_bool (uh HE).symm,_,rfl⟩
    ·have d2:((d:Int) == 3) = false:=by simp;omega
     by_cases q4:d = 4
     ·have d4:((d:Int) == 4) = true:=by simp [q4]
      by_cases q5:c = 0
      ·have d5:((c:Int) == 0) = true:=by simp [q5]
       have HE:Hid (R = false):=hide (uh HNo (by rw [uh HL];simp [q1,q4,q5]))
       clear q1 q2 q4 q5
       go_wp2_with fail
       go_quiet (fail)
       go_wp2_with fail
       go_ret
       exact ⟨ret_bool (uh HE).symm,_,rfl⟩
      ·have d5:((c:Int) == 0) = false:=by simp;omega
       have HY:Hid (lk1 s t k = true):=hide (by rw [uh HL];simp [q1,q4,q5])
       clear q1 q2 q4 q5
       go_wp2_with fail
       go_quiet (fail)
       go_wp2_with fail
       go_roundw
       case rel=>exact ⟨k + 1,by omega,by go_num,hide ⟨⟨_,rfl⟩,fun i hi=>by
        by_cases e:i = k
        ·rw [e];exact uh HY
        ·exact (uh hI).2 i (by omega)⟩⟩
       case measure=>simp [intOf];omega
     ·have d4:((d:Int) == 4) = false:=by simp;omega
      have HY:Hid (lk1 s t k = true):=hide (by rw [uh HL];simp [q1,q2,q4])
      clear q1 q2 q4
      go_wp2_with fail
      go_quiet (fail)
      go_wp2_with fail
      go_roundw
      case rel=>exact ⟨k + 1,by omega,by go_num,hide ⟨⟨_,rfl⟩,fun i hi=>by
       by_cases e:i = k
       ·rw [e];exact uh HY
       ·exact (uh hI).2 i (by omega)⟩⟩
      case measure=>simp [intOf];omega
   ·have d1:((e:Int) != (a:Int)) = true:=by rw [bne_iff_ne];omega
    have HE:Hid (R = false):=hide (uh HNo (by rw [uh HL];simp [q1]))
    clear q1
    go_wp2_with fail
    go_quiet (fail)
    go_wp2_with fail
    go_ret
    exact ⟨ret_bool (uh HE).symm,_,World.drewN_drewN _ _ _⟩
  ·have hd:decide ((k:Int) < (5:Int)) = false:=by simp;omega
   have HE:Hid (R = true):=hide (by rw [uh HR];exact lkB_iff.2 (fun i hi=>(uh hI).2 i (by omega)))
   go_wp2_with fail
   go_ret
   exact ⟨ret_bool (uh HE).symm,_,rfl⟩
end
def Sn (w:World) (q f t:Nat) (st:Int) (anc rest:List Value):Prop :=
 Ob w 202 55 q ([ptr f,ptr t] ++ (anc ++ rest))∧anc.length = 24∧∃ (mid:List Value) (vv ov uv pv:Value),rest = mid ++ [vv,ov,uv,pv,.int .i64 st]∧mid.length = 24
theorem set_anc {a b:Value} {anc rest:List Value} {j:Nat} (hj:j < anc.length) (u:Value):([a,b] ++ (anc ++ rest)).set (2 + j) u = [a,b] ++ (anc.set j u ++ rest):=by
 rw [List.set_append_right _ _ (by simp),show 2 + j - [a,b].length = j by simp,List.set_append_left _ _ hj]
theorem get_anc {a b:Value} {anc rest:List Value} {j:Nat} (hj:j < anc.length):([a,b] ++ (anc ++ rest))[2 + j]? = anc[j]?:=by
 rw [List.getElem?_append_right (by simp),show 2 + j - [a,b].length = j by simp,List.getElem?_append_left hj]
theorem Sn.set {w:World} {q f t:Nat} {st:Int} {anc rest:List Value} (h:Sn w q f t st anc rest) {j:Nat} (hj:j < 24) (u:Value):Sn (w.setCell ⟨q,2 + j,none⟩ u) q f t st (anc.set j u) rest:=by
 obtain ⟨h1,h2,h3⟩:=h
 have:=h1.set (2 + j) u
 rw [set_anc (by omega)] at this
 exact ⟨this,by simpa using h2,h3⟩
theorem Sn.of_eq {w w':World} {q f t:Nat} {st:Int} {anc rest:List Value} (h:Sn w q f t st anc rest) (he:w'.heap[q]? = w.heap[q]?):Sn w' q f t st anc rest:=⟨h.1.of_eq he,h.2⟩
theorem all_minus {anc:List Value} (h:anc.length = 24) (ha:∀ j,j < 24→anc[j]? = some (.int .i64 (-1))):anc = opCells (List.replicate 24 none):=by
 apply List.ext_getElem?
 intro j
 by_cases hj:j < 24
 ·rw [ha j hj]
  unfold opCells
  rw [List.map_replicate,List.getElem?_replicate,if_pos hj];rfl
 ·rw [List.getElem?_eq_none (by omega),List.getElem?_eq_none (by simp [opCells];omega)]
set_option maxRecDepth 100000 in
set_option maxHeartbeats 8000000 in
theorem drop_any {w:World} {q f t:Nat} {st:Int} {anc rest:List Value} {F T:CF} {fav fov tav tov:Value} (h:Sn w q f t st anc rest) (hF:IsF w f F fav fov) (hT:IsF w t T tav tov) (nf:∀ k∈bsF f fav fov,k≠q) (nt:∀ k∈bsF t tav tov,k≠q) (hT24:∀ i,i < 5→T.cl.getD i 0 < 24) :
  Calls Tryz.prog 116 #[.pointer (some ⟨q,0,none⟩)] w fun e w'=>e = .returned (.bool (drp F T [0,1,2,3,4] (List.replicate 24 none)).isSome)∧(∀ an,drp F T [0,1,2,3,4] (List.replicate 24 none) = some an→Sq w' q f t an st)∧Stp [q] w [q] w':=by
 have HS:=hide h
 have HF:=hide hF
 have HT:=hide hT
 have HNf:=hide nf
 have HNt:=hide nt
 have HT24:=hide hT24
 clear h hF hT nf nt hT24
 go_enter Tryz.func116,Tryz.ntmps116
 go_wp2_with fail
 go_loopw [3] (fun i wr=>∃ (k:Nat) (an:List Value),k≤24∧i = .int .i64 k∧Hid (Sn wr q f t st an rest)∧Hid (∀ j,j < k→an[j]? = some (.int .i64 (-1)))∧Hid (Stp [q] w [q] wr)) (fun i _=>24 - (intOf i).toNat)
 case atStart=>exact ⟨0,anc,Nat.zero_le _,rfl,HS,hide (fun j hj=>by omega),hide (Stp.refl _ _)⟩
 case round =>
  obtain ⟨k,an,hk,rfl,hS1,hm,hst⟩:=hrel
  by_cases hlt:k < 24
  ·have hd:decide ((k:Int) < 24) = true:=by simp;omega
   obtain ⟨⟨u,hu⟩,hz⟩:=(uh hS1).1.some (j:=2 + k) (by omega)
   have HS2:=hide ((uh hS1).set hlt (.int .i64 (-1)))
   have HM2:Hid (∀ j,j < k + 1→(an.set k (.int .i64 (-1)))[j]? = some (.int .i64 (-1))):=hide (by
    intro j hj
    have hl:=(uh hS1).2.1
    by_cases e:k = j
    ·subst e;rw [List.getElem?_set_self (by omega)]
    ·rw [List.getElem?_set_ne e];exact uh hm j (by omega))
   have HT2:=hide ((uh hst).setCell (p:=⟨q,2 + k,none⟩) (Or.inl (by simp)) (.int .i64 (-1)))
   go_wp2_with fail
   go_roundw
   case rel=>exact ⟨k + 1,_,by omega,by go_num,HS2,HM2,HT2⟩
   case measure=>simp [intOf];omega
  ·have hd:decide ((k:Int) < 24) = false:=by simp;omega
   have hk24:k = 24:=by omega
   subst hk24
   have HS0:Hid (Sn wr q f t st (opCells (List.replicate 24 none)) rest):=hide (by
    have:=all_minus (uh hS1).2.1 (uh hm)
    rw [← this];exact uh hS1)
   go_wp2_with fail
   go_loopg [4] 5 (fun gn i wr=>∃ (k:Nat) (an:List (Option Nat)),k + gn = 5∧i = .int .i64 k∧Hid (Sn wr q f t st (opCells an) rest)∧Hid (drp F T ([0,1,2,3,4].drop k) an = drp F T [0,1,2,3,4] (List.replicate 24 none))∧Hid (Stp [q] w [q] wr))
   case atStart=>exact ⟨0,_,by omega,rfl,HS0,hide rfl,hst⟩
   case round =>
    obtain ⟨k,an,hk,rfl,hS2,hdr,hst2⟩:=hrel
    by_cases hlt2:k < 5
    ·have hd2:decide ((k:Int) < 5) = true:=by simp;omega
     have hbk:=fun b hb hne=>(uh hst2).block b hb (show b ∉ [q] by simpa using hne)
     have hFr:=(uh HF).of_eq (fun b hb=>hbk b ((uh HF).lt b hb) (uh HNf b hb))
     have hTr:=(uh HT).of_eq (fun b hb=>hbk b ((uh HT).lt b hb) (uh HNt b hb))
     have hq0:wr.cell? ⟨q,0,none⟩ = some (.pointer (some ⟨f,0,none⟩)):=by rw [World.ownsRow.cellAt (uh hS2).1 0 (by omega)];rfl
     have hq1:wr.cell? ⟨q,1,none⟩ = some (.pointer (some ⟨t,0,none⟩)):=by rw [World.ownsRow.cellAt (uh hS2).1 1 (by omega)];rfl
     have hfc:=hFr.cls (i:=k) hlt2
     have htc:=hTr.cls (i:=k) hlt2
     unfold clV at hfc htc
     have hc24:=uh HT24 k hlt2
     obtain ⟨c,hc⟩:∃ c,c = T.cl.getD k 0:=⟨_,rfl⟩
     obtain ⟨fk,hfk⟩:∃ fk,fk = F.cl.getD k 0:=⟨_,rfl⟩
     rw [← hc] at htc hc24
     rw [← hfk] at hfc
     have hal:an.length = 24:=by have:=(uh hS2).2.1;rw [opCells_len] at this;exact this
     have hac:wr.cell? ⟨q,2 + c,none⟩ = some (.int .i64 (opI (an.getD c none))):=by
      rw [World.ownsRow.cellAt (uh hS2).1 (2 + c) (by omega),get_anc (by rw [opCells_len];omega)]
      have:c < an.length:=by omega
      simp [opCells,this]
     have hzc:=World.ownsRow.frozenAt (uh hS2).1 (2 + c)
     obtain ⟨o,ho⟩:∃ o,o = an.getD c none:=⟨_,rfl⟩
     rw [← ho] at hac
     have hstep:drp F T ([0,1,2,3,4].drop k) an = if o≠none∧o≠some fk then none else drp F T ([0,1,2,3,4].drop (k + 1)) (an.set c (some fk)):=by
      have hk5:k = 0∨k = 1∨k = 2∨k = 3∨k = 4:=by omega
      have e:([0,1,2,3,4]:List Nat).drop k = k :: ([0,1,2,3,4]:List Nat).drop (k + 1):=by
       rcases hk5 with rfl | rfl | rfl | rfl | rfl <;> rfl
      rw [e,drp,← hc,← hfk,← ho]
     rw [uh hdr] at hstep
     have hn1:=opI_neg o
     have HS3:=hide ((uh hS2).set hc24 (.int .i64 (fk:Int)))
     have HS3':Hid (Sn (wr.setCell ⟨q,2 + c,none⟩ (.int .i64 (fk:Int))) q f t st (opCells (an.set c (some fk))) rest):=hide (by
      have:=uh HS3
      rw [show (opCells an).set c (.int .i64 (fk:Int)) = opCells (an.set c (some fk)) by simp [opCells,List.map_set,opI]] at this
      exact this)
     have HT3:=hide ((uh hst2).setCell (p:=⟨q,2 + c,none⟩) (Or.inl (by simp)) (.int .i64 (fk:Int)))
     have HStep:=hide hstep
     clear hstep hc hfk ho hFr hTr hbk HS3 HS0
     by_cases hbad:o≠none∧o≠some fk
     ·have HFin:Hid (drp F T [0,1,2,3,4] (List.replicate 24 none) = none):=hide (by rw [uh HStep,if_pos hbad])
      cases o with
      | none=>exact absurd rfl hbad.1
      | some b0 =>
       rw [show opI (some b0) = (b0:Int) from rfl] at hac hn1
       rw [show (some b0).isSome = true from rfl] at hn1
       have hn2:((b0:Int) != (fk:Int)) = true:=by
        rw [bne_iff_ne]
        intro e
        exact hbad.2 (by rw [show b0 = fk by omega])
       clear hbad
       go_wp2_with fail
       go_quiet (fail)
       go_wp2_with fail
       go_ret
       refine ⟨by rw [uh HFin];rfl,fun an' h=>?_,(uh hst2).drewN _⟩
       rw [uh HFin] at h;cases h
     ·have HNx:Hid (drp F T ([0,1,2,3,4].drop (k + 1)) (an.set c (some fk)) = drp F T [0,1,2,3,4] (List.replicate 24 none)):=hide (by rw [uh HStep,if_neg hbad])
      cases o with
      | none =>
       rw [show opI none = (-1:Int) from rfl] at hac
       clear hbad hn1
       go_wp2_with fail
       go_quiet (fail)
       go_wp2_with fail
       go_region
       go_wp2_with fail
       go_roundg (gk - 1)
       case rel=>exact ⟨k + 1,_,by omega,by go_num,hide ((uh HS3').of_eq rfl),HNx,hide ⟨(uh HT3).os,(uh HT3).tape,(uh HT3).output,(uh HT3).size,(uh HT3).block,(uh HT3).foot⟩⟩
       case measure=>omega
      | some b0 =>
       have hb0:b0 = fk:=Classical.byContradiction (fun h=>hbad ⟨by simp,by simpa using h⟩)
       rw [show opI (some b0) = (b0:Int) from rfl] at hac hn1
       rw [show (some b0).isSome = true from rfl] at hn1
       have hn2:((b0:Int) != (fk:Int)) = false:=by rw [hb0];simp
       clear hbad hb0
       go_wp2_with fail
       go_quiet (fail)
       go_wp2_with fail
       go_region
       go_wp2_with fail
       go_roundg (gk - 1)
       case rel=>exact ⟨k + 1,_,by omega,by go_num,hide ((uh HS3').of_eq rfl),HNx,hide ⟨(uh HT3).os,(uh HT3).tape,(uh HT3).output,(uh HT3).size,(uh HT3).block,(uh HT3).foot⟩⟩
       case measure=>omega
    ·have hd2:decide ((k:Int) < 5) = false:=by simp;omega
     have hk5:k = 5:=by omega
     subst hk5
     have HFin:Hid (drp F T [0,1,2,3,4] (List.replicate 24 none) = some an):=hide ((uh hdr).symm)
     clear HS0
     go_wp2_with fail
     go_ret
     refine ⟨by rw [uh HFin];rfl,fun an' h=>?_,uh hst2⟩
     rw [uh HFin] at h
     cases h
     obtain ⟨h1,h2,mid,vv,ov,uv,pv,h3,h4⟩:=uh hS2
     refine ⟨mid,vv,ov,uv,pv,?_,h4,by rw [opCells_len] at h2;exact h2⟩
     rw [h3] at h1
     exact h1
end Go.Proofs.YtciihepbeacppaaGreat
