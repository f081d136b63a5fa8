import Derived.Test.YtciihepbeacppaaGreatM28
import Derived.BigRegion
import Derived.Deep.MidRow
import Derived.BigQuiet
import Derived.Deep.QuietTactic
import Derived.Deep.RegionHeld3
namespace Go.Proofs.YtciihepbeacppaaGreat
open Go.RowKit
set_option linter.unusedVariables false
theorem bApp (x y:List UInt8):(⟨x.toArray⟩ ++ ⟨y.toArray⟩:ByteArray) = ⟨(x ++ y).toArray⟩:=by apply ByteArray.ext;simp [ByteArray.data_append]
def wiT (t a:List UInt8):List UInt8:=if t = [] then a else t ++ [32,42,32] ++ a
def unT (a b:List UInt8):List UInt8:=if a = [110,105,108] then b ++ [32,33,61,32] ++ a else a ++ [32,33,61,32] ++ b
theorem isE_false {t:List UInt8} (h:t≠[]):t.isEmpty = false:=by cases t with | nil=>exact absurd rfl h | cons x r=>rfl
set_option maxRecDepth 100000 in
set_option maxHeartbeats 2000000 in
theorem withT_any (w:World) (t a:List UInt8) (ht:t.length≤1000000) (ha:a.length≤1000000):Calls Tryz.prog 101 #[.string ⟨t.toArray⟩,.string ⟨a.toArray⟩] w fun e w'=>e = .returned (.string ⟨(wiT t a).toArray⟩)∧w' = w:=by
 by_cases h:t = []
 ·have HE:Hid (wiT t a = a):=hide (by unfold wiT;rw [if_pos h])
  have d0:t.isEmpty = true:=by rw [h];rfl
  clear h
  go_enter Tryz.func101,Tryz.ntmps101
  go_wp2_with fail
  go_ret
  exact ⟨by rw [uh HE];rfl,rfl⟩
 ·have HE:Hid (wiT t a = t ++ [32,42,32] ++ a):=hide (by unfold wiT;rw [if_neg h])
  have d0:=isE_false h
  have n1:¬ 9223372036854775807 < t.length + 3:=by omega
  have n2:¬ 9223372036854775807 < t.length + 3 + a.length:=by omega
  clear h
  go_enter Tryz.func101,Tryz.ntmps101
  go_wp2_with fail
  go_ret
  exact ⟨by
   show Ending.returned (.string ((⟨t.toArray⟩ ++ ⟨#[32,42,32]⟩) ++ ⟨a.toArray⟩)) = _
   rw [uh HE,show (⟨#[32,42,32]⟩:ByteArray) = ⟨([32,42,32]:List UInt8).toArray⟩ from rfl,bApp,bApp],rfl⟩
set_option maxRecDepth 100000 in
set_option maxHeartbeats 2000000 in
theorem unequal_any (w:World) (a b:List UInt8) (ha:a.length≤1000000) (hb:b.length≤1000000):Calls Tryz.prog 102 #[.string ⟨a.toArray⟩,.string ⟨b.toArray⟩] w fun e w'=>e = .returned (.string ⟨(unT a b).toArray⟩)∧w' = w:=by
 by_cases h:a = [110,105,108]
 ·have HE:Hid (unT a b = b ++ [32,33,61,32] ++ a):=hide (by unfold unT;rw [if_pos h])
  subst h
  have n1:¬ 9223372036854775807 < b.length + 4:=by omega
  have n2:¬ 9223372036854775807 < b.length + 4 + 3:=by omega
  go_enter Tryz.func102,Tryz.ntmps102
  go_wp2_with fail
  go_ret
  exact ⟨by
   show Ending.returned (.string ((⟨b.toArray⟩ ++ ⟨#[32,33,61,32]⟩) ++ ⟨#[110,105,108]⟩)) = _
   rw [uh HE,show (⟨#[32,33,61,32]⟩:ByteArray) = ⟨([32,33,61,32]:List UInt8).toArray⟩ from rfl,show (⟨#[110,105,108]⟩:ByteArray) = ⟨([110,105,108]:List UInt8).toArray⟩ from rfl,bApp,bApp],rfl⟩
 ·have HE:Hid (unT a b = a ++ [32,33,61,32] ++ b):=hide (by unfold unT;rw [if_neg h])
  have n1:¬ 9223372036854775807 < a.length + 4:=by omega
  have n2:¬ 9223372036854775807 < a.length + 4 + b.length:=by omega
  have hne:(a == ([110,105,108]:List UInt8)) = false:=by rw [beq_eq_false_iff_ne];exact h
  go_enter Tryz.func102,Tryz.ntmps102
  go_wp2_with fail
  go_ret
  exact ⟨by
   show Ending.returned (.string ((⟨a.toArray⟩ ++ ⟨#[32,33,61,32]⟩) ++ ⟨b.toArray⟩)) = _
   rw [uh HE,show (⟨#[32,33,61,32]⟩:ByteArray) = ⟨([32,33,61,32]:List UInt8).toArray⟩ from rfl,bApp,bApp],rfl⟩
def grL:List UInt8:=[65,66,67,68,69,70,71,72,73,74,75,76,77,78,79,80,81,82,83,84,85,86,87,88,89,90]
def stC (N:List (List UInt8)):List Value:=N.map (fun l=>.string ⟨l.toArray⟩)
def naS (vs:List UInt8) (f:CF) (k:Nat) (N:List (List UInt8)):List (List UInt8):=N.set (f.cl.getD (1 + k) 0) [vs.getD k 0]
def naF (vs:List UInt8) (f:CF):Nat→List (List UInt8)→List (List UInt8)
 | 0,N=>N
 | k + 1,N=>naF vs f k (naS vs f k N)
def naH (r:List (List UInt8) × Nat) (c:Nat):List (List UInt8) × Nat:=if r.1.getD c [] = [] then (r.1.set c [grL.getD r.2 0],r.2 + 1) else r
def naM (vs:List UInt8) (f:CF):List (List UInt8):=((List.range 24).foldl naH ((naF vs f vs.length (List.replicate 24 [])).set (f.cl.getD 0 0) [110,105,108],0)).1
theorem stC_get {N:List (List UInt8)} {j:Nat} (h:j < N.length):(stC N)[j]? = some (.string ⟨(N.getD j []).toArray⟩):=by simp [stC,h]
theorem stC_set (N:List (List UInt8)) (j:Nat) (l:List UInt8):(stC N).set j (.string ⟨l.toArray⟩) = stC (N.set j l):=by simp [stC,List.map_set]
theorem grE:∀ (n:Nat),n < 26→(⟨#[65,66,67,68,69,70,71,72,73,74,75,76,77,78,79,80,81,82,83,84,85,86,87,88,89,90]⟩:ByteArray).extract n (n + 1) = ⟨[grL.getD n 0].toArray⟩
 | 0,_=>by kernel_rfl
 | 1,_=>by kernel_rfl
 | 2,_=>by kernel_rfl
 | 3,_=>by kernel_rfl
 | 4,_=>by kernel_rfl
 | 5,_=>by kernel_rfl
 | 6,_=>by kernel_rfl
 | 7,_=>by kernel_rfl
 | 8,_=>by kernel_rfl
 | 9,_=>by kernel_rfl
 | 10,_=>by kernel_rfl
 | 11,_=>by kernel_rfl
 | 12,_=>by kernel_rfl
 | 13,_=>by kernel_rfl
 | 14,_=>by kernel_rfl
 | 15,_=>by kernel_rfl
 | 16,_=>by kernel_rfl
 | 17,_=>by kernel_rfl
 | 18,_=>by kernel_rfl
 | 19,_=>by kernel_rfl
 | 20,_=>by kernel_rfl
 | 21,_=>by kernel_rfl
 | 22,_=>by kernel_rfl
 | 23,_=>by kernel_rfl
 | 24,_=>by kernel_rfl
 | 25,_=>by kernel_rfl
 | n + 26,h=>absurd h (by omega)
theorem Tryz.infoS24:(Tryz.prog.info? 174).map (·.size) = some 24:=by kernel_rfl
section
variable {w:World} {A:Nat} {f:CF} {av ov lv:Value} {vs:List UInt8}
set_option maxRecDepth 100000 in
set_option maxHeartbeats 8000000 in
theorem names_f (h:IsF w A f av ov) (hO:FoOk f) (hl:w.ownsRow 0 5 1 lv vs.length (bc vs)) (hvl:vs.length≤4):Calls Tryz.prog 100 #[.pointer (some ⟨A,0,none⟩),lv] w fun e w'=>e = .returned (.agg (stC (naM vs f)).toArray)∧Below w.heap.size w w':=by
 obtain ⟨la,lc,hlv,-,-⟩:=own_slc hl
 subst hlv
 obtain ⟨W2,hW2⟩:∃ W2,W2 = (w.alloc (.cells (stC (List.replicate 24 [])).toArray 174)).alloc (.cells (stC (List.replicate 24 [])).toArray 174):=⟨_,rfl⟩
 have hb2:Below w.heap.size w W2:=by rw [hW2];exact (below_boxQ w _).trans ((below_boxQ (w.alloc _) _).mono (by simp))
 have hN0:Bk W2 (w.heap.size + 1) 174 (stC (List.replicate 24 [])):=by
  rw [hW2]
  have:=Bk.new (w.alloc (.cells (stC (List.replicate 24 [])).toArray 174)) 174 (stC (List.replicate 24 []))
  simpa using this
 have hR0:Bk W2 w.heap.size 174 (stC (List.replicate 24 [])):=by rw [hW2];exact (Bk.new w _ _).alloc _
 obtain ⟨B,hB⟩:∃ B,B = w.heap.size + 1:=⟨_,rfl⟩
 rw [← hB] at hN0
 have H:=hide h
 have HO:=hide hO
 have HL:=hide hl
 have H2:=hide (And.intro hb2 (And.intro hN0 hR0))
 simp only [stC,List.replicate,List.map_cons,List.map_nil] at hW2
 clear h hO hl hb2 hN0 hR0
 go_enter Tryz.func100,Tryz.ntmps100
 go_upto_region 2 with fail
 rw [← hB,← hW2]
 have HBE:=hide hB
 clear hW2 hB
 have hF2:=(uh H).below (uh H2).1
 have HI0:Hid (Bk W2 B 174 (stC (List.replicate 24 []))∧Bk W2 w.heap.size 174 (stC (List.replicate 24 []))∧Below w.heap.size w W2∧(List.replicate 24 ([]:List UInt8)).length = 24∧naF vs f vs.length (List.replicate 24 []) = naF vs f vs.length (List.replicate 24 [])):=hide ⟨(uh H2).2.1,(uh H2).2.2,(uh H2).1,List.length_replicate,rfl⟩
 obtain ⟨F1,hF1⟩:∃ F1,F1 = naF vs f vs.length (List.replicate 24 []):=⟨_,rfl⟩
 have HF1:=hide hF1
 have hq1:IntKind.i64.wrap ((vs.length:Int) - 1) = (vs.length:Int) - 1:=by rw [IntKind.wrap_i64];omega
 clear hF2 hF1
 go_wp2_with fail
 go_loopg [6] vs.length (fun gn iv wx=>∃ (z:Int) (N:List (List UInt8)),z + 1 = (gn:Int)∧gn≤vs.length∧iv = .int .i64 z∧Hid (Bk wx B 174 (stC N)∧Bk wx w.heap.size 174 (stC (List.replicate 24 []))∧Below w.heap.size w wx∧N.length = 24∧naF vs f gn N = F1))
 case atStart=>exact ⟨(vs.length:Int) - 1,_,by omega,Nat.le_refl _,rfl,hide ⟨(uh H2).2.1,(uh H2).2.2,(uh H2).1,List.length_replicate,(uh HF1).symm⟩⟩
 case round =>
  clear HI0 hq1
  obtain ⟨z,N,hz,hgk,rfl,hI⟩:=hrel
  obtain ⟨h1,h2,h3,h4,h5⟩:=uh hI
  have hF:=(uh H).below h3
  cases gk with
  | zero =>
   have hz1:z = -1:=by omega
   subst hz1
   have hN:N = F1:=h5
   subst hN
   have x0:=hF.cls (i:=0) (by omega)
   unfold clV at x0
   have hc24:=(uh HO).get 0
   have hnm:naM vs f = ((List.range' 0 (24 - 0)).foldl naH (N.set (f.cl.getD 0 0) [110,105,108],0)).1:=by unfold naM;rw [← uh HF1,List.range_eq_range']
   obtain ⟨cl,hcl⟩:∃ cl,cl = f.cl.getD 0 0:=⟨_,rfl⟩
   rw [← hcl] at x0 hc24 hnm
   have bc0:=h1.cell cl (stC_get (by omega))
   have bz0:=h1.frz cl
   have h6:=h1.set cl (.string ⟨([110,105,108]:List UInt8).toArray⟩)
   rw [stC_set] at h6
   have hBw:w.heap.size≤B:=by have:=uh HBE;omega
   have hBR:B≠w.heap.size:=by have:=uh HBE;omega
   have HI1:Hid (Bk (wr.setCell ⟨B,cl,none⟩ (.string ⟨#[110,105,108]⟩)) B 174 (stC (N.set cl [110,105,108]))∧Bk (wr.setCell ⟨B,cl,none⟩ (.string ⟨#[110,105,108]⟩)) w.heap.size 174 (stC (List.replicate 24 []))∧Below w.heap.size w (wr.setCell ⟨B,cl,none⟩ (.string ⟨#[110,105,108]⟩))∧(N.set cl [110,105,108]).length = 24∧0≤0∧((List.range' 0 (24 - 0)).foldl naH (N.set cl [110,105,108],0)).1 = naM vs f):=hide ⟨h6,h2.setO (p:=⟨B,cl,none⟩) hBR _,h3.setCell (p:=⟨B,cl,none⟩) hBw _,by rw [List.length_set];exact h4,Nat.le_refl _,hnm.symm⟩
   have k6:(cl:Int) < 24:=by omega
   have HN0:Hid ((N.set cl [110,105,108]).length = 24):=hide (by rw [List.length_set];exact h4)
   obtain ⟨N1,hN1⟩:∃ N1,N1 = N.set cl [110,105,108]:=⟨_,rfl⟩
   rw [← hN1] at HI1
   clear hF h1 h2 h3 h4 h5 h6 hI hnm hcl hc24 hBw hBR hN1 HN0 hz hgk hvl
   go_wp2_with fail
   go_loopg [7,8] 24 (fun gn hv iv wx=>∃ (k hh:Nat) (N:List (List UInt8)),k + gn = 24∧iv = .int .i64 k∧hv = .int .i64 hh∧Hid (Bk wx B 174 (stC N)∧Bk wx w.heap.size 174 (stC (List.replicate 24 []))∧Below w.heap.size w wx∧N.length = 24∧hh≤k∧((List.range' k (24 - k)).foldl naH (N,hh)).1 = naM vs f))
   case atStart=>exact ⟨0,0,N1,by omega,rfl,rfl,HI1⟩
   case round =>
    clear HI1 x0 bc0 bz0
    obtain ⟨k,hh,N,hkn,rfl,rfl,hI⟩:=hrel
    obtain ⟨G2,hG2⟩:∃ G2,G2 = gk:=⟨_,rfl⟩
    obtain ⟨h1,h2,h3,h4,h5,h6⟩:=uh hI
    by_cases hlt:k < 24
    ·have hd:decide ((k:Int) < (24:Int)) = true:=by simp;omega
     have bcell:=h1.cell k (stC_get (by omega))
     have bfrz:=h1.frz k
     have hrng:List.range' k (24 - k) = k :: List.range' (k + 1) (24 - (k + 1)):=by rw [show 24 - k = (24 - (k + 1)) + 1 by omega,List.range'_succ]
     rw [hrng,List.foldl_cons] at h6
     have k1:(0:Int)≤(k:Int):=by omega
     have k2:(k:Int) < (24:Int):=by omega
     by_cases he:N.getD k [] = []
     ·have e6:naH (N,hh) k = (N.set k [grL.getD hh 0],hh + 1):=by unfold naH;rw [if_pos he]
      rw [e6] at h6
      have dE:(N.getD k []).isEmpty = true:=by rw [he];rfl
      obtain ⟨b,hb⟩:∃ b,b = grL.getD hh 0:=⟨_,rfl⟩
      rw [← hb] at h6
      have g6:=h1.set k (.string ⟨[b].toArray⟩)
      rw [stC_set] at g6
      have hBw:w.heap.size≤B:=by have:=uh HBE;omega
      have hBR:B≠w.heap.size:=by have:=uh HBE;omega
      have HN:=hide (And.intro g6 (And.intro (h2.setO (p:=⟨B,k,none⟩) hBR (.string ⟨[b].toArray⟩)) (And.intro (h3.setCell (p:=⟨B,k,none⟩) hBw (.string ⟨[b].toArray⟩)) (And.intro (show (N.set k [b]).length = 24 by rw [List.length_set];exact h4) (And.intro (show hh + 1≤k + 1 by omega) h6)))))
      have m1:(0:Int)≤(hh:Int):=by omega
      have m2:(hh:Int)≤(hh:Int) + 1:=by omega
      have m3:(hh:Int) + 1≤26:=by omega
      have m4:hh < 26:=by omega
      have HGE:Hid ((⟨#[65,66,67,68,69,70,71,72,73,74,75,76,77,78,79,80,81,82,83,84,85,86,87,88,89,90]⟩:ByteArray).extract hh (hh + 1) = ⟨[b].toArray⟩):=hide (by rw [hb];exact grE hh m4)
      rw [he] at bcell
      clear h1 h2 h3 h4 h5 h6 g6 e6 he hrng hI hBw hBR hb
      go_wp2_with fail
      go_roundg (G2 - 1)
      case rel=>exact ⟨k + 1,hh + 1,N.set k [b],by omega,by go_num,by go_num,by rw [uh HGE];exact HN⟩
      case measure=>omega
     ·have e6:naH (N,hh) k = (N,hh):=by unfold naH;rw [if_neg he]
      rw [e6] at h6
      have dE:(N.getD k []).isEmpty = false:=isE_false he
      have HN:=hide (And.intro h1 (And.intro h2 (And.intro h3 (And.intro h4 (And.intro (show hh≤k + 1 by omega) h6)))))
      obtain ⟨nk,hnk⟩:∃ nk,nk = N.getD k []:=⟨_,rfl⟩
      rw [← hnk] at bcell dE
      clear h1 h2 h3 h4 h5 h6 e6 he hrng hI hnk
      go_wp2_with fail
      go_roundg (G2 - 1)
      case rel=>exact ⟨k + 1,hh,N,by omega,by go_num,rfl,HN⟩
      case measure=>omega
    ·have hd:decide ((k:Int) < (24:Int)) = false:=by simp;omega
     have hk24:24 - k = 0:=by omega
     rw [hk24] at h6
     have hNM:N = naM vs f:=h6
     have hml:(stC N).length = 24:=by simp [stC,h4]
     obtain ⟨M,hM⟩:∃ M,M = stC N:=⟨_,rfl⟩
     rw [← hM] at hml h1
     have hRg:wr.rangeAt B 0 M:=fun j v hj=>by rw [Nat.zero_add];exact h1.cell j hj
     have hTh:wr.there w.heap.size 0 M.toArray.size:=fun j hj=>by
      rw [List.size_toArray,hml] at hj
      rw [Nat.zero_add]
      exact ⟨by rw [h2.cell j (stC_get (by rw [List.length_replicate];exact hj))];rfl,h2.frz j⟩
     have hI1:(Tryz.prog.info? 174).map (·.size) = some M.length:=by rw [hml];exact Tryz.infoS24
     have hI2:(Tryz.prog.info? 174).map (·.size) = some M.toArray.size:=by rw [List.size_toArray,hml];exact Tryz.infoS24
     have hOn:M.toArray.all (·.oneCell') = true:=all_oneCell_toArray (by
      intro v hv
      rw [hM] at hv
      obtain ⟨o,_,rfl⟩:=List.mem_map.1 hv
      rfl)
     have hB5:∀ (us:List Value) (o:Nat) (x:World),Below w.heap.size w x→Below w.heap.size w (x.setCells w.heap.size o us):=by
      intro us
      induction us with
      | nil=>intro o x h;exact h
      | cons v r ih=>intro o x h;exact ih (o + 1) _ (h.setCell (Nat.le_refl _) v)
     have HM:Hid (M = stC (naM vs f)):=hide (by rw [hM,hNM])
     have HRg:=hide hRg
     have HTh:=hide hTh
     have HI1:=hide hI1
     have HI2:=hide hI2
     have HOn:=hide hOn
     obtain ⟨R0,hR0⟩:∃ R0,R0 = w.heap.size:=⟨_,rfl⟩
     have HB5:Hid (Below w.heap.size w (wr.setCells R0 0 M)):=hide (by rw [hR0];exact hB5 M 0 wr h3)
     rw [← hR0] at HTh ⊢
     have HR0:=hide hR0
     clear hRg hTh hI1 hI2 hOn hB5 hM hml h1 h2 h3 h4 h5 h6 hNM hk24 hI hR0
     go_wp2_with (first | refine wpList_load_mid rfl 174 (.tmp 5) rfl B 0 rfl M _ (uh HRg) Tryz.underlying174 rfl (uh HI1) ?_ | refine wpList_store_mid rfl 174 (.tmp 4) (.tmp 55) rfl R0 0 M.toArray rfl rfl (uh HTh) (uh HI2) (uh HOn) ?_)
     have hrg2:(wr.setCells R0 0 M).rangeAt R0 0 M:=World.rangeAt_setCells_same wr R0 0 M (by simpa using uh HTh)
     have hld:=run_loadVar_mid (P:=Tryz.prog) (wr.setCells R0 0 M) R0 0 174 M _ hrg2 Tryz.underlying174 rfl (uh HI1)
     refine bodyPost_ret (v:=.agg M.toArray) ?_ rfl ⟨by rw [uh HM],uh HB5⟩
     simp [results,Tryz.results100,Act.put,asAddr,hld]
  | succ m =>
   have hzm:z = (m:Int):=by omega
   subst hzm
   have hm4:m < 4:=by omega
   have x0:=hF.cls (i:=1 + m) (by omega)
   unfold clV at x0
   have hc24:=(uh HO).get (1 + m)
   have hrow:=own_bw (uh HL) h3
   obtain ⟨g,cap,hgv,hgc,-⟩:=own_pos hrow (by omega)
   simp only [Value.slice.injEq,true_and] at hgv
   obtain ⟨rfl,rfl⟩:=hgv
   have y0:=hrow.cellAt m (by omega)
   have hbv:(bc vs)[m]? = some (.int .u8 ((vs.getD m 0).toNat:Int)):=by simp [bc,show m < vs.length by omega]
   rw [hbv] at y0
   have e5:naF vs f m (N.set (f.cl.getD (1 + m) 0) [vs.getD m 0]) = F1:=h5
   obtain ⟨cl,hcl⟩:∃ cl,cl = f.cl.getD (1 + m) 0:=⟨_,rfl⟩
   rw [← hcl] at x0 hc24 e5
   obtain ⟨b,hb⟩:∃ b,b = vs.getD m 0:=⟨_,rfl⟩
   rw [← hb] at y0 e5
   have bc0:=h1.cell cl (stC_get (by omega))
   have bz0:=h1.frz cl
   have h6:=h1.set cl (.string ⟨[b].toArray⟩)
   rw [stC_set] at h6
   have hBw:w.heap.size≤B:=by have:=uh HBE;omega
   have hBR:B≠w.heap.size:=by have:=uh HBE;omega
   have HN:=hide (And.intro h6 (And.intro (h2.setO (p:=⟨B,cl,none⟩) hBR (.string ⟨[b].toArray⟩)) (And.intro (h3.setCell (p:=⟨B,cl,none⟩) hBw (.string ⟨[b].toArray⟩)) (And.intro (show (N.set cl [b]).length = 24 by rw [List.length_set];exact h4) e5))))
   have k6:(cl:Int) < 24:=by omega
   have hm3:m = 0∨m = 1∨m = 2∨m = 3:=by omega
   clear hF hrow hbv h1 h2 h3 h4 h5 h6 e5 hcl hb hI hz hm4 hBR hc24 hBw
   rcases hm3 with rfl | rfl | rfl | rfl
   ·have x0:wr.cell? ⟨A,1,none⟩ = some (.int .i64 (cl:Int)):=x0
    have k2:(0:Int) < (vs.length:Int):=by omega
    have kc:(1:Int)≤(lc:Int):=by omega
    have hcv:(convert 101 9 (.slice (some ⟨g,0,none⟩) 1 lc)).run Tryz.prog wr.drew = .ok (.string ⟨[b].toArray⟩) wr.drew:=run_convert_bytes_back wr.drew 101 9 5 ⟨g,0,none⟩ lc [b] Tryz.underlying101 Tryz.underlying5 Tryz.underlying9 (fun j hj=>by
     have hj0:j = 0:=by simpa using hj
     subst hj0
     exact y0)
    rw [show (((0:Nat):Int)) = (0:Int) from rfl]
    clear hgk hvl hgc
    go_upto_region 6 with fail
    go_region
    all_goals
     go_wp2_with fail
     go_roundg 0
     case rel=>exact ⟨(0:Int) - 1,_,by omega,by omega,by first | rfl | go_num,hide ⟨(uh HN).1.of_eq rfl,(uh HN).2.1.of_eq rfl,⟨(uh HN).2.2.1.os,(uh HN).2.2.1.tape,(uh HN).2.2.1.output,(uh HN).2.2.1.size,(uh HN).2.2.1.block⟩,(uh HN).2.2.2⟩⟩
     case measure=>omega
   ·have x0:wr.cell? ⟨A,2,none⟩ = some (.int .i64 (cl:Int)):=x0
    have k2:(1:Int) < (vs.length:Int):=by omega
    have kc:(2:Int)≤(lc:Int):=by omega
    have hcv:(convert 101 9 (.slice (some ⟨g,1,none⟩) 1 (lc - 1))).run Tryz.prog wr.drew = .ok (.string ⟨[b].toArray⟩) wr.drew:=run_convert_bytes_back wr.drew 101 9 5 ⟨g,1,none⟩ (lc - 1) [b] Tryz.underlying101 Tryz.underlying5 Tryz.underlying9 (fun j hj=>by
     have hj0:j = 0:=by simpa using hj
     subst hj0
     exact y0)
    rw [show (((1:Nat):Int)) = (1:Int) from rfl]
    clear hgk hvl hgc
    go_upto_region 6 with fail
    go_region
    all_goals
     go_wp2_with fail
     go_roundg 1
     case rel=>exact ⟨(1:Int) - 1,_,by omega,by omega,by first | rfl | go_num,hide ⟨(uh HN).1.of_eq rfl,(uh HN).2.1.of_eq rfl,⟨(uh HN).2.2.1.os,(uh HN).2.2.1.tape,(uh HN).2.2.1.output,(uh HN).2.2.1.size,(uh HN).2.2.1.block⟩,(uh HN).2.2.2⟩⟩
     case measure=>omega
   ·have x0:wr.cell? ⟨A,3,none⟩ = some (.int .i64 (cl:Int)):=x0
    have k2:(2:Int) < (vs.length:Int):=by omega
    have kc:(3:Int)≤(lc:Int):=by omega
    have hcv:(convert 101 9 (.slice (some ⟨g,2,none⟩) 1 (lc - 2))).run Tryz.prog wr.drew = .ok (.string ⟨[b].toArray⟩) wr.drew:=run_convert_bytes_back wr.drew 101 9 5 ⟨g,2,none⟩ (lc - 2) [b] Tryz.underlying101 Tryz.underlying5 Tryz.underlying9 (fun j hj=>by
     have hj0:j = 0:=by simpa using hj
     subst hj0
     exact y0)
    rw [show (((2:Nat):Int)) = (2:Int) from rfl]
    clear hgk hvl hgc
    go_upto_region 6 with fail
    go_region
    all_goals
     go_wp2_with fail
     go_roundg 2
     case rel=>exact ⟨(2:Int) - 1,_,by omega,by omega,by first | rfl | go_num,hide ⟨(uh HN).1.of_eq rfl,(uh HN).2.1.of_eq rfl,⟨(uh HN).2.2.1.os,(uh HN).2.2.1.tape,(uh HN).2.2.1.output,(uh HN).2.2.1.size,(uh HN).2.2.1.block⟩,(uh HN).2.2.2⟩⟩
     case measure=>omega
   ·have x0:wr.cell? ⟨A,4,none⟩ = some (.int .i64 (cl:Int)):=x0
    have k2:(3:Int) < (vs.length:Int):=by omega
    have kc:(4:Int)≤(lc:Int):=by omega
    have hcv:(convert 101 9 (.slice (some ⟨g,3,none⟩) 1 (lc - 3))).run Tryz.prog wr.drew = .ok (.string ⟨[b].toArray⟩) wr.drew:=run_convert_bytes_back wr.drew 101 9 5 ⟨g,3,none⟩ (lc - 3) [b] Tryz.underlying101 Tryz.underlying5 Tryz.underlying9 (fun j hj=>by
     have hj0:j = 0:=by simpa using hj
     subst hj0
     exact y0)
    rw [show (((3:Nat):Int)) = (3:Int) from rfl]
    clear hgk hvl hgc
    go_upto_region 6 with fail
    go_region
    all_goals
     go_wp2_with fail
     go_roundg 3
     case rel=>exact ⟨(3:Int) - 1,_,by omega,by omega,by first | rfl | go_num,hide ⟨(uh HN).1.of_eq rfl,(uh HN).2.1.of_eq rfl,⟨(uh HN).2.2.1.os,(uh HN).2.2.1.tape,(uh HN).2.2.1.output,(uh HN).2.2.1.size,(uh HN).2.2.1.block⟩,(uh HN).2.2.2⟩⟩
     case measure=>omega
end
def eqT (a b:List UInt8):List UInt8:=a ++ [32,61,32] ++ b
def arT (a b:List UInt8):List UInt8:=a ++ [32,45,62,32] ++ b
def lsT (a b:List UInt8):List UInt8:=[108,115,40] ++ a ++ [44] ++ b ++ [41]
def wrV (vs:List UInt8) (f:CF) (nm:List (List UInt8)) (t:List UInt8) (i:Nat):List UInt8:=if nm.getD (f.cl.getD (1 + i) 0) [] = [vs.getD i 0] then t else wiT t (eqT [vs.getD i 0] (nm.getD (f.cl.getD (1 + i) 0) []))
def wrA (nm:List (List UInt8)) (t:List UInt8) (p:Pr):List UInt8:=wiT t (unT (nm.getD p.l []) (nm.getD p.r []))
def wrO (nm:List (List UInt8)) (t:List UInt8) (p:Pr):List UInt8:=wiT t (if p.k = 4 then lsT (nm.getD p.l []) (nm.getD p.r []) else arT (nm.getD p.l []) (nm.getD p.r []))
def wr3 (vs:List UInt8) (f:CF):List UInt8:=f.ow.foldl (wrO (naM vs f)) (f.ap.foldl (wrA (naM vs f)) ((List.range vs.length).foldl (wrV vs f (naM vs f)) []))
def wrT (vs:List UInt8) (f:CF):List UInt8:=if wr3 vs f = [] then [101,109,112] else wr3 vs f
theorem eqB (b:UInt8) (l:List UInt8):(⟨#[b]⟩ ++ ⟨#[32,61,32]⟩ ++ ⟨l.toArray⟩:ByteArray) = ⟨(eqT [b] l).toArray⟩:=by
 rw [show (⟨#[b]⟩:ByteArray) = ⟨[b].toArray⟩ from rfl,show (⟨#[32,61,32]⟩:ByteArray) = ⟨([32,61,32]:List UInt8).toArray⟩ from rfl,bApp,bApp];rfl
theorem lsB (a b:List UInt8):(⟨#[108,115,40]⟩ ++ ⟨a.toArray⟩ ++ ⟨#[44]⟩ ++ ⟨b.toArray⟩ ++ ⟨#[41]⟩:ByteArray) = ⟨(lsT a b).toArray⟩:=by
 rw [show (⟨#[108,115,40]⟩:ByteArray) = ⟨([108,115,40]:List UInt8).toArray⟩ from rfl,show (⟨#[44]⟩:ByteArray) = ⟨([44]:List UInt8).toArray⟩ from rfl,show (⟨#[41]⟩:ByteArray) = ⟨([41]:List UInt8).toArray⟩ from rfl,bApp,bApp,bApp,bApp];rfl
theorem arB (a b:List UInt8):(⟨a.toArray⟩ ++ ⟨#[32,45,62,32]⟩ ++ ⟨b.toArray⟩:ByteArray) = ⟨(arT a b).toArray⟩:=by
 rw [show (⟨#[32,45,62,32]⟩:ByteArray) = ⟨([32,45,62,32]:List UInt8).toArray⟩ from rfl,bApp,bApp];rfl
theorem wiT_len (t a:List UInt8):(wiT t a).length≤t.length + 3 + a.length:=by unfold wiT;split <;> simp <;> omega
theorem unT_len (a b:List UInt8):(unT a b).length = a.length + b.length + 4:=by unfold unT;split <;> simp <;> omega
def Sho (N:List (List UInt8)):Prop:=N.length = 24∧∀ j,(N.getD j []).length≤3
theorem Sho.set {N:List (List UInt8)} (h:Sho N) (j:Nat) {l:List UInt8} (hl:l.length≤3):Sho (N.set j l):=by
 refine ⟨by rw [List.length_set];exact h.1,fun i=>?_⟩
 rw [List.getD_eq_getElem?_getD,List.getElem?_set]
 split
 ·split
  ·exact hl
  ·exact Nat.zero_le _
 ·rw [← List.getD_eq_getElem?_getD];exact h.2 i
theorem naF_sho (vs:List UInt8) (f:CF):∀ (k:Nat) {N:List (List UInt8)},Sho N→Sho (naF vs f k N)
 | 0,_,h=>h
 | k + 1,_,h=>naF_sho vs f k (h.set _ (by simp))
theorem naH_sho:∀ (l:List Nat) {r:List (List UInt8) × Nat},Sho r.1→Sho (l.foldl naH r).1
 | [],_,h=>h
 | c :: l,r,h=>by
  rw [List.foldl_cons]
  refine naH_sho l ?_
  unfold naH
  split
  ·exact h.set c (by simp)
  ·exact h
theorem naM_sho (vs:List UInt8) (f:CF):Sho (naM vs f):=by
 unfold naM
 refine naH_sho _ (Sho.set (naF_sho vs f _ ⟨by simp,fun j=>?_⟩) _ (by simp))
 rw [List.getD_eq_getElem?_getD]
 by_cases hj:j < 24
 ·rw [List.getElem?_replicate,if_pos hj]
  exact Nat.zero_le _
 ·rw [List.getElem?_eq_none (by rw [List.length_replicate];omega)]
  exact Nat.zero_le _
section
variable {w:World} {A:Nat} {f:CF} {av ov lv:Value} {vs:List UInt8}
set_option maxRecDepth 100000 in
set_option maxHeartbeats 16000000 in
theorem write_any (h:IsF w A f av ov) (hT:Td f) (hl:w.ownsRow 0 5 1 lv vs.length (bc vs)) (hvl:vs.length≤4):Calls Tryz.prog 63 #[.pointer (some ⟨A,0,none⟩),lv] w fun e w'=>e = .returned (.string ⟨(wrT vs f).toArray⟩)∧Below w.heap.size w w':=by
 have HNA:=hide (names_f h hT.ok hl hvl)
 obtain ⟨la,lc,hlv,hlc,-⟩:=own_slc hl
 subst hlv
 have hsho:=naM_sho vs f
 obtain ⟨nm,hnm⟩:∃ nm,nm = naM vs f:=⟨_,rfl⟩
 rw [← hnm] at HNA hsho
 have H:=hide h
 have HT:=hide hT
 have HL:=hide hl
 have HNM:=hide hnm
 have HSH:=hide hsho
 have hml:(stC nm).length = 24:=by simp [stC,hsho.1]
 obtain ⟨M,hM⟩:∃ M,M = stC nm:=⟨_,rfl⟩
 rw [← hM] at HNA hml
 have HM:=hide hM
 have HWT:Hid (wrT vs f = if f.ow.foldl (wrO nm) (f.ap.foldl (wrA nm) ((List.range vs.length).foldl (wrV vs f nm) [])) = [] then [101,109,112] else f.ow.foldl (wrO nm) (f.ap.foldl (wrA nm) ((List.range vs.length).foldl (wrV vs f nm) []))):=hide (by rw [hnm];rfl)
 clear h hT hl hnm hsho hM
 go_enter Tryz.func63,Tryz.ntmps63
 go_wp2_with fail
 refine (uh HNA).mono ?_
 rintro e w1 ⟨rfl,hb1⟩
 have hTh:(w1.alloc (.cells (stC (List.replicate 24 [])).toArray 174)).there w1.heap.size 0 M.toArray.size:=fun j hj=>by
  rw [List.size_toArray,hml] at hj
  rw [Nat.zero_add]
  have hbk:=Bk.new w1 174 (stC (List.replicate 24 []))
  exact ⟨by rw [hbk.cell j (stC_get (by rw [List.length_replicate];exact hj))];rfl,hbk.frz j⟩
 have hI2:(Tryz.prog.info? 174).map (·.size) = some M.toArray.size:=by rw [List.size_toArray,hml];exact Tryz.infoS24
 have hOn:M.toArray.all (·.oneCell') = true:=all_oneCell_toArray (by
  intro v hv
  rw [uh HM] at hv
  obtain ⟨o,_,rfl⟩:=List.mem_map.1 hv
  rfl)
 have hB5:∀ (us:List Value) (o:Nat) (x:World),Below w1.heap.size w1 x→Below w1.heap.size w1 (x.setCells w1.heap.size o us):=by
  intro us
  induction us with
  | nil=>intro o x h;exact h
  | cons v r ih=>intro o x h;exact ih (o + 1) _ (h.setCell (Nat.le_refl _) v)
 obtain ⟨D,hD⟩:∃ D,D = w1.heap.size:=⟨_,rfl⟩
 obtain ⟨W2,hW2⟩:∃ W2,W2 = (w1.alloc (.cells (stC (List.replicate 24 [])).toArray 174)).setCells w1.heap.size 0 M:=⟨_,rfl⟩
 have hb2:Below w.heap.size w W2:=hb1.trans ((by rw [hW2];exact hB5 M 0 _ (below_boxQ w1 _):Below w1.heap.size w1 W2).mono hb1.size)
 have hrg:W2.rangeAt D 0 M:=by rw [hW2,hD];exact World.rangeAt_setCells_same _ _ 0 M (by simpa using hTh)
 have hDl:D < W2.heap.size:=by
  have h9:=(by rw [hW2];exact hB5 M 0 _ (below_boxQ w1 _):Below w1.heap.size w1 W2)
  have h8:0 < M.length:=by omega
  have:=World.block_lt_of_cell? W2 ⟨D,0 + 0,none⟩ (hrg 0 M[0] (List.getElem?_eq_getElem h8))
  exact this
 have hcell:∀ j,j < 24→W2.cell? ⟨D,j,none⟩ = some (.string ⟨(nm.getD j []).toArray⟩):=fun j hj=>by
  have h8:=hrg j _ (by rw [uh HM];exact stC_get (by rw [(uh HSH).1];exact hj))
  rw [Nat.zero_add] at h8
  exact h8
 have HTh:=hide hTh
 have HI2:=hide hI2
 have HOn:=hide hOn
 have HC:=hide (And.intro hcell (And.intro hDl hb2))
 clear hTh hI2 hOn hB5 hrg hcell hDl hb2 hb1 HNA
 simp only [stC,List.replicate,List.map_cons,List.map_nil] at hW2
 go_upto_region 2 with (refine wpList_store_mid rfl 174 (.tmp 5) (.tmp 16) rfl _ 0 M.toArray rfl rfl (uh HTh) (uh HI2) (uh HOn) ?_)
 rw [← hW2,← hD]
 clear hW2 hD HTh HI2 HOn hml
 go_wp2_with fail
 go_loopg [6,7] vs.length (fun gn tv iv wx=>∃ (k:Nat) (T:List UInt8),k + gn = vs.length∧iv = .int .i64 k∧tv = .string ⟨T.toArray⟩∧Hid (wx = W2∧T = (List.range k).foldl (wrV vs f nm) []∧T.length≤20 * k))
 case atStart=>exact ⟨0,[],by omega,rfl,rfl,hide ⟨rfl,rfl,by simp⟩⟩
 case round =>
  obtain ⟨k,T,hkn,rfl,rfl,hI⟩:=hrel
  obtain ⟨G1,hG1⟩:∃ G1,G1 = gk:=⟨_,rfl⟩
  obtain ⟨hwr,hTe,hTl⟩:=uh hI
  rw [hwr]
  clear hwr hI
  by_cases hlt:k < vs.length
  ·have hd:decide ((k:Int) < (vs.length:Int)) = true:=by simp;omega
   have hF:=(uh H).below (uh HC).2.2
   have x0:=hF.cls (i:=1 + k) (by omega)
   unfold clV at x0
   have hc24:=(uh HT).ok.get (1 + k)
   have hrow:=own_bw (uh HL) (uh HC).2.2
   obtain ⟨g,cap,hgv,hgc,-⟩:=own_pos hrow (by omega)
   simp only [Value.slice.injEq,true_and] at hgv
   obtain ⟨rfl,rfl⟩:=hgv
   have y0:=hrow.cellAt k (by omega)
   have hbv:(bc vs)[k]? = some (.int .u8 ((vs.getD k 0).toNat:Int)):=by simp [bc,hlt]
   rw [hbv] at y0
   have hst:(List.range (k + 1)).foldl (wrV vs f nm) [] = wrV vs f nm T k:=by rw [List.range_succ,List.foldl_append,← hTe];rfl
   have hwv:wrV vs f nm T k = if nm.getD (f.cl.getD (1 + k) 0) [] = [vs.getD k 0] then T else wiT T (eqT [vs.getD k 0] (nm.getD (f.cl.getD (1 + k) 0) [])):=rfl
   obtain ⟨cl,hcl⟩:∃ cl,cl = f.cl.getD (1 + k) 0:=⟨_,rfl⟩
   obtain ⟨b,hb⟩:∃ b,b = vs.getD k 0:=⟨_,rfl⟩
   rw [← hcl] at x0 hc24 hwv
   rw [← hb] at y0 hwv
   have n0:=(uh HC).1 cl hc24
   have hnl:=(uh HSH).2 cl
   obtain ⟨nl,hnl2⟩:∃ nl,nl = nm.getD cl []:=⟨_,rfl⟩
   rw [← hnl2] at n0 hnl hwv
   have HST1:Hid (nl = [b]→(List.range (k + 1)).foldl (wrV vs f nm) [] = T):=hide (fun e=>by rw [hst,hwv,if_pos e])
   have HST2:Hid (nl≠[b]→(List.range (k + 1)).foldl (wrV vs f nm) [] = wiT T (eqT [b] nl)):=hide (fun e=>by rw [hst,hwv,if_neg e])
   have HTE:=hide hTl
   have k6:(cl:Int) < 24:=by omega
   have hm3:k = 0∨k = 1∨k = 2∨k = 3:=by omega
   clear hF hrow hbv hst hwv hcl hb hnl2 hTe hc24 hgc
   rcases hm3 with rfl | rfl | rfl | rfl
   ·have x0:W2.cell? ⟨A,1,none⟩ = some (.int .i64 (cl:Int)):=x0
    have k2:(0:Int) < (vs.length:Int):=by omega
    have kc:(1:Int)≤(lc:Int):=by omega
    have hcv:(convert 101 9 (.slice (some ⟨g,0,none⟩) 1 lc)).run Tryz.prog W2 = .ok (.string ⟨[b].toArray⟩) W2:=run_convert_bytes_back W2 101 9 5 ⟨g,0,none⟩ lc [b] Tryz.underlying101 Tryz.underlying5 Tryz.underlying9 (fun j hj=>by
     have hj0:j = 0:=by simpa using hj
     subst hj0
     exact y0)
    rw [show (((0:Nat):Int)) = (0:Int) from rfl]
    by_cases heq:nl = [b]
    ·have e0:(nl == ([b]:List UInt8)) = true:=by rw [beq_iff_eq];exact heq
     have HT2:=hide (uh HST1 heq)
     clear heq
     go_wp2_with fail
     go_roundg (G1 - 1)
     case rel=>exact ⟨1,T,by omega,by go_num,rfl,hide ⟨rfl,(uh HT2).symm,by have:=uh HTE;omega⟩⟩
     case measure=>omega
    ·have e0:(nl == ([b]:List UInt8)) = false:=by rw [beq_eq_false_iff_ne];exact heq
     have HT2:=hide (uh HST2 heq)
     have HWI:=hide (withT_any W2 T (eqT [b] nl) (by omega) (by unfold eqT;simp;omega))
     have HLE:Hid ((wiT T (eqT [b] nl)).length≤20 * (0 + 1)):=hide (by
      have h8:=wiT_len T (eqT [b] nl)
      have h9:(eqT [b] nl).length≤7:=by unfold eqT;simp;omega
      have:=uh HTE
      omega)
     clear heq
     go_wp2_with fail
     rw [eqB]
     refine (uh HWI).mono ?_
     rintro e' w9 ⟨rfl,rfl⟩
     go_wp2_with fail
     go_roundg (G1 - 1)
     case rel=>exact ⟨1,wiT T (eqT [b] nl),by omega,by go_num,rfl,hide ⟨rfl,(uh HT2).symm,uh HLE⟩⟩
     case measure=>omega
   ·have x0:W2.cell? ⟨A,2,none⟩ = some (.int .i64 (cl:Int)):=x0
    have k2:(1:Int) < (vs.length:Int):=by omega
    have kc:(2:Int)≤(lc:Int):=by omega
    have hcv:(convert 101 9 (.slice (some ⟨g,1,none⟩) 1 (lc - 1))).run Tryz.prog W2 = .ok (.string ⟨[b].toArray⟩) W2:=run_convert_bytes_back W2 101 9 5 ⟨g,1,none⟩ (lc - 1) [b] Tryz.underlying101 Tryz.underlying5 Tryz.underlying9 (fun j hj=>by
     have hj0:j = 0:=by simpa using hj
     subst hj0
     exact y0)
    rw [show (((1:Nat):Int)) = (1:Int) from rfl]
    by_cases heq:nl = [b]
    ·have e0:(nl == ([b]:List UInt8)) = true:=by rw [beq_iff_eq];exact heq
     have HT2:=hide (uh HST1 heq)
     clear heq
     go_wp2_with fail
     go_roundg (G1 - 1)
     case rel=>exact ⟨2,T,by omega,by go_num,rfl,hide ⟨rfl,(uh HT2).symm,by have:=uh HTE;omega⟩⟩
     case measure=>omega
    ·have e0:(nl == ([b]:List UInt8)) = false:=by rw [beq_eq_false_iff_ne];exact heq
     have HT2:=hide (uh HST2 heq)
     have HWI:=hide (withT_any W2 T (eqT [b] nl) (by omega) (by unfold eqT;simp;omega))
     have HLE:Hid ((wiT T (eqT [b] nl)).length≤20 * (1 + 1)):=hide (by
      have h8:=wiT_len T (eqT [b] nl)
      have h9:(eqT [b] nl).length≤7:=by unfold eqT;simp;omega
      have:=uh HTE
      omega)
     clear heq
     go_wp2_with fail
     rw [eqB]
     refine (uh HWI).mono ?_
     rintro e' w9 ⟨rfl,rfl⟩
     go_wp2_with fail
     go_roundg (G1 - 1)
     case rel=>exact ⟨2,wiT T (eqT [b] nl),by omega,by go_num,rfl,hide ⟨rfl,(uh HT2).symm,uh HLE⟩⟩
     case measure=>omega
   ·have x0:W2.cell? ⟨A,3,none⟩ = some (.int .i64 (cl:Int)):=x0
    have k2:(2:Int) < (vs.length:Int):=by omega
    have kc:(3:Int)≤(lc:Int):=by omega
    have hcv:(convert 101 9 (.slice (some ⟨g,2,none⟩) 1 (lc - 2))).run Tryz.prog W2 = .ok (.string ⟨[b].toArray⟩) W2:=run_convert_bytes_back W2 101 9 5 ⟨g,2,none⟩ (lc - 2) [b] Tryz.underlying101 Tryz.underlying5 Tryz.underlying9 (fun j hj=>by
     have hj0:j = 0:=by simpa using hj
     subst hj0
     exact y0)
    rw [show (((2:Nat):Int)) = (2:Int) from rfl]
    by_cases heq:nl = [b]
    ·have e0:(nl == ([b]:List UInt8)) = true:=by rw [beq_iff_eq];exact heq
     have HT2:=hide (uh HST1 heq)
     clear heq
     go_wp2_with fail
     go_roundg (G1 - 1)
     case rel=>exact ⟨3,T,by omega,by go_num,rfl,hide ⟨rfl,(uh HT2).symm,by have:=uh HTE;omega⟩⟩
     case measure=>omega
    ·have e0:(nl == ([b]:List UInt8)) = false:=by rw [beq_eq_false_iff_ne];exact heq
     have HT2:=hide (uh HST2 heq)
     have HWI:=hide (withT_any W2 T (eqT [b] nl) (by omega) (by unfold eqT;simp;omega))
     have HLE:Hid ((wiT T (eqT [b] nl)).length≤20 * (2 + 1)):=hide (by
      have h8:=wiT_len T (eqT [b] nl)
      have h9:(eqT [b] nl).length≤7:=by unfold eqT;simp;omega
      have:=uh HTE
      omega)
     clear heq
     go_wp2_with fail
     rw [eqB]
     refine (uh HWI).mono ?_
     rintro e' w9 ⟨rfl,rfl⟩
     go_wp2_with fail
     go_roundg (G1 - 1)
     case rel=>exact ⟨3,wiT T (eqT [b] nl),by omega,by go_num,rfl,hide ⟨rfl,(uh HT2).symm,uh HLE⟩⟩
     case measure=>omega
   ·have x0:W2.cell? ⟨A,4,none⟩ = some (.int .i64 (cl:Int)):=x0
    have k2:(3:Int) < (vs.length:Int):=by omega
    have kc:(4:Int)≤(lc:Int):=by omega
    have hcv:(convert 101 9 (.slice (some ⟨g,3,none⟩) 1 (lc - 3))).run Tryz.prog W2 = .ok (.string ⟨[b].toArray⟩) W2:=run_convert_bytes_back W2 101 9 5 ⟨g,3,none⟩ (lc - 3) [b] Tryz.underlying101 Tryz.underlying5 Tryz.underlying9 (fun j hj=>by
     have hj0:j = 0:=by simpa using hj
     subst hj0
     exact y0)
    rw [show (((3:Nat):Int)) = (3:Int) from rfl]
    by_cases heq:nl = [b]
    ·have e0:(nl == ([b]:List UInt8)) = true:=by rw [beq_iff_eq];exact heq
     have HT2:=hide (uh HST1 heq)
     clear heq
     go_wp2_with fail
     go_roundg (G1 - 1)
     case rel=>exact ⟨4,T,by omega,by go_num,rfl,hide ⟨rfl,(uh HT2).symm,by have:=uh HTE;omega⟩⟩
     case measure=>omega
    ·have e0:(nl == ([b]:List UInt8)) = false:=by rw [beq_eq_false_iff_ne];exact heq
     have HT2:=hide (uh HST2 heq)
     have HWI:=hide (withT_any W2 T (eqT [b] nl) (by omega) (by unfold eqT;simp;omega))
     have HLE:Hid ((wiT T (eqT [b] nl)).length≤20 * (3 + 1)):=hide (by
      have h8:=wiT_len T (eqT [b] nl)
      have h9:(eqT [b] nl).length≤7:=by unfold eqT;simp;omega
      have:=uh HTE
      omega)
     clear heq
     go_wp2_with fail
     rw [eqB]
     refine (uh HWI).mono ?_
     rintro e' w9 ⟨rfl,rfl⟩
     go_wp2_with fail
     go_roundg (G1 - 1)
     case rel=>exact ⟨4,wiT T (eqT [b] nl),by omega,by go_num,rfl,hide ⟨rfl,(uh HT2).symm,uh HLE⟩⟩
     case measure=>omega
  ·have hd:decide ((k:Int) < (vs.length:Int)) = false:=by simp;omega
   have hkv:k = vs.length:=by omega
   rw [hkv] at hTe hTl
   have hF:=(uh H).below (uh HC).2.2
   have c5:=hF.c5
   obtain ⟨aa,ac,hav,-,-⟩:=own_slc hF.ap
   subst hav
   have hal:=(uh HT).ln
   have hol:=(uh HT).ok.owLen
   have HAP:=hide hF.ap
   have HI0:Hid (Below W2.heap.size W2 W2∧T = (f.ap.take 0).foldl (wrA nm) T∧T.length≤100 + 20 * 0):=hide ⟨Below.refl _ _,rfl,by omega⟩
   have HT1:=hide hTe
   clear hF hTe hTl hkv
   go_wp2_with fail
   go_loopg [6,57] f.ap.length (fun gn tv iv wx=>∃ (j:Nat) (T2:List UInt8),j + gn = f.ap.length∧iv = .int .i64 j∧tv = .string ⟨T2.toArray⟩∧Hid (Below W2.heap.size W2 wx∧T2 = (f.ap.take j).foldl (wrA nm) T∧T2.length≤100 + 20 * j))
   case atStart=>exact ⟨0,T,by omega,rfl,rfl,HI0⟩
   case round =>
    clear HI0 c5
    obtain ⟨j,T2,hjn,rfl,rfl,hJ⟩:=hrel
    obtain ⟨G2,hG2⟩:∃ G2,G2 = gk:=⟨_,rfl⟩
    obtain ⟨hb,hTe,hTl⟩:=uh hJ
    by_cases hlt2:j < f.ap.length
    ·have hd2:decide ((j:Int) < (f.ap.length:Int)) = true:=by simp;omega
     have hrow:=own_bw (uh HAP) hb
     obtain ⟨go,gc,hgo,-,-⟩:=own_formP hrow hlt2
     simp only [Value.slice.injEq,true_and] at hgo
     obtain ⟨rfl,rfl⟩:=hgo
     obtain ⟨y0,y1,y2⟩:=own_cells hrow hlt2
     have hpl:=(uh HT).ok.ap _ (mem_getD hlt2)
     have hst:(f.ap.take (j + 1)).foldl (wrA nm) T = wrA nm T2 (f.ap.getD j pr0):=by rw [List.take_succ_eq_append_getElem hlt2,List.foldl_append,← hTe,getD_eq hlt2];rfl
     obtain ⟨p,hp⟩:∃ p,p = f.ap.getD j pr0:=⟨_,rfl⟩
     rw [← hp] at y0 y1 y2 hpl hst
     obtain ⟨pk,pl,pr⟩:=p
     simp only at y0 y1 y2 hpl
     obtain ⟨W5,hW5⟩:∃ W5,W5 = wr.alloc (.cells #[Value.int .i64 pk,.int .i64 pl,.int .i64 pr] 182):=⟨_,rfl⟩
     have hbx:Below wr.heap.size wr W5:=by rw [hW5];exact below_boxQ wr _
     have hXb:Bk W5 wr.heap.size 182 [Value.int .i64 pk,.int .i64 pl,.int .i64 pr]:=by rw [hW5];exact Bk.new wr _ _
     obtain ⟨Y,hYe⟩:∃ Y,Y = wr.heap.size:=⟨_,rfl⟩
     rw [← hYe] at hXb
     have hb5:=hb.trans (hbx.mono hb.size)
     have b1:=hXb.cell 1 rfl
     have b2:=hXb.cell 2 rfl
     have n1:=(hb5.cell (uh HC).2.1).trans ((uh HC).1 pl hpl.1)
     have n2:=(hb5.cell (uh HC).2.1).trans ((uh HC).1 pr hpl.2)
     have s1:=(uh HSH).2 pl
     have s2:=(uh HSH).2 pr
     have hwa:wrA nm T2 ⟨pk,pl,pr⟩ = wiT T2 (unT (nm.getD pl []) (nm.getD pr [])):=rfl
     obtain ⟨nl,hnl⟩:∃ nl,nl = nm.getD pl []:=⟨_,rfl⟩
     obtain ⟨nr,hnr⟩:∃ nr,nr = nm.getD pr []:=⟨_,rfl⟩
     rw [← hnl] at n1 s1 hwa
     rw [← hnr] at n2 s2 hwa
     have hul:=unT_len nl nr
     obtain ⟨un,hun⟩:∃ un,un = unT nl nr:=⟨_,rfl⟩
     have HUN:Hid (∀ m:Nat,Calls Tryz.prog 102 #[.string ⟨nl.toArray⟩,.string ⟨nr.toArray⟩] (W5.drewN m) fun e w'=>e = .returned (.string ⟨un.toArray⟩)∧∃ j,w' = W5.drewN j):=hide (fun m=>by rw [hun];exact (unequal_any (W5.drewN m) nl nr (by omega) (by omega)).mono (fun e w' hw=>⟨hw.1,m,hw.2⟩))
     rw [← hun] at hwa hul
     obtain ⟨T3,hT3⟩:∃ T3,T3 = wiT T2 un:=⟨_,rfl⟩
     have HWI:Hid (∀ m:Nat,Calls Tryz.prog 101 #[.string ⟨T2.toArray⟩,.string ⟨un.toArray⟩] (W5.drewN m) fun e w'=>e = .returned (.string ⟨T3.toArray⟩)∧∃ j,w' = W5.drewN j):=hide (fun m=>by rw [hT3];exact (withT_any (W5.drewN m) T2 un (by omega) (by omega)).mono (fun e w' hw=>⟨hw.1,m,hw.2⟩))
     have HN:Hid (Below W2.heap.size W2 W5∧T3 = (f.ap.take (j + 1)).foldl (wrA nm) T∧T3.length≤100 + 20 * (j + 1)):=hide ⟨hb5,by rw [hst,hwa,hT3],by
      have:=wiT_len T2 un
      rw [hT3]
      omega⟩
     have i1:(0:Int)≤(j:Int):=by omega
     have i2:(j:Int) < (f.ap.length:Int):=by omega
     have i3:(pl:Int) < 24:=by omega
     have i4:(pr:Int) < 24:=by omega
     clear hrow hst hp hbx hXb hb5 hwa hnl hnr hun hT3 hb hTe hJ s1 s2 hul hpl
     go_upto_region 13 with fail
     rw [← hW5,← hYe]
     clear hW5 hYe y0 y1 y2
     go_quiet (first | (go_at_call 102;exact uh HUN _) | (go_at_call 101;exact uh HWI _))
     go_wp2_with fail
     go_roundg (G2 - 1)
     case rel=>exact ⟨j + 1,T3,by omega,by go_num,rfl,hide ⟨⟨(uh HN).1.os,(uh HN).1.tape,(uh HN).1.output,(uh HN).1.size,(uh HN).1.block⟩,(uh HN).2⟩⟩
     case measure=>omega
    ·have hd2:decide ((j:Int) < (f.ap.length:Int)) = false:=by simp;omega
     have hjv:j = f.ap.length:=by omega
     rw [hjv,List.take_length] at hTe
     rw [hjv] at hTl
     have hF:=(uh H).below ((uh HC).2.2.trans (hb.mono (uh HC).2.2.size))
     have c6:=hF.c6
     obtain ⟨oa,oc,hov,-,-⟩:=own_slc hF.ow
     subst hov
     have HOW:=hide hF.ow
     have HI1:Hid (Below W2.heap.size W2 wr∧T2 = (f.ow.take 0).foldl (wrO nm) T2∧T2.length≤100 + 20 * f.ap.length + 20 * 0):=hide ⟨hb,rfl,by omega⟩
     have HT2:=hide hTe
     have HBW:=hide hb
     obtain ⟨W3,hW3⟩:∃ W3,W3 = wr:=⟨_,rfl⟩
     rw [← hW3] at HI1 HOW c6 HBW ⊢
     clear hF hTe hTl hjv hb hJ hW3
     go_wp2_with fail
     go_loopg [6,78] f.ow.length (fun gn tv iv wx=>∃ (j:Nat) (T4:List UInt8),j + gn = f.ow.length∧iv = .int .i64 j∧tv = .string ⟨T4.toArray⟩∧Hid (Below W2.heap.size W2 wx∧Below W3.heap.size W3 wx∧T4 = (f.ow.take j).foldl (wrO nm) T2∧T4.length≤100 + 20 * f.ap.length + 20 * j))
     case atStart=>exact ⟨0,T2,by omega,rfl,rfl,hide ⟨(uh HI1).1,Below.refl _ _,(uh HI1).2⟩⟩
     case round =>
      clear HI1 c6
      obtain ⟨i,T4,hin,rfl,rfl,hJ⟩:=hrel
      obtain ⟨G3,hG3⟩:∃ G3,G3 = gk:=⟨_,rfl⟩
      obtain ⟨hb,hb3,hTe,hTl⟩:=uh hJ
      by_cases hlt3:i < f.ow.length
      ·have hd3:decide ((i:Int) < (f.ow.length:Int)) = true:=by simp;omega
       have hrow:=own_bw (uh HOW) hb3
       obtain ⟨go,gc,hgo,-,-⟩:=own_formP hrow hlt3
       simp only [Value.slice.injEq,true_and] at hgo
       obtain ⟨rfl,rfl⟩:=hgo
       obtain ⟨y0,y1,y2⟩:=own_cells hrow hlt3
       have hpl:=(uh HT).ok.ow _ (mem_getD hlt3)
       have hst:(f.ow.take (i + 1)).foldl (wrO nm) T2 = wrO nm T4 (f.ow.getD i pr0):=by rw [List.take_succ_eq_append_getElem hlt3,List.foldl_append,← hTe,getD_eq hlt3];rfl
       obtain ⟨p,hp⟩:∃ p,p = f.ow.getD i pr0:=⟨_,rfl⟩
       rw [← hp] at y0 y1 y2 hpl hst
       obtain ⟨pk,pl,pr⟩:=p
       simp only at y0 y1 y2 hpl
       obtain ⟨W5,hW5⟩:∃ W5,W5 = wr.alloc (.cells #[Value.int .i64 pk,.int .i64 pl,.int .i64 pr] 182):=⟨_,rfl⟩
       have hbx:Below wr.heap.size wr W5:=by rw [hW5];exact below_boxQ wr _
       have hXb:Bk W5 wr.heap.size 182 [Value.int .i64 pk,.int .i64 pl,.int .i64 pr]:=by rw [hW5];exact Bk.new wr _ _
       obtain ⟨Y,hYe⟩:∃ Y,Y = wr.heap.size:=⟨_,rfl⟩
       rw [← hYe] at hXb
       have hb5:=hb.trans (hbx.mono hb.size)
       have hb35:=hb3.trans (hbx.mono hb3.size)
       have b0:=hXb.cell 0 rfl
       have b1:=hXb.cell 1 rfl
       have b2:=hXb.cell 2 rfl
       have n1:=(hb5.cell (uh HC).2.1).trans ((uh HC).1 pl hpl.1)
       have n2:=(hb5.cell (uh HC).2.1).trans ((uh HC).1 pr hpl.2)
       have s1:=(uh HSH).2 pl
       have s2:=(uh HSH).2 pr
       have hwa:wrO nm T4 ⟨pk,pl,pr⟩ = wiT T4 (if pk = 4 then lsT (nm.getD pl []) (nm.getD pr []) else arT (nm.getD pl []) (nm.getD pr [])):=rfl
       obtain ⟨nl,hnl⟩:∃ nl,nl = nm.getD pl []:=⟨_,rfl⟩
       obtain ⟨nr,hnr⟩:∃ nr,nr = nm.getD pr []:=⟨_,rfl⟩
       rw [← hnl] at n1 s1 hwa
       rw [← hnr] at n2 s2 hwa
       have i1:(0:Int)≤(i:Int):=by omega
       have i2:(i:Int) < (f.ow.length:Int):=by omega
       have i3:(pl:Int) < 24:=by omega
       have i4:(pr:Int) < 24:=by omega
       have i5:(0:Int)≤(pl:Int):=by omega
       have i6:(0:Int)≤(pr:Int):=by omega
       by_cases hk:pk = 4
       ·have dk:decide ((pk:Int) = 4) = true:=by simp;omega
        rw [if_pos hk] at hwa
        have HK:=hide hk
        have hul:(lsT nl nr).length = nl.length + nr.length + 5:=by unfold lsT;simp;omega
        obtain ⟨T3,hT3⟩:∃ T3,T3 = wiT T4 (lsT nl nr):=⟨_,rfl⟩
        have HWI:Hid (∀ m:Nat,Calls Tryz.prog 101 #[.string ⟨T4.toArray⟩,.string (⟨#[108,115,40]⟩ ++ ⟨nl.toArray⟩ ++ ⟨#[44]⟩ ++ ⟨nr.toArray⟩ ++ ⟨#[41]⟩)] (W5.drewN m) fun e w'=>e = .returned (.string ⟨T3.toArray⟩)∧∃ j,w' = W5.drewN j):=hide (fun m=>by rw [hT3,lsB];exact (withT_any (W5.drewN m) T4 (lsT nl nr) (by omega) (by omega)).mono (fun e w' hw=>⟨hw.1,m,hw.2⟩))
        have HN:Hid (Below W2.heap.size W2 W5∧Below W3.heap.size W3 W5∧T3 = (f.ow.take (i + 1)).foldl (wrO nm) T2∧T3.length≤100 + 20 * f.ap.length + 20 * (i + 1)):=hide ⟨hb5,hb35,by rw [hst,hwa,hT3],by
         have:=wiT_len T4 (lsT nl nr)
         rw [hT3]
         omega⟩
        have l1:¬ 9223372036854775807 < 3 + nl.length:=by omega
        have l2:¬ 9223372036854775807 < 3 + nl.length + 1:=by omega
        have l3:¬ 9223372036854775807 < 3 + nl.length + 1 + nr.length:=by omega
        have l4:¬ 9223372036854775807 < 3 + nl.length + 1 + nr.length + 1:=by omega
        clear hrow hst hp hbx hXb hb5 hb35 hwa hnl hnr hT3 hb hb3 hTe hJ s1 s2 hul hpl hk
        go_upto_region 18 with fail
        rw [← hW5,← hYe]
        clear hW5 hYe y0 y1 y2
        have hk':(pk:Int) = 4:=by have:=uh HK;omega
        go_wp2_with fail
        go_quiet (first | (go_at_call 101;exact uh HWI _))
        go_wp2_with fail
        go_roundg (G3 - 1)
        case rel=>exact ⟨i + 1,T3,by omega,by go_num,rfl,hide ⟨⟨(uh HN).1.os,(uh HN).1.tape,(uh HN).1.output,(uh HN).1.size,(uh HN).1.block⟩,⟨(uh HN).2.1.os,(uh HN).2.1.tape,(uh HN).2.1.output,(uh HN).2.1.size,(uh HN).2.1.block⟩,(uh HN).2.2⟩⟩
        case measure=>omega
       ·have dk:decide ((pk:Int) = 4) = false:=by simp;omega
        rw [if_neg hk] at hwa
        have hul:(arT nl nr).length = nl.length + nr.length + 4:=by unfold arT;simp;omega
        obtain ⟨T3,hT3⟩:∃ T3,T3 = wiT T4 (arT nl nr):=⟨_,rfl⟩
        have HWI:Hid (∀ m:Nat,Calls Tryz.prog 101 #[.string ⟨T4.toArray⟩,.string (⟨nl.toArray⟩ ++ ⟨#[32,45,62,32]⟩ ++ ⟨nr.toArray⟩)] (W5.drewN m) fun e w'=>e = .returned (.string ⟨T3.toArray⟩)∧∃ j,w' = W5.drewN j):=hide (fun m=>by rw [hT3,arB];exact (withT_any (W5.drewN m) T4 (arT nl nr) (by omega) (by omega)).mono (fun e w' hw=>⟨hw.1,m,hw.2⟩))
        have HN:Hid (Below W2.heap.size W2 W5∧Below W3.heap.size W3 W5∧T3 = (f.ow.take (i + 1)).foldl (wrO nm) T2∧T3.length≤100 + 20 * f.ap.length + 20 * (i + 1)):=hide ⟨hb5,hb35,by rw [hst,hwa,hT3],by
         have:=wiT_len T4 (arT nl nr)
         rw [hT3]
         omega⟩
        have l1:¬ 9223372036854775807 < nl.length + 4:=by omega
        have l2:¬ 9223372036854775807 < nl.length + 4 + nr.length:=by omega
        have hk':¬ ((pk:Int) = 4):=by omega
        clear hrow hst hp hbx hXb hb5 hb35 hwa hnl hnr hT3 hb hb3 hTe hJ s1 s2 hul hpl
        go_upto_region 18 with fail
        rw [← hW5,← hYe]
        clear hW5 hYe y0 y1 y2
        go_wp2_with fail
        go_quiet (first | (go_at_call 101;exact uh HWI _))
        go_wp2_with fail
        go_roundg (G3 - 1)
        case rel=>exact ⟨i + 1,T3,by omega,by go_num,rfl,hide ⟨⟨(uh HN).1.os,(uh HN).1.tape,(uh HN).1.output,(uh HN).1.size,(uh HN).1.block⟩,⟨(uh HN).2.1.os,(uh HN).2.1.tape,(uh HN).2.1.output,(uh HN).2.1.size,(uh HN).2.1.block⟩,(uh HN).2.2⟩⟩
        case measure=>omega
      ·have hd3:decide ((i:Int) < (f.ow.length:Int)) = false:=by simp;omega
       have hiv:i = f.ow.length:=by omega
       rw [hiv,List.take_length] at hTe
       have hW:=uh HWT
       rw [← uh HT1,← uh HT2,← hTe] at hW
       have HBE:Hid (Below w.heap.size w wr):=hide ((uh HC).2.2.trans (hb.mono (uh HC).2.2.size))
       by_cases he:T4 = []
       ·have d0:T4.isEmpty = true:=by rw [he];rfl
        rw [if_pos he] at hW
        have HW:=hide hW
        clear hW he hTe hTl hb hb3 hJ hiv
        go_wp2_with fail
        go_ret
        exact ⟨by rw [uh HW];rfl,uh HBE⟩
       ·have d0:=isE_false he
        rw [if_neg he] at hW
        have HW:=hide hW
        clear hW he hTe hTl hb hb3 hJ hiv
        go_wp2_with fail
        go_ret
        exact ⟨by rw [uh HW];rfl,uh HBE⟩
end
def ivL (r:Rs) (z:Int):List CF:=if z < 0 then [] else r.kn.getD z.toNat []
def ivT (vs:List UInt8) (r:Rs) (z:Int):List (List UInt8):=(ivL r z).map (wrT vs)
theorem memG {α:Type} {l:List α} {n:Nat} {d:α} (h:n < l.length):l.getD n d∈l:=by
 rw [List.getD_eq_getElem?_getD,List.getElem?_eq_getElem h]
 exact List.getElem_mem h
theorem stC_app (M N:List (List UInt8)):stC (M ++ N) = stC M ++ stC N:=by simp [stC]
theorem take_one {xs:List Value} {k:Nat} {a:Value} (h:k < xs.length):(xs.set k a).take (k + 1) = xs.take k ++ [a]:=by
 rw [List.take_add_one,List.take_set_of_le (Nat.le_refl _),List.getElem?_set_self h]
 simp
section
variable {w w':World} {X Q:Nat} {ws:List ByteArray} {ps:PS} {al:List Atm} {vv pv nv fv:Value} {Z:List Nat}
set_option maxRecDepth 100000 in
set_option maxHeartbeats 8000000 in
theorem invariant_any (h:Pa w X Q ws ps al vv pv nv fv Z) (hA:An ps al) (hl:∀ l∈(anR ps.nodes ps.vars.length al).kn,l.length≤1000000000001) (z:Int) :
  Calls Tryz.prog 37 #[.pointer (some ⟨X,0,none⟩),.int .i64 z] w fun e w'=>∃ v,e = .returned v∧w'.ownsRow w.heap.size 9 1 v (ivT ps.vars (anR ps.nodes ps.vars.length al) z).length (stC (ivT ps.vars (anR ps.nodes ps.vars.length al) z))∧(ivT ps.vars (anR ps.nodes ps.vars.length al) z = []→v = .slice none 0 0)∧∃ RB w1,AnaP w X Q ws ps al vv pv nv Z RB w1∧Below w1.heap.size w1 w'∧∀ k,v.ownBlock = some k→w1.heap.size≤k:=by
 obtain ⟨j0,hj0,hy0,hy1,hy2⟩:=info_parts Tryz.infoStr
 have HEM:=hide (lempty_any h.bx)
 have HAN:Hid (∀ n,Calls Tryz.prog 60 #[.pointer (some ⟨X,0,none⟩)] (w.drewN n) fun e w'=>∃ RB,e = .returned (.pointer (some ⟨RB,0,none⟩))∧AnaP w X Q ws ps al vv pv nv Z RB w'):=hide (fun n=>(analyse_any (w:=w.drewN n) (h.of_eq (w':=w.drewN n) (fun _ _=>rfl)) hA).mono (by
  rintro e w' ⟨RB,he,av,kv,FV,L,p1,p2,p3,p4⟩
  exact ⟨RB,he,av,kv,FV,L,p1,p2,⟨p3.os,p3.tape,p3.output,p3.size,p3.block,p3.foot⟩,p4⟩))
 obtain ⟨r,hr⟩:∃ r,r = anR ps.nodes ps.vars.length al:=⟨_,rfl⟩
 rw [← hr] at hl ⊢
 have HR:=hide hr
 have HHL:=hide hl
 have hvl:=hA.v
 clear h hA hr hl
 go_enter Tryz.func37,Tryz.ntmps37
 go_wp2_with (first | (go_at_call 53;refine (uh HEM).mono ?_;rintro e w1 ⟨rfl,n,rfl⟩))
 refine (uh HAN _).mono ?_
 rintro e w2 ⟨RB,rfl,hP⟩
 have hsz:w.heap.size≤w2.heap.size:=by obtain ⟨av,kv,FV,L,p1,p2,p3,p4⟩:=hP;exact p3.size
 have HP:=hide hP
 obtain ⟨av,kv,FV,L,hPa,hFd,-,-⟩:=hP
 rw [← uh HR] at hFd
 have hc2:=hFd.bk.cell 2 rfl
 obtain ⟨ka,kc,hkv,-,-⟩:=own_slc hFd.kr
 have HFD:=hide hFd
 have HPA:=hide hPa
 rw [hkv] at hc2
 have HKV:=hide hkv
 clear HAN HEM hFd hPa hkv
 by_cases hz0:z < 0
 ·have d0:decide (z < 0) = true:=by simp;omega
  have HE:Hid (ivT ps.vars r z = []):=hide (by unfold ivT ivL;rw [if_pos hz0];rfl)
  clear hz0
  go_wp2_with fail
  go_ret
  refine ⟨_,rfl,?_,fun _=>rfl,RB,w2,uh HP,Below.refl _ _,fun k hk=>by cases hk⟩
  rw [uh HE]
  exact ⟨rfl,.inl ⟨rfl,rfl⟩⟩
 ·have d0:decide (z < 0) = false:=by simp;omega
  obtain ⟨n,rfl⟩:∃ n:Nat,z = n:=⟨z.toNat,by omega⟩
  have hiv:ivT ps.vars r (n:Int) = (r.kn.getD n []).map (wrT ps.vars):=by unfold ivT ivL;rw [if_neg hz0,Int.toNat_natCast]
  have hLr:r.kn.length = L.length:=by rw [← (uh HFD).km,List.length_map]
  by_cases hn:n < L.length
  ·have d1:decide ((L.length:Int)≤(n:Int)) = false:=by simp;omega
   have i1:(n:Int) < (L.length:Int):=by omega
   have hle:r.kn.getD n [] = (L.getD n []).map (fun x=>x.f):=by
    rw [← (uh HFD).km,List.getD_eq_getElem?_getD,List.getElem?_map,List.getElem?_eq_getElem hn,List.getD_eq_getElem?_getD,List.getElem?_eq_getElem hn]
    rfl
   have hrow0:=(uh HFD).ke n hn
   have hfl:=(uh HFD).fl
   have hkr:=(uh HFD).kr
   rw [uh HKV] at hkr
   obtain ⟨kb,kcap,hkb,-,-⟩:=own_pos hkr (by omega)
   simp only [Value.slice.injEq,true_and] at hkb
   obtain ⟨rfl,rfl⟩:=hkb
   have x0:=hkr.cellAt n (by omega)
   rw [show FV[n]? = some (FV.getD n vNil) by rw [List.getD_eq_getElem?_getD,List.getElem?_eq_getElem (by omega)];rfl] at x0
   obtain ⟨M,hM⟩:∃ M,M = L.getD n []:=⟨_,rfl⟩
   have hMm:∀ x∈M,IsF w2 x.A x.f x.av x.ov∧Td x.f:=fun x hx=>(uh HFD).fm (L.getD n []) (memG hn) x (by rw [← hM];exact hx)
   have hMl:M.length≤1000000000001:=by
    have h8:=uh HHL (r.kn.getD n []) (memG (by omega))
    rw [hle,List.length_map,← hM] at h8
    exact h8
   rw [← hM] at hrow0 hle
   rw [hle,List.map_map] at hiv
   have hil:(ivT ps.vars r (n:Int)).length = M.length:=by rw [hiv,List.length_map]
   obtain ⟨ma,mc,hmv,-,-⟩:=own_slc hrow0
   rw [hmv] at x0 hrow0
   have HMM:=hide hMm
   have HIV:=hide hiv
   have HROW:=hide hrow0
   have HIL:=hide hil
   clear hle hM hMm hiv hil hrow0 hfl hkr hLr hmv HHL hz0
   by_cases h0:M = []
   ·have d2:((M.length:Int) == (0:Int)) = true:=by rw [h0];rfl
    have HE:Hid (ivT ps.vars r (n:Int) = []):=hide (by rw [uh HIV,h0];rfl)
    clear h0
    go_wp2_with fail
    go_ret
    refine ⟨_,rfl,?_,fun _=>rfl,RB,w2,uh HP,Below.refl _ _,fun k hk=>by cases hk⟩
    rw [uh HE]
    exact ⟨rfl,.inl ⟨rfl,rfl⟩⟩
   ·have hM0:M.length≠0:=fun e=>h0 (List.length_eq_zero_iff.1 e)
    have d2:((M.length:Int) == (0:Int)) = false:=by simp;omega
    have HNE:Hid (ivT ps.vars r (n:Int)≠[]):=hide (by rw [uh HIV];simpa using h0)
    clear h0
    go_wp2_with (at_make;refine wpList_make_full _ rfl _ _ 50 rfl w2.heap.size 9 j0 (.string ⟨#[]⟩) 1 Tryz.underlying50 hj0 hy0 hy1 .i64 .i64 _ _ M.length rfl rfl rfl rfl (by rw [hy2];omega) (by unfold maxLen;omega) (Nat.le_refl _) ?_)
    intro w3 hown3 hgrow3
    have hb3:Below w2.heap.size w2 w3:=(Below.refl _ _).grown hgrow3 (Nat.le_refl _) (fun k h=>by cases h)
    obtain ⟨b,hbe⟩:∃ b,b = w2.heap.size:=⟨_,rfl⟩
    have hown3':w3.ownsRow w2.heap.size 9 1 (.slice (some ⟨b,0,none⟩) M.length M.length) M.length (madeCells #[Value.string ⟨#[]⟩] M.length).toList:=by rw [hbe];exact hown3
    have HI0:Hid (w3.ownsRow w2.heap.size 9 1 (.slice (some ⟨b,0,none⟩) M.length M.length) M.length (madeCells #[Value.string ⟨#[]⟩] M.length).toList∧((madeCells #[Value.string ⟨#[]⟩] M.length).toList).take 0 = stC ((M.take 0).map (fun x=>wrT ps.vars x.f))∧Below w2.heap.size w2 w3):=hide ⟨hown3',by simp [stC],hb3⟩
    rw [← hbe]
    have HBE:=hide hbe
    have q0:=(uh HPA).bx.cell 0 rfl
    have q1:=(uh HPA).cp.bk.cell 1 rfl
    have hXl:=(uh HPA).bx.lt
    have hQl:=(uh HPA).cp.bk.lt
    clear hown3 hgrow3 hb3 hown3' hbe hc2 x0
    go_wp2_with fail
    go_loopg [8] M.length (fun gn iv wx=>∃ (k:Nat) (xs:List Value),k + gn = M.length∧iv = .int .i64 k∧Hid (wx.ownsRow w2.heap.size 9 1 (.slice (some ⟨b,0,none⟩) M.length M.length) M.length xs∧xs.take k = stC ((M.take k).map (fun x=>wrT ps.vars x.f))∧Below w2.heap.size w2 wx))
    case atStart=>exact ⟨0,_,by omega,rfl,HI0⟩
    case round =>
     clear HI0
     obtain ⟨k,xs,hkn,rfl,hI⟩:=hrel
     obtain ⟨G1,hG1⟩:∃ G1,G1 = gk:=⟨_,rfl⟩
     obtain ⟨h1,h2,h3⟩:=uh hI
     by_cases hlt:k < M.length
     ·have hd:decide ((k:Int) < (M.length:Int)) = true:=by simp;omega
      have c0:wr.cell? ⟨X,0,none⟩ = some (.pointer (some ⟨Q,0,none⟩)):=(h3.cell hXl).trans q0
      have c1:wr.cell? ⟨Q,1,none⟩ = some vv:=(h3.cell hQl).trans q1
      have hr2:=own_bw (uh HROW) h3
      obtain ⟨g,cap,hgv,-,-,hgl⟩:=own_pos (uh HROW) (by omega)
      simp only [Value.slice.injEq,true_and] at hgv
      obtain ⟨rfl,rfl⟩:=hgv
      have x0:=hr2.cellAt k (by omega)
      have hxk:(M.map FE.p)[k]? = some (.pointer (some ⟨(M[k]).A,0,none⟩)):=by rw [List.getElem?_map,List.getElem?_eq_getElem hlt];rfl
      rw [hxk] at x0
      have hmem:=uh HMM M[k] (List.getElem_mem hlt)
      have hst:(M.take (k + 1)).map (fun x=>wrT ps.vars x.f) = (M.take k).map (fun x=>wrT ps.vars x.f) ++ [wrT ps.vars M[k].f]:=by rw [List.take_succ_eq_append_getElem hlt,List.map_append];rfl
      have HWR:Hid (∀ W':World,Below wr.heap.size wr W'→Calls Tryz.prog 63 #[.pointer (some ⟨M[k].A,0,none⟩),vv] W' fun e w''=>e = .returned (.string ⟨(wrT ps.vars M[k].f).toArray⟩)∧Below wr.heap.size wr w''):=hide (fun W' hb=>by
       have hb2:=h3.trans (hb.mono h3.size)
       exact (write_any (hmem.1.below hb2) hmem.2 ((uh HPA).cp.below hb2).vr hvl).mono (fun e w'' hw=>⟨hw.1,hb.trans (hw.2.mono hb.size)⟩))
      obtain ⟨fA,hfA⟩:∃ fA,fA = M[k].A:=⟨_,rfl⟩
      obtain ⟨T,hT⟩:∃ T,T = wrT ps.vars M[k].f:=⟨_,rfl⟩
      rw [← hfA] at x0 HWR
      rw [← hT] at HWR hst
      have HST:=hide hst
      have H1:=hide h1
      have H2:=hide h2
      have H3:=hide h3
      have hXw:=Nat.lt_of_lt_of_le hXl h3.size
      have hQw:=Nat.lt_of_lt_of_le hQl h3.size
      have hgw:=Nat.lt_of_lt_of_le hgl h3.size
      have k1:(0:Int)≤(k:Int):=by omega
      have k2:(k:Int) < (M.length:Int):=by omega
      clear h1 h2 h3 hr2 hxk hmem hst hfA hT hI
      have nb1:¬ (b = g):=by have:=uh HBE;omega
      have nb2:¬ (b = X):=by have:=uh HBE;omega
      have nb3:¬ (b = Q):=by have:=uh HBE;omega
      go_upto_region 11 with fail
      go_region_held3 (fun W=>W.cell? ⟨g,k,none⟩ = some (.pointer (some ⟨fA,0,none⟩))∧W.cell? ⟨X,0,none⟩ = some (.pointer (some ⟨Q,0,none⟩))∧W.cell? ⟨Q,1,none⟩ = some vv) (first | (simp only [World.cell?_drew,x0,c0,c1,and_self];done) | (simp only [u0,u1,u2,and_self];done) | (simp [World.cell?_setCell_far,u0,u1,u2,nb1,nb2,nb3];done))
       (first
        | (go_at_call 63;refine (uh HWR _ (Below.refl _ _).drew).mono ?_;rintro e w6 ⟨rfl,hb6⟩;have u0:=(hb6.cell hgw).trans x0;have u1:=(hb6.cell hXw).trans c0;have u2:=(hb6.cell hQw).trans c1;have h16:=own_bw (uh H1) hb6;obtain ⟨yv,y0⟩:∃ yv,w6.cell? ⟨b,k,none⟩ = some yv:=⟨_,(h16.cellAt k (by rw [Nat.mul_one];exact hlt)).trans (List.getElem?_eq_getElem (by rw [h16.1];omega))⟩;have z6:=h16.frozenAt k;have HB6:=hide hb6;have H16:=hide h16;clear hb6 h16))
      all_goals
       go_wp2_with fail
       go_roundg (G1 - 1)
       case rel=>exact ⟨k + 1,xs.set k (.string ⟨T.toArray⟩),by omega,by go_num,hide ⟨((uh H16).stored k (.string ⟨T.toArray⟩)).1,by rw [take_one (by have:=(uh H16).1;omega),uh H2,uh HST,stC_app];rfl,((uh H3).trans ((uh HB6).mono (uh H3).size)).setCell (p:=⟨b,k,none⟩) (by rw [uh HBE];exact Nat.le_refl _) _⟩⟩
       case measure=>omega
     ·have hd:decide ((k:Int) < (M.length:Int)) = false:=by simp;omega
      have hxs:xs = stC (ivT ps.vars r (n:Int)):=by
       have h4:=h2
       rw [List.take_of_length_le (by rw [h1.1];omega),List.take_of_length_le (by omega)] at h4
       rw [uh HIV]
       exact h4
      have HN:=hide (And.intro (show wr.ownsRow w2.heap.size 9 1 (.slice (some ⟨b,0,none⟩) M.length M.length) M.length (stC (ivT ps.vars r (n:Int))) by rw [← hxs];exact h1) h3)
      clear h1 h2 h3 hI hxs
      go_wp2_with fail
      go_ret
      exact ⟨_,rfl,by rw [uh HIL];exact own_le (uh HN).1 hsz,fun e=>absurd e (uh HNE),RB,w2,uh HP,(uh HN).2,fun k hk=>by (have e0:=uh HBE;have e1:b = k:=(by injection hk);omega)⟩
  ·have d1:decide ((L.length:Int)≤(n:Int)) = true:=by simp;omega
   have HE:Hid (ivT ps.vars r (n:Int) = []):=hide (by rw [hiv,List.getD_eq_getElem?_getD,List.getElem?_eq_none (by omega)];rfl)
   clear hz0 hiv hLr
   go_wp2_with fail
   go_ret
   refine ⟨_,rfl,?_,fun _=>rfl,RB,w2,uh HP,Below.refl _ _,fun k hk=>by cases hk⟩
   rw [uh HE]
   exact ⟨rfl,.inl ⟨rfl,rfl⟩⟩
end
end Go.Proofs.YtciihepbeacppaaGreat
