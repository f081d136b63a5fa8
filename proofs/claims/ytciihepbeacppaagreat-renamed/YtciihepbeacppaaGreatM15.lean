import Derived.Test.YtciihepbeacppaaGreatM14
import Derived.Deep.RegionHeld3
namespace Go.Proofs.YtciihepbeacppaaGreat
open Go.RowKit
set_option linter.unusedVariables false
theorem own_take {w:World} {B e sz n k cap:Nat} {a:Option Addr} {xs:List Value} (h:w.ownsRow B e sz (.slice a n cap) n xs) (hk:k≤n):w.ownsRow B e sz (.slice a k cap) k (xs.take (k * sz)):=by
 have hl:=h.1
 have hks:k * sz≤n * sz:=Nat.mul_le_mul_right _ hk
 rcases h.2 with ⟨h',hn⟩ | ⟨g',cap',cur,h',hb,hg,hnc,hcm,hcs,htake⟩
 ·simp only [Value.slice.injEq] at h'
  obtain ⟨rfl,h2,rfl⟩:=h'
  have hn0:n = 0:=by omega
  have hk0:k = 0:=by omega
  subst hn0
  subst hk0
  refine ⟨by simp,.inl ⟨rfl,?_⟩⟩
  simp
 ·simp only [Value.slice.injEq] at h'
  obtain ⟨rfl,-,rfl⟩:=h'
  refine ⟨by rw [List.length_take];omega,.inr ⟨g',cap,cur,rfl,hb,hg,by omega,hcm,hcs,?_⟩⟩
  rw [← htake,List.take_take,Nat.min_eq_left (by omega)]
theorem prCells_take:∀ (l:List Pr) (k:Nat),(prCells l).take (k * 3) = prCells (l.take k)
 | [],k=>by simp [prCells]
 | p :: l,0=>by simp [prCells]
 | p :: l,k + 1=>by
  have h1:=prCells_take l k
  have hx:∀ (y:Pr) (m:List Pr),prCells (y :: m) = [Value.int .i64 y.k,.int .i64 y.l,.int .i64 y.r] ++ prCells m:=fun y m=>rfl
  rw [List.take_succ_cons,hx,hx,← h1,List.take_append]
  simp only [List.length_cons,List.length_nil]
  rw [List.take_of_length_le (by simp;omega),show (k + 1) * 3 - (0 + 1 + 1 + 1) = k * 3 by omega]
theorem prCells_put {l:List Pr} {i:Nat} (hi:i < l.length) (p:Pr):(((prCells l).set (i * 3) (.int .i64 (p.k:Int))).set (i * 3 + 1) (.int .i64 (p.l:Int))).set (i * 3 + 2) (.int .i64 (p.r:Int)) = prCells (l.set i p):=by
 have g1:(l.set i ⟨p.k,(l.getD i pr0).l,(l.getD i pr0).r⟩).getD i pr0 = ⟨p.k,(l.getD i pr0).l,(l.getD i pr0).r⟩:=by
  rw [List.getD_eq_getElem?_getD,List.getElem?_set_self hi];rfl
 have g2:((l.set i ⟨p.k,(l.getD i pr0).l,(l.getD i pr0).r⟩).set i ⟨p.k,p.l,(l.getD i pr0).r⟩).getD i pr0 = ⟨p.k,p.l,(l.getD i pr0).r⟩:=by
  rw [List.getD_eq_getElem?_getD,List.getElem?_set_self (by simpa using hi)];rfl
 rw [prCells_set0 hi,prCells_set1 (by simpa using hi),g1,prCells_set2 (by simpa using hi),g2,List.set_set,List.set_set]
def arJ (L:List Pr) (x:Pr) (j:Nat):List Pr:=L.take j ++ x :: L.drop j
theorem arJ_len {L:List Pr} {x:Pr} {j:Nat} (hj:j≤L.length):(arJ L x j).length = L.length + 1:=by unfold arJ;simp;omega
theorem arJ_get {L:List Pr} {x:Pr} {j i:Nat} (hj:j≤L.length) (hi:i < j):(arJ L x j).getD i pr0 = L.getD i pr0:=by
 unfold arJ
 rw [List.getD_eq_getElem?_getD,List.getElem?_append_left (by simp;omega),List.getElem?_take,if_pos hi,← List.getD_eq_getElem?_getD]
theorem arJ_put {L:List Pr} {x y:Pr} {j:Nat} (hj:j≤L.length):(arJ L x j).set j y = arJ L y j:=by
 unfold arJ
 have e:(L.take j).length = j:=by simp;omega
 rw [List.set_append_right _ _ (by omega),e,Nat.sub_self,List.set_cons_zero]
theorem arJ_down {L:List Pr} {j:Nat} (hj:j < L.length):arJ L (L.getD j pr0) (j + 1) = arJ L (L.getD j pr0) j:=by
 unfold arJ
 rw [getD_eq hj,List.take_add_one,List.getElem?_eq_getElem hj,List.drop_eq_getElem_cons hj,List.append_assoc]
 rfl
theorem ddF_ne:∀ (l:List Pr) {a:List Pr},a≠[]→l.foldl ddS a≠[]
 | [],_,h=>h
 | p :: r,a,h=>by
  rw [List.foldl_cons]
  refine ddF_ne r ?_
  unfold ddS
  split
  ·simp
  ·exact h
theorem ddF_some {l:List Pr} (h:l≠[]):l.foldl ddS []≠[]:=by
 cases l with
 | nil=>exact absurd rfl h
 | cons p r =>
  rw [List.foldl_cons]
  refine ddF_ne r ?_
  unfold ddS
  simp
theorem ddF_len:∀ (l:List Pr) {a:List Pr},(l.foldl ddS a).length≤a.length + l.length
 | [],a=>by simp
 | p :: r,a=>by
  rw [List.foldl_cons]
  have h1:=ddF_len r (a:=ddS a p)
  have h2:(ddS a p).length≤a.length + 1:=by unfold ddS;split <;> simp
  simp only [List.length_cons]
  omega
theorem prE_int (p q:Pr):((p.k:Int) == (q.k:Int) && ((p.l:Int) == (q.l:Int) && (p.r:Int) == (q.r:Int))) = prE p q:=by
 unfold prE
 rw [nat_beq,nat_beq,nat_beq,Bool.and_assoc]
theorem put3 {W:World} {B g cap n i:Nat} {L:List Pr} (hr:W.ownsRow B 182 3 (.slice (some ⟨g,0,none⟩) n cap) n (prCells L)) (hn:n = L.length) (hi:i < n) (p:Pr) :
  (((W.setCell ⟨g,i * 3,none⟩ (.int .i64 (p.k:Int))).setCell ⟨g,i * 3 + 1,none⟩ (.int .i64 (p.l:Int))).setCell ⟨g,i * 3 + 2,none⟩ (.int .i64 (p.r:Int))).ownsRow B 182 3 (.slice (some ⟨g,0,none⟩) n cap) n (prCells (L.set i p)) ∧
  ((∃ u,W.cell? ⟨g,i * 3,none⟩ = some u)∧(∃ u,W.cell? ⟨g,i * 3 + 1,none⟩ = some u)∧∃ u,W.cell? ⟨g,i * 3 + 2,none⟩ = some u) ∧
  W.frozen? ⟨g,i * 3,none⟩ = false∧W.frozen? ⟨g,i * 3 + 1,none⟩ = false∧W.frozen? ⟨g,i * 3 + 2,none⟩ = false:=by
 subst hn
 have r3:=(((hr.stored (i * 3) (.int .i64 (p.k:Int))).1.stored (i * 3 + 1) (.int .i64 (p.l:Int))).1.stored (i * 3 + 2) (.int .i64 (p.r:Int))).1
 rw [prCells_put hi] at r3
 obtain ⟨x0,x1,x2⟩:=own_cells (own_le hr (Nat.zero_le _)) hi
 exact ⟨r3,⟨⟨_,x0⟩,⟨_,x1⟩,⟨_,x2⟩⟩,hr.frozenAt _,hr.frozenAt _,hr.frozenAt _⟩
section
variable {w:World} {v:Value} {l:List Pr}
set_option maxRecDepth 100000 in
set_option maxHeartbeats 8000000 in
theorem sorted_any (h:w.ownsRow 0 182 3 v l.length (prCells l)) (hl:l.length≤100000):Calls Tryz.prog 226 #[v] w fun e w'=>∃ v',e = .returned v'∧w'.ownsRow w.heap.size 182 3 v' (srL l).length (prCells (srL l))∧Below w.heap.size w w':=by
 obtain ⟨i0,hi0,hz0,hz1,hz2⟩:=info_parts Tryz.infoPair
 obtain ⟨va,vc,hv',hvn,hvm⟩:=own_slc h
 subst hv'
 have H:=hide h
 have HR0:Hid ((w.alloc (.cells #[] 182)).ownsRow w.heap.size 182 3 (.slice (some ⟨w.heap.size,0,none⟩) 0 0) ((l.take 0).foldl insP []).length (prCells ((l.take 0).foldl insP []))∧Below w.heap.size w (w.alloc (.cells #[] 182))):=hide ⟨World.ownsRow_lit (base:=w.heap.size) (e:=182) (size:=3) w #[] 0 (Nat.le_refl _) (by simp [maxLen]) rfl,below_boxQ w _⟩
 clear h
 go_enter Tryz.func226,Tryz.ntmps226
 go_wp2_with fail
 go_loopg [3,12] l.length (fun gn rv i wx=>∃ (k:Nat),k + gn = l.length∧i = .int .i64 k∧Hid (wx.ownsRow w.heap.size 182 3 rv ((l.take k).foldl insP []).length (prCells ((l.take k).foldl insP []))∧Below w.heap.size w wx))
 case atStart=>exact ⟨0,by omega,rfl,HR0⟩
 case round =>
  clear HR0
  obtain ⟨k,hkn,rfl,hI⟩:=hrel
  obtain ⟨G,hG⟩:∃ G,G = gk:=⟨_,rfl⟩
  obtain ⟨ra,rc,hrv,-,-⟩:=own_slc (uh hI).1
  subst hrv
  have hin:=insF_srt (l.take k) (a:=[]) List.Pairwise.nil
  have hlen:=hin.2.2
  rw [List.length_take] at hlen
  simp only [List.length_nil,Nat.zero_add] at hlen
  by_cases hlt:k < l.length
  ·have hd:decide ((k:Int) < (l.length:Int)) = true:=by simp;omega
   have hF:=own_bw (uh H) (uh hI).2
   obtain ⟨g,cap,hgv,-,-⟩:=own_formP hF hlt
   simp only [Value.slice.injEq,true_and] at hgv
   obtain ⟨rfl,rfl⟩:=hgv
   obtain ⟨x0,x1,x2⟩:=own_cells hF hlt
   have hfs:=foldl_step (g:=insP) (a:=[]) hlt
   obtain ⟨p,hp⟩:∃ p,p = l.getD k pr0:=⟨_,rfl⟩
   rw [← hp] at x0 x1 x2 hfs
   obtain ⟨L,hL⟩:∃ L,L = (l.take k).foldl insP []:=⟨_,rfl⟩
   rw [← hL] at hI hfs hlen ⊢
   have hLk:L.length = k:=by omega
   have HROW:=hide ((uh hI).1.alloc (.cells #[.int .i64 (p.k:Int),.int .i64 (p.l:Int),.int .i64 (p.r:Int)] 182))
   have HB1:=hide ((uh hI).2.alloc (uh hI).2.size (.cells #[.int .i64 (p.k:Int),.int .i64 (p.l:Int),.int .i64 (p.r:Int)] 182))
   have HBX:=hide (Bk.new wr 182 [.int .i64 (p.k:Int),.int .i64 (p.l:Int),.int .i64 (p.r:Int)])
   have hrl:=(uh hI).1.lt
   have HRL:=hide hrl
   have HFS:=hide hfs
   have i1:(0:Int)≤(k:Int):=by omega
   have i2:(k:Int) < (l.length:Int):=by omega
   have hLb:L.length≤100000:=by omega
   have HLK:=hide hLk
   have hsz:=(uh hI).2.size
   clear hp hF hfs hL hlen hin hI hrl hLk
   go_wp2_with (at_builtin;refine wpList_app1 _ rfl (.tmp 16) (.tmp 18) 177 rfl w.heap.size 182 i0 _ 3 24 Tryz.underlying177 hi0 hz0 hz1 hz2 rfl (by decide) _ L.length (prCells L) rfl ((uh HROW).alloc _) ⟨_,0,none⟩ 1 [.int .i64 (p.k:Int),.int .i64 (p.l:Int),.int .i64 (p.r:Int)] rfl rfl (new_cells _ _ (by simp) [.int .i64 (p.k:Int),.int .i64 (p.l:Int),.int .i64 (p.r:Int)] _) (prC_one p) (by omega) (by omega) (by simp;omega) ?_)
   intro g4 cap4 w4 hown4 hgrow4 hblk4
   have hb4:Below w.heap.size w w4:=by
    have hb:=(uh HB1).alloc (uh HB1).size (.cells #[.int .i64 (p.k:Int),.int .i64 (p.l:Int),.int .i64 (p.r:Int)] 182)
    exact hb.grown hgrow4 hb.size (fun k hk=>((uh HROW).lt k hk).1)
   obtain ⟨X,hX⟩:∃ X,X = wr.heap.size:=⟨_,rfl⟩
   have hX4:Bk w4 X 182 [.int .i64 (p.k:Int),.int .i64 (p.l:Int),.int .i64 (p.r:Int)]:=by
    rw [hX]
    refine ((uh HBX).alloc _).of_eq (hgrow4.block _ (by simp;omega) (fun e=>?_))
    have:=(uh HRL _ e.symm).2
    omega
   have hgX:g4≠X:=by
    rw [hX]
    rintro rfl
    rcases hblk4 with e | e
    ·have:=(uh HRL _ e.symm).2
     omega
    ·omega
   have hrow4:w4.ownsRow w.heap.size 182 3 (.slice (some ⟨g4,0,none⟩) (L.length + 1) cap4) (L.length + 1) (prCells (arJ L p L.length)):=by
    have e:arJ L p L.length = L ++ [p]:=by unfold arJ;rw [List.take_length,List.drop_length]
    rw [e,prCells_app]
    exact hown4
   have HI1:Hid (w4.ownsRow w.heap.size 182 3 (.slice (some ⟨g4,0,none⟩) (L.length + 1) cap4) (L.length + 1) (prCells (arJ L p L.length))∧Bk w4 X 182 [.int .i64 (p.k:Int),.int .i64 (p.l:Int),.int .i64 (p.r:Int)]∧Below w.heap.size w w4):=hide ⟨hrow4,hX4,hb4⟩
   have HGX:=hide hgX
   have HX:=hide hX
   rw [← hX]
   clear hown4 hgrow4 hblk4 hb4 hX4 hrow4 hX x0 x1 x2 HROW HBX hgX
   go_wp2_with fail
   go_loopg [6] L.length (fun gn i wx=>∃ (x:Pr),gn≤L.length∧i = .int .i64 gn∧whr p L gn = whr p L L.length∧Hid (wx.ownsRow w.heap.size 182 3 (.slice (some ⟨g4,0,none⟩) (L.length + 1) cap4) (L.length + 1) (prCells (arJ L x gn))∧Bk wx X 182 [.int .i64 (p.k:Int),.int .i64 (p.l:Int),.int .i64 (p.r:Int)]∧Below w.heap.size w wx))
   case atStart=>exact ⟨p,Nat.le_refl _,by go_num,rfl,HI1⟩
   case round =>
    clear HI1
    obtain ⟨x,hj,rfl,hwh,hJ⟩:=hrel
    obtain ⟨b0,b1,b2⟩:wr.cell? ⟨X,0,none⟩ = some (.int .i64 (p.k:Int))∧wr.cell? ⟨X,1,none⟩ = some (.int .i64 (p.l:Int))∧wr.cell? ⟨X,2,none⟩ = some (.int .i64 (p.r:Int)):=⟨(uh hJ).2.1.cell 0 rfl,(uh hJ).2.1.cell 1 rfl,(uh hJ).2.1.cell 2 rfl⟩
    cases gk with
    | zero =>
     have HWH:=hide hwh
     have HAL:=hide (arJ_len (L:=L) (x:=x) hj)
     have d0:decide ((0:Int) < 0) = false:=by decide
     clear hwh
     obtain ⟨w5,hw5⟩:∃ w5,w5 = wr:=⟨_,rfl⟩
     have HB5:Hid (Below wr.heap.size wr w5):=hide (by rw [hw5];exact Below.refl _ _)
     have hb5:=uh HB5
     have hr5:=own_bw (uh hJ).1 hb5
     have hX5:=(uh hJ).2.1.below hb5
     obtain ⟨r6,⟨⟨u0,y0⟩,⟨u1,y1⟩,⟨u2,y2⟩⟩,f0,f1,f2⟩:=put3 hr5 (uh HAL).symm (i:=0) (by omega) p
     rw [arJ_put hj] at r6
     have hge:w.heap.size≤g4:=((uh hJ).1.lt g4 rfl).1
     have hb6:=((((uh hJ).2.2.trans (hb5.mono (uh hJ).2.2.size)).setCell (p:=⟨g4,(0) * 3,none⟩) hge (.int .i64 (p.k:Int))).setCell (p:=⟨g4,(0) * 3 + 1,none⟩) hge (.int .i64 (p.l:Int))).setCell (p:=⟨g4,(0) * 3 + 2,none⟩) hge (.int .i64 (p.r:Int))
     have z0:=hX5.cell 0 rfl
     have z1:=hX5.cell 1 rfl
     have z2:=hX5.cell 2 rfl
     have HN:Hid (((((w5.setCell ⟨g4,(0) * 3,none⟩ (.int .i64 (p.k:Int))).setCell ⟨g4,(0) * 3 + 1,none⟩ (.int .i64 (p.l:Int))).setCell ⟨g4,(0) * 3 + 2,none⟩ (.int .i64 (p.r:Int)))).ownsRow w.heap.size 182 3 (.slice (some ⟨g4,0,none⟩) (L.length + 1) cap4) ((l.take (k + 1)).foldl insP []).length (prCells ((l.take (k + 1)).foldl insP []))∧Below w.heap.size w ((((w5.setCell ⟨g4,(0) * 3,none⟩ (.int .i64 (p.k:Int))).setCell ⟨g4,(0) * 3 + 1,none⟩ (.int .i64 (p.l:Int))).setCell ⟨g4,(0) * 3 + 2,none⟩ (.int .i64 (p.r:Int))))):=hide ⟨by
      have e:(l.take (k + 1)).foldl insP [] = arJ L p (0):=by rw [uh HFS];unfold insP arJ;rw [← uh HWH];rfl
      rw [e,arJ_len hj]
      exact r6,hb6⟩
     have i5:(0:Int) < (L.length:Int) + 1:=by omega
     clear hb5 hr5 hX5 r6 hb6 hge HB5
     subst hw5
     go_wp2_with fail
     go_quiet (fail)
     go_wp2_with fail
     go_roundg (G - 1)
     case rel=>exact ⟨k + 1,by omega,by go_num,hide ⟨(uh HN).1,⟨(uh HN).2.os,(uh HN).2.tape,(uh HN).2.output,(uh HN).2.size,(uh HN).2.block⟩⟩⟩
     case measure=>omega
    | succ m =>
     have hr:=(uh hJ).1
     have hal:=arJ_len (L:=L) (x:=x) hj
     have hr':wr.ownsRow w.heap.size 182 3 (.slice (some ⟨g4,0,none⟩) (arJ L x (m + 1)).length cap4) (arJ L x (m + 1)).length (prCells (arJ L x (m + 1))):=by rw [hal];exact hr
     obtain ⟨x0,x1,x2⟩:=own_cells (own_le hr' (Nat.zero_le _)) (i:=m) (by rw [hal];omega)
     rw [arJ_get hj (by omega)] at x0 x1 x2
     have hwm:whr p L (m + 1) = if bfB p (L.getD m pr0) = true then whr p L m else m + 1:=rfl
     have hdn:=arJ_down (L:=L) (j:=m) (by omega)
     have hpu:=arJ_put (L:=L) (x:=x) (y:=L.getD m pr0) hj
     obtain ⟨q,hq⟩:∃ q,q = L.getD m pr0:=⟨_,rfl⟩
     rw [← hq] at x0 x1 x2 hwm hdn hpu
     have HBE:Hid (∀ W:World,Calls Tryz.prog 249 #[.agg #[.int .i64 (p.k:Int),.int .i64 (p.l:Int),.int .i64 (p.r:Int)],.agg #[.int .i64 (q.k:Int),.int .i64 (q.l:Int),.int .i64 (q.r:Int)]] W fun e w'=>e = .returned (.bool (bfB p q))∧Below W.heap.size W w'):=hide (fun W=>before_any p q)
     have d0:decide ((0:Int) < (m:Int) + 1) = true:=by simp
     have i3:(0:Int)≤(m:Int):=by omega
     have i4:(m:Int) < (L.length:Int) + 1:=by omega
     have hq0:IntKind.i64.wrap (m:Int) = (m:Int):=by rw [IntKind.wrap_i64];omega
     have hXl:=(uh hJ).2.1.lt
     have hgl:=((uh hJ).1.lt g4 rfl).2
     have HWM:=hide hwm
     have HDN:=hide hdn
     have HPU:=hide hpu
     have HAL:=hide hal
     have HWH:=hide hwh
     clear hr hr' hal hwm hdn hpu hq hwh
     cases hbf:bfB p q with
     | true =>
      rw [hbf] at HBE HWM
      clear hbf
      go_wp2_with fail
      go_region_held3 (fun W=>W.cell? ⟨X,0,none⟩ = some (.int .i64 (p.k:Int))∧W.cell? ⟨X,1,none⟩ = some (.int .i64 (p.l:Int))∧W.cell? ⟨X,2,none⟩ = some (.int .i64 (p.r:Int))∧W.cell? ⟨g4,m * 3,none⟩ = some (.int .i64 (q.k:Int))∧W.cell? ⟨g4,m * 3 + 1,none⟩ = some (.int .i64 (q.l:Int))∧W.cell? ⟨g4,m * 3 + 2,none⟩ = some (.int .i64 (q.r:Int))) (first | (simp only [World.cell?_drew,b0,b1,b2,x0,x1,x2,and_self];done) | (simp only [q0,q1,q2,q3,q4,q5,and_self];done))
       (first
        | (go_at_call 249;refine (uh HBE _).mono ?_;rintro e w5 ⟨rfl,hb5⟩;have HB5:Hid (Below wr.heap.size wr w5):=hide ⟨hb5.os,hb5.tape,hb5.output,hb5.size,hb5.block⟩;have q0:=((uh HB5).cell hXl).trans b0;have q1:=((uh HB5).cell hXl).trans b1;have q2:=((uh HB5).cell hXl).trans b2;have q3:=((uh HB5).cell hgl).trans x0;have q4:=((uh HB5).cell hgl).trans x1;have q5:=((uh HB5).cell hgl).trans x2;clear hb5))
      have hb5:=uh HB5
      have hr5:=own_bw (uh hJ).1 hb5
      have hX5:=(uh hJ).2.1.below hb5
      obtain ⟨r6,⟨⟨u0,y0⟩,⟨u1,y1⟩,⟨u2,y2⟩⟩,f0,f1,f2⟩:=put3 hr5 (uh HAL).symm (i:=m + 1) (by omega) q
      rw [uh HPU,uh HDN] at r6
      have hge:w.heap.size≤g4:=((uh hJ).1.lt g4 rfl).1
      have hb6:=((((uh hJ).2.2.trans (hb5.mono (uh hJ).2.2.size)).setCell (p:=⟨g4,(m + 1) * 3,none⟩) hge (.int .i64 (q.k:Int))).setCell (p:=⟨g4,(m + 1) * 3 + 1,none⟩) hge (.int .i64 (q.l:Int))).setCell (p:=⟨g4,(m + 1) * 3 + 2,none⟩) hge (.int .i64 (q.r:Int))
      have hX6:=((hX5.setO (p:=⟨g4,(m + 1) * 3,none⟩) (uh HGX) (.int .i64 (q.k:Int))).setO (p:=⟨g4,(m + 1) * 3 + 1,none⟩) (uh HGX) (.int .i64 (q.l:Int))).setO (p:=⟨g4,(m + 1) * 3 + 2,none⟩) (uh HGX) (.int .i64 (q.r:Int))
      have HN:=hide (And.intro r6 (And.intro hX6 hb6))
      have i5:(m:Int) + 1 < (L.length:Int) + 1:=by omega
      have i6:(0:Int)≤(m:Int) + 1:=by omega
      have HW2:Hid (whr p L m = whr p L L.length):=hide (by rw [← uh HWH,uh HWM];rfl)
      clear hb5 hr5 hX5 r6 hb6 hX6 hge
      go_wp2_with fail
      go_roundg m
      case rel=>exact ⟨q,by omega,by go_num,uh HW2,HN⟩
      case measure=>omega
     | false =>
      rw [hbf] at HBE HWM
      clear hbf
      go_wp2_with fail
      go_region_held3 (fun W=>W.cell? ⟨X,0,none⟩ = some (.int .i64 (p.k:Int))∧W.cell? ⟨X,1,none⟩ = some (.int .i64 (p.l:Int))∧W.cell? ⟨X,2,none⟩ = some (.int .i64 (p.r:Int))∧W.cell? ⟨g4,m * 3,none⟩ = some (.int .i64 (q.k:Int))∧W.cell? ⟨g4,m * 3 + 1,none⟩ = some (.int .i64 (q.l:Int))∧W.cell? ⟨g4,m * 3 + 2,none⟩ = some (.int .i64 (q.r:Int))) (first | (simp only [World.cell?_drew,b0,b1,b2,x0,x1,x2,and_self];done) | (simp only [q0,q1,q2,q3,q4,q5,and_self];done))
       (first
        | (go_at_call 249;refine (uh HBE _).mono ?_;rintro e w5 ⟨rfl,hb5⟩;have HB5:Hid (Below wr.heap.size wr w5):=hide ⟨hb5.os,hb5.tape,hb5.output,hb5.size,hb5.block⟩;have q0:=((uh HB5).cell hXl).trans b0;have q1:=((uh HB5).cell hXl).trans b1;have q2:=((uh HB5).cell hXl).trans b2;have q3:=((uh HB5).cell hgl).trans x0;have q4:=((uh HB5).cell hgl).trans x1;have q5:=((uh HB5).cell hgl).trans x2;clear hb5))
      have hb5:=uh HB5
      have hr5:=own_bw (uh hJ).1 hb5
      have hX5:=(uh hJ).2.1.below hb5
      obtain ⟨r6,⟨⟨u0,y0⟩,⟨u1,y1⟩,⟨u2,y2⟩⟩,f0,f1,f2⟩:=put3 hr5 (uh HAL).symm (i:=m + 1) (by omega) p
      rw [arJ_put hj] at r6
      have hge:w.heap.size≤g4:=((uh hJ).1.lt g4 rfl).1
      have hb6:=((((uh hJ).2.2.trans (hb5.mono (uh hJ).2.2.size)).setCell (p:=⟨g4,(m + 1) * 3,none⟩) hge (.int .i64 (p.k:Int))).setCell (p:=⟨g4,(m + 1) * 3 + 1,none⟩) hge (.int .i64 (p.l:Int))).setCell (p:=⟨g4,(m + 1) * 3 + 2,none⟩) hge (.int .i64 (p.r:Int))
      have z0:=hX5.cell 0 rfl
      have z1:=hX5.cell 1 rfl
      have z2:=hX5.cell 2 rfl
      have HN:Hid (((((w5.setCell ⟨g4,(m + 1) * 3,none⟩ (.int .i64 (p.k:Int))).setCell ⟨g4,(m + 1) * 3 + 1,none⟩ (.int .i64 (p.l:Int))).setCell ⟨g4,(m + 1) * 3 + 2,none⟩ (.int .i64 (p.r:Int)))).ownsRow w.heap.size 182 3 (.slice (some ⟨g4,0,none⟩) (L.length + 1) cap4) ((l.take (k + 1)).foldl insP []).length (prCells ((l.take (k + 1)).foldl insP []))∧Below w.heap.size w ((((w5.setCell ⟨g4,(m + 1) * 3,none⟩ (.int .i64 (p.k:Int))).setCell ⟨g4,(m + 1) * 3 + 1,none⟩ (.int .i64 (p.l:Int))).setCell ⟨g4,(m + 1) * 3 + 2,none⟩ (.int .i64 (p.r:Int))))):=hide ⟨by
       have e:(l.take (k + 1)).foldl insP [] = arJ L p (m + 1):=by rw [uh HFS];unfold insP arJ;rw [← uh HWH,uh HWM];rfl
       rw [e,arJ_len hj]
       exact r6,hb6⟩
      have i5:(m:Int) + 1 < (L.length:Int) + 1:=by omega
      have i6:(0:Int)≤(m:Int) + 1:=by omega
      clear hb5 hr5 hX5 r6 hb6 hge
      go_wp2_with fail
      go_roundg (G - 1)
      case rel=>exact ⟨k + 1,by omega,by go_num,HN⟩
      case measure=>omega
  ·have hd:decide ((k:Int) < (l.length:Int)) = false:=by simp;omega
   have hkl:k = l.length:=by omega
   have hS0:(l.take k).foldl insP [] = l.foldl insP []:=by rw [hkl,List.take_length]
   rw [hS0] at hI hlen ⊢
   have hSR:srL l = (l.foldl insP []).foldl ddS []:=rfl
   obtain ⟨S,hS⟩:∃ S,S = l.foldl insP []:=⟨_,rfl⟩
   rw [← hS] at hI hlen hSR ⊢
   have hSl:S.length≤100000:=by omega
   have HSR:=hide hSR
   clear hS hS0 hSR hkl hin hlen
   go_wp2_with fail
   go_loopw [7,8] (fun kv iv wx=>∃ (i:Nat) (cur:List Pr),i≤S.length∧iv = .int .i64 i∧kv = .int .i64 (((S.take i).foldl ddS []).length:Nat)∧Hid (wx.ownsRow w.heap.size 182 3 (.slice ra S.length rc) S.length (prCells cur)∧cur.length = S.length∧cur.take ((S.take i).foldl ddS []).length = (S.take i).foldl ddS []∧cur.drop i = S.drop i∧Below w.heap.size w wx)) (fun _ iv _=>S.length - (intOf iv).toNat)
   case atStart=>exact ⟨0,S,Nat.zero_le _,rfl,rfl,hide ⟨(uh hI).1,rfl,by simp,rfl,(uh hI).2⟩⟩
   case round =>
    clear hI
    obtain ⟨i,cur,hi,rfl,rfl,hJ⟩:=hrel
    have hKl:=ddF_len (S.take i) (a:=[])
    rw [List.length_take] at hKl
    simp only [List.length_nil,Nat.zero_add] at hKl
    by_cases hlt:i < S.length
    ·have hd2:decide ((i:Int) < (S.length:Int)) = true:=by simp;omega
     obtain ⟨g,cap,hgv,-,-⟩:=own_pos (uh hJ).1 (by omega)
     simp only [Value.slice.injEq,true_and] at hgv
     obtain ⟨rfl,rfl,-⟩:=hgv
     have hcl:=(uh hJ).2.1
     have hr':wr.ownsRow 0 182 3 (.slice (some ⟨g,0,none⟩) cur.length rc) cur.length (prCells cur):=by rw [hcl];exact own_le (uh hJ).1 (Nat.zero_le _)
     obtain ⟨x0,x1,x2⟩:=own_cells hr' (i:=i) (by omega)
     have hci:cur.getD i pr0 = S.getD i pr0:=by
      have h1:=congrArg (fun m=>m.getD 0 pr0) (uh hJ).2.2.2.1
      simpa [List.getD_eq_getElem?_getD,List.getElem?_drop] using h1
     have hds:=foldl_step (g:=ddS) (a:=[]) hlt
     obtain ⟨K,hK⟩:∃ K,K = (S.take i).foldl ddS []:=⟨_,rfl⟩
     obtain ⟨p,hp⟩:∃ p,p = S.getD i pr0:=⟨_,rfl⟩
     rw [hci,← hp] at x0 x1 x2
     rw [← hK] at hJ hKl hds ⊢
     rw [← hp] at hds
     have hKi:K.length≤i:=by omega
     obtain ⟨r6,⟨⟨u0,y0⟩,⟨u1,y1⟩,⟨u2,y2⟩⟩,f0,f1,f2⟩:=put3 (uh hJ).1 hcl.symm (i:=K.length) (by omega) p
     have hge:w.heap.size≤g:=((uh hJ).1.lt g rfl).1
     have hb6:=(((uh hJ).2.2.2.2.setCell (p:=⟨g,K.length * 3,none⟩) hge (.int .i64 (p.k:Int))).setCell (p:=⟨g,K.length * 3 + 1,none⟩) hge (.int .i64 (p.l:Int))).setCell (p:=⟨g,K.length * 3 + 2,none⟩) hge (.int .i64 (p.r:Int))
     have hput:∀ K':List Pr,K' = K ++ [p]→(cur.set K.length p).length = S.length∧(cur.set K.length p).take K'.length = K'∧(cur.set K.length p).drop (i + 1) = S.drop (i + 1):=by
      rintro K' rfl
      refine ⟨by simpa using hcl,?_,?_⟩
      ·have h1:=(uh hJ).2.2.1
       rw [List.length_append,List.length_singleton,List.take_add_one,List.getElem?_set_self (by omega),List.take_set_of_le (Nat.le_refl _),h1]
       rfl
      ·rw [List.drop_set_of_lt (by omega)]
       have h1:=congrArg (fun m=>m.drop 1) (uh hJ).2.2.2.1
       simpa [List.drop_drop,Nat.add_comm] using h1
     have HR6:=hide r6
     have HB6:=hide hb6
     have HPT:=hide hput
     have hkeep:ddS K p = K→cur.take (ddS K p).length = ddS K p∧cur.drop (i + 1) = S.drop (i + 1):=fun e=>by
      rw [e]
      refine ⟨(uh hJ).2.2.1,?_⟩
      have h1:=congrArg (fun m=>m.drop 1) (uh hJ).2.2.2.1
      simpa [List.drop_drop,Nat.add_comm] using h1
     have HKP:=hide hkeep
     have HDS:=hide hds
     have i1:(0:Int)≤(i:Int):=by omega
     have i2:(i:Int) < (S.length:Int):=by omega
     have i3:(K.length:Int) < (S.length:Int):=by omega
     by_cases hi0:i = 0
     ·have hKe:K = []:=by rw [hK,hi0];rfl
      have HDD:Hid (ddS K p = K ++ [p]):=hide (by unfold ddS;rw [if_pos (Or.inl hKe)])
      have d0:((i:Int) == 0) = true:=by simp [hi0]
      obtain ⟨kl,hkl⟩:∃ kl,kl = K.length:=⟨_,rfl⟩
      rw [← hkl] at HR6 HB6 HPT y0 y1 y2 f0 f1 f2 i3 hKl ⊢
      have HKL:=hide hkl
      clear hp hK hds r6 hb6 hput hkeep hr' hci hKi hge hcl hKe hi0 hkl
      go_wp2_with fail
      go_quiet (fail)
      go_wp2_with fail
      go_roundw
      case rel=>exact ⟨i + 1,_,by omega,by go_num,by rw [uh HDS,uh HDD,List.length_append,List.length_singleton,← uh HKL];go_num,hide (by
       rw [uh HDS,uh HDD]
       obtain ⟨h1,h2,h3⟩:=uh HPT _ rfl
       exact ⟨uh HR6,h1,h2,h3,⟨(uh HB6).os,(uh HB6).tape,(uh HB6).output,(uh HB6).size,(uh HB6).block⟩⟩)⟩
      case measure=>simp [intOf];omega
     ·have hKn:K≠[]:=by
       rw [hK]
       refine ddF_some (fun e=>?_)
       have:=congrArg List.length e
       rw [List.length_take,List.length_nil] at this
       omega
      obtain ⟨n,hn⟩:∃ n,K.length = n + 1:=⟨K.length - 1,by have:=List.length_pos_iff.2 hKn;omega⟩
      have hcn:cur.getD n pr0 = K.getD n pr0:=by
       have h1:=congrArg (fun m=>m.getD n pr0) (uh hJ).2.2.1
       simp only [List.getD_eq_getElem?_getD,List.getElem?_take] at h1 ⊢
       rw [if_pos (by omega)] at h1
       exact h1
      obtain ⟨z0,z1,z2⟩:=own_cells hr' (i:=n) (by omega)
      obtain ⟨q,hq⟩:∃ q,q = K.getD n pr0:=⟨_,rfl⟩
      rw [hcn,← hq] at z0 z1 z2
      have hdd:ddS K p = if prE p q = false then K ++ [p] else K:=by
       unfold ddS
       rw [hn,Nat.add_sub_cancel,← hq]
       by_cases e:prE p q = false
       ·rw [if_pos (Or.inr e),if_pos e]
       ·rw [if_neg (by rw [not_or];exact ⟨hKn,e⟩),if_neg e]
      have HDD:=hide hdd
      have d0:((i:Int) == 0) = false:=by simp;omega
      have hq0:IntKind.i64.wrap (n:Int) = (n:Int):=by rw [IntKind.wrap_i64];omega
      have i4:(n:Int) < (S.length:Int):=by omega
      have i5:(0:Int)≤(n:Int):=by omega
      have HKL:=hide hn
      rw [hn] at HR6 HB6 HPT y0 y1 y2 f0 f1 f2 i3 hKl ⊢
      rw [show ((n + 1:Nat):Int) = (n:Int) + 1 by omega] at i3
      clear hp hK hds r6 hb6 hput hkeep hr' hci hKi hge hcl hi0 hKn hcn hq hdd hn
      have hgd:=guardP
      have hneq:∀ W:World,(binOp .neq 182 (.agg #[.int .i64 (p.k:Int),.int .i64 (p.l:Int),.int .i64 (p.r:Int)]) (.agg #[.int .i64 (q.k:Int),.int .i64 (q.l:Int),.int .i64 (q.r:Int)])).run Tryz.prog W = .ok (.bool (!prE p q)) W:=fun W=>by rw [neqP,prE_int]
      cases hpq:prE p q
      ·rw [hpq] at HDD hneq
       rw [show (!false) = true from rfl] at hneq
       have HD2:Hid (ddS K p = K ++ [p]):=hide (uh HDD)
       clear HDD hpq
       go_wp2_with fail
       go_quiet (fail)
       go_wp2_with fail
       go_roundw
       case rel=>exact ⟨i + 1,_,by omega,by go_num,by rw [uh HDS,uh HD2,List.length_append,List.length_singleton,uh HKL];go_num,hide (by
        rw [uh HDS,uh HD2]
        obtain ⟨h1,h2,h3⟩:=uh HPT _ rfl
        exact ⟨uh HR6,h1,h2,h3,⟨(uh HB6).os,(uh HB6).tape,(uh HB6).output,(uh HB6).size,(uh HB6).block⟩⟩)⟩
       case measure=>simp [intOf];omega
      ·rw [hpq] at HDD hneq
       rw [show (!true) = false from rfl] at hneq
       have HD2:Hid (ddS K p = K):=hide (uh HDD)
       clear HDD hpq
       go_wp2_with fail
       go_quiet (fail)
       go_wp2_with fail
       go_roundw
       case rel=>exact ⟨i + 1,cur,by omega,by go_num,by rw [uh HDS,uh HD2,uh HKL],hide (by
        obtain ⟨h2,h3⟩:=uh HKP (uh HD2)
        rw [uh HDS]
        exact ⟨(uh hJ).1,(uh hJ).2.1,h2,h3,⟨(uh hJ).2.2.2.2.os,(uh hJ).2.2.2.2.tape,(uh hJ).2.2.2.2.output,(uh hJ).2.2.2.2.size,(uh hJ).2.2.2.2.block⟩⟩)⟩
       case measure=>simp [intOf];omega
    ·have hd2:decide ((i:Int) < (S.length:Int)) = false:=by simp;omega
     have hie:(S.take i).foldl ddS [] = srL l:=by rw [List.take_of_length_le (by omega)];exact (uh HSR).symm
     rw [hie] at hJ hKl ⊢
     have hKS:(srL l).length≤S.length:=by omega
     have HRT:Hid (wr.ownsRow w.heap.size 182 3 (.slice ra (srL l).length rc) (srL l).length (prCells (srL l))):=hide (by
      have h1:=own_take (uh hJ).1 hKS
      rw [prCells_take,(uh hJ).2.2.1] at h1
      exact h1)
     have HBT:=hide (uh hJ).2.2.2.2
     obtain ⟨n,hn⟩:∃ n,n = (srL l).length:=⟨_,rfl⟩
     rw [← hn] at HRT hKS ⊢
     have hrc:S.length≤rc:=by
      obtain ⟨a1,c1,h1,h2,h3⟩:=own_slc (uh hJ).1
      simp only [Value.slice.injEq,true_and] at h1
      omega
     have q1:(0:Int)≤(n:Int):=by omega
     have q2:(n:Int)≤(rc:Int):=by omega
     have HNN:=hide hn
     clear hie hJ hKl hn HSR
     go_wp2_with fail
     go_ret
     exact ⟨_,rfl,by rw [← uh HNN];exact uh HRT,uh HBT⟩
end
theorem mapK_self {g:Pr→Pr} {l:List Pr} {k:Nat} (hk:k < l.length) (h:g (l.getD k pr0) = l.getD k pr0):mapK g l (k + 1) = mapK g l k:=by
 rw [mapK_step hk,h]
 have h1:=mapK_get (g:=g) hk
 rw [← h1]
 exact set_sameP (by rw [mapK_len];exact hk)
section
variable {w:World} {A:Nat} {f:CF} {av ov:Value}
set_option maxRecDepth 100000 in
set_option maxHeartbeats 8000000 in
theorem order_any (h:Fm w A f av ov) (ha:f.ap.length≤100000) (ho:f.ow.length≤100000):Calls Tryz.prog 199 #[.pointer (some ⟨A,0,none⟩)] w fun e w'=>e = .returned (.tuple #[])∧∃ av' ov',Fm w' A (orF f) av' ov'∧Stp (bsF A av ov) w (bsF A av' ov') w':=by
 have c6:=h.is.c6
 have HSO:=hide (sorted_any h.is.ow ho)
 have H:=hide h
 obtain ⟨oa,oc,hov,-,-⟩:=own_slc h.is.ow
 subst hov
 obtain ⟨aa,ac,hav,-,-⟩:=own_slc h.is.ap
 subst hav
 clear h
 go_enter Tryz.func199,Tryz.ntmps199
 go_wp2_with fail
 refine (uh HSO).mono ?_
 rintro e w1 ⟨v1,rfl,hr1,hb1⟩
 obtain ⟨a1,k1,rfl⟩:=slice_of_own hr1
 have hs1:Stp (Value.slice oa f.ow.length oc).ownBlock.toList w (Value.slice a1 (srL f.ow).length k1).ownBlock.toList w1:=(Stp.ofBw (F:=(Value.slice oa f.ow.length oc).ownBlock.toList) hb1).foots (fun j hj=>Or.inr (hr1.lt j (by simpa using hj)).1)
 obtain ⟨hF1,hst1⟩:=(uh H).newOv (ow':=srL f.ow) hs1 (v':=.slice a1 (srL f.ow).length k1) (fun j hj=>by simpa using hj) (own_le hr1 (Nat.zero_le _))
 have hF0:=(uh H).below hb1
 have d6:=hF0.is.c6
 have f6:=World.ownsRow.frozenAt hF0.is.ob 6
 obtain ⟨w2,hw2⟩:∃ w2,w2 = w1.setCell ⟨A,6,none⟩ (.slice a1 (srL f.ow).length k1):=⟨_,rfl⟩
 rw [← hw2] at hF1 hst1
 have HI0:Hid (Fm w2 A { f with ow:=srL f.ow,ap:=mapK swP f.ap 0 } (.slice aa f.ap.length ac) (.slice a1 (srL f.ow).length k1)∧Stp (bsF A (.slice aa f.ap.length ac) (.slice oa f.ow.length oc)) w (bsF A (.slice aa f.ap.length ac) (.slice a1 (srL f.ow).length k1)) w2):=hide ⟨by simpa [mapK] using hF1,hst1⟩
 clear hr1 hb1 hs1 hF1 hst1 hF0 HSO c6
 obtain ⟨n1,hn1⟩:∃ n1,n1 = (srL f.ow).length:=⟨_,rfl⟩
 rw [← hn1] at hw2 HI0 ⊢
 have HN1:=hide hn1
 clear hn1
 go_upto_region 1 with fail
 rw [← hw2]
 clear hw2 d6 f6
 go_wp2_with fail
 go_loopw [2] (fun i wx=>∃ (k:Nat),k≤f.ap.length∧i = .int .i64 k∧Hid (Fm wx A { f with ow:=srL f.ow,ap:=mapK swP f.ap k } (.slice aa f.ap.length ac) (.slice a1 n1 k1)∧Stp (bsF A (.slice aa f.ap.length ac) (.slice oa f.ow.length oc)) w (bsF A (.slice aa f.ap.length ac) (.slice a1 n1 k1)) wx)) (fun i _=>f.ap.length - (intOf i).toNat)
 case atStart=>exact ⟨0,Nat.zero_le _,rfl,HI0⟩
 case round =>
  clear HI0
  obtain ⟨k,hk,rfl,hI⟩:=hrel
  have hml:=mapK_len swP f.ap k
  have c5:=(uh hI).1.is.c5
  by_cases hlt:k < f.ap.length
  ·have hd:decide ((k:Int) < (f.ap.length:Int)) = true:=by simp;omega
   have hrow:wr.ownsRow 0 182 3 (.slice aa f.ap.length ac) f.ap.length (prCells (mapK swP f.ap k)):=by
    have:=(uh hI).1.is.ap
    rwa [show ({ f with ow:=srL f.ow,ap:=mapK swP f.ap k }:CF).ap.length = f.ap.length from hml] at this
   obtain ⟨g,cap,hgv,-,-,-⟩:=own_pos hrow (by omega)
   simp only [Value.slice.injEq,true_and] at hgv
   obtain ⟨rfl,rfl⟩:=hgv
   have hrow':wr.ownsRow 0 182 3 (.slice (some ⟨g,0,none⟩) (mapK swP f.ap k).length ac) (mapK swP f.ap k).length (prCells (mapK swP f.ap k)):=by rw [hml];exact hrow
   obtain ⟨x0,x1,x2⟩:=own_cells hrow' (i:=k) (by omega)
   have hmg:=mapK_get (g:=swP) hlt
   rw [hmg] at x0 x1 x2
   have hms:=mapK_step (g:=swP) hlt
   have hse:=mapK_self (g:=swP) hlt
   obtain ⟨p,hp⟩:∃ p,p = f.ap.getD k pr0:=⟨_,rfl⟩
   rw [← hp] at x0 x1 x2 hms hse hmg
   have hgA:g≠A:=fun e=>(uh hI).1.nds.1 (by rw [e];rfl)
   obtain ⟨W1,hW1⟩:∃ W1,W1 = wr.alloc (.cells #[Value.int .i64 p.k,.int .i64 p.l,.int .i64 p.r] 182):=⟨_,rfl⟩
   have hbx:Below wr.heap.size wr W1:=by rw [hW1];exact below_boxQ wr _
   have hX:Bk W1 wr.heap.size 182 [Value.int .i64 p.k,.int .i64 p.l,.int .i64 p.r]:=by rw [hW1];exact Bk.new wr _ _
   have hF1:=(uh hI).1.below hbx
   have hS1:=(uh hI).2.trans (Stp.ofBw hbx)
   have hr1:=own_bw hrow hbx
   obtain ⟨X,hXe⟩:∃ X,X = wr.heap.size:=⟨_,rfl⟩
   have hgX:g≠X:=by have:=(hrow.lt g rfl).2;omega
   rw [← hXe] at hX
   have b1:=hX.cell 1 rfl
   have b2:=hX.cell 2 rfl
   have e5:=hF1.is.c5
   have i1:(0:Int)≤(k:Int):=by omega
   have i2:(k:Int) < (f.ap.length:Int):=by omega
   by_cases hsw:p.r < p.l
   ·have d1:decide ((p.r:Int) < (p.l:Int)) = true:=by simp;omega
    have s1:=(hr1.stored (k * 3 + 1) (.int .i64 (p.r:Int))).1
    rw [prCells_set1 (by omega),hmg] at s1
    have s2:=(s1.stored (k * 3 + 2) (.int .i64 (p.l:Int))).1
    rw [prCells_set2 (by simp;omega)] at s2
    have hcur:((mapK swP f.ap k).set k ⟨p.k,p.r,p.r⟩).set k ⟨(((mapK swP f.ap k).set k ⟨p.k,p.r,p.r⟩).getD k pr0).k,(((mapK swP f.ap k).set k ⟨p.k,p.r,p.r⟩).getD k pr0).l,p.l⟩ = mapK swP f.ap (k + 1):=by
     rw [hms,List.set_set]
     have:((mapK swP f.ap k).set k ⟨p.k,p.r,p.r⟩).getD k pr0 = ⟨p.k,p.r,p.r⟩:=by
      rw [List.getD_eq_getElem?_getD,List.getElem?_set_self (by omega)];rfl
     rw [this]
     unfold swP
     rw [if_pos hsw]
    rw [hcur] at s2
    have hs2:Stp (Value.slice (some ⟨g,0,none⟩) f.ap.length ac).ownBlock.toList W1 (Value.slice (some ⟨g,0,none⟩) f.ap.length ac).ownBlock.toList ((W1.setCell ⟨g,k * 3 + 1,none⟩ (.int .i64 (p.r:Int))).setCell ⟨g,k * 3 + 2,none⟩ (.int .i64 (p.l:Int))):=((Stp.refl _ _).setCell (p:=⟨g,k * 3 + 1,none⟩) (Or.inl (by simp [Value.ownBlock])) _).setCell (p:=⟨g,k * 3 + 2,none⟩) (Or.inl (by simp [Value.ownBlock])) _
    obtain ⟨hF2,hst2⟩:=hF1.newRowA (ap':=mapK swP f.ap (k + 1)) (by rw [mapK_len,show ({ f with ow:=srL f.ow,ap:=mapK swP f.ap k }:CF).ap.length = f.ap.length from hml]) (by rw [show ({ f with ow:=srL f.ow,ap:=mapK swP f.ap k }:CF).ap.length = f.ap.length from hml];exact s2) hs2
    obtain ⟨q0,q1,q2⟩:=own_cells (own_le (hml ▸ hr1:W1.ownsRow 0 182 3 (.slice (some ⟨g,0,none⟩) (mapK swP f.ap k).length ac) (mapK swP f.ap k).length (prCells (mapK swP f.ap k))) (Nat.zero_le _)) (i:=k) (by omega)
    have f1:=hr1.frozenAt (k * 3 + 1)
    have f2:=s1.frozenAt (k * 3 + 2)
    have y2:(W1.setCell ⟨g,k * 3 + 1,none⟩ (.int .i64 (p.r:Int))).cell? ⟨g,k * 3 + 2,none⟩ = some (.int .i64 (p.r:Int)):=by
     rw [World.cell?_setCell_other _ _ _ _ (by simp),q2,hmg]
    have y5:(W1.setCell ⟨g,k * 3 + 1,none⟩ (.int .i64 (p.r:Int))).cell? ⟨A,5,none⟩ = some (.slice (some ⟨g,0,none⟩) f.ap.length ac):=by
     rw [World.cell?_setCell_other _ _ _ _ (by simp only [ne_eq,Addr.mk.injEq,not_and];intro e;exact absurd e hgA)];exact e5
    have yb:(W1.setCell ⟨g,k * 3 + 1,none⟩ (.int .i64 (p.r:Int))).cell? ⟨X,1,none⟩ = some (.int .i64 (p.l:Int)):=by
     rw [World.cell?_setCell_other _ _ _ _ (by simp only [ne_eq,Addr.mk.injEq,not_and];intro e;exact absurd e hgX)];exact b1
    have HN:Hid (Fm ((W1.setCell ⟨g,k * 3 + 1,none⟩ (.int .i64 (p.r:Int))).setCell ⟨g,k * 3 + 2,none⟩ (.int .i64 (p.l:Int))) A { f with ow:=srL f.ow,ap:=mapK swP f.ap (k + 1) } (.slice (some ⟨g,0,none⟩) f.ap.length ac) (.slice a1 n1 k1)∧Stp (bsF A (.slice (some ⟨g,0,none⟩) f.ap.length ac) (.slice oa f.ow.length oc)) w (bsF A (.slice (some ⟨g,0,none⟩) f.ap.length ac) (.slice a1 n1 k1)) ((W1.setCell ⟨g,k * 3 + 1,none⟩ (.int .i64 (p.r:Int))).setCell ⟨g,k * 3 + 2,none⟩ (.int .i64 (p.l:Int)))):=hide ⟨hF2,hS1.trans hst2⟩
    rw [hmg] at q0 q1 q2
    clear s1 s2 hcur hs2 hF2 hst2 hrow hrow' hmg hms hse hp hbx hX hF1 hS1 hr1 hml hI hgA hgX
    go_upto_region 5 with fail
    rw [← hW1,← hXe]
    clear hW1 hXe
    go_wp2_with fail
    go_region
    go_wp2_with fail
    go_region
    go_wp2_with fail
    go_roundw
    case rel=>exact ⟨k + 1,by omega,by go_num,hide ⟨(uh HN).1.of_eq (fun _ _=>rfl),(uh HN).2.drew.drew⟩⟩
    case measure=>simp [intOf];omega
   ·have d1:decide ((p.r:Int) < (p.l:Int)) = false:=by simp;omega
    have HN:Hid (Fm W1 A { f with ow:=srL f.ow,ap:=mapK swP f.ap (k + 1) } (.slice (some ⟨g,0,none⟩) f.ap.length ac) (.slice a1 n1 k1)∧Stp (bsF A (.slice (some ⟨g,0,none⟩) f.ap.length ac) (.slice oa f.ow.length oc)) w (bsF A (.slice (some ⟨g,0,none⟩) f.ap.length ac) (.slice a1 n1 k1)) W1):=hide ⟨by rw [hse (by unfold swP;rw [if_neg hsw])];exact hF1,hS1⟩
    clear hrow hrow' hmg hms hse hp hbx hX hF1 hS1 hr1 hml hI hgA hgX
    go_upto_region 5 with fail
    rw [← hW1,← hXe]
    clear hW1 hXe
    go_wp2_with fail
    go_roundw
    case rel=>exact ⟨k + 1,by omega,by go_num,HN⟩
    case measure=>simp [intOf];omega
  ·have hd:decide ((k:Int) < (f.ap.length:Int)) = false:=by simp;omega
   have hke:mapK swP f.ap k = f.ap.map swP:=mapK_all (by omega)
   rw [hke] at hI
   have hrow:wr.ownsRow 0 182 3 (.slice aa f.ap.length ac) (f.ap.map swP).length (prCells (f.ap.map swP)):=(uh hI).1.is.ap
   have HSA:=hide (sorted_any hrow (by simpa using ha))
   clear hke hrow hml
   go_wp2_with fail
   refine (uh HSA).mono ?_
   rintro e w5 ⟨v5,rfl,hr5,hb5⟩
   obtain ⟨a5,k5,rfl⟩:=slice_of_own hr5
   have hs5:Stp (Value.slice aa f.ap.length ac).ownBlock.toList wr (Value.slice a5 (srL (f.ap.map swP)).length k5).ownBlock.toList w5:=(Stp.ofBw (F:=(Value.slice aa f.ap.length ac).ownBlock.toList) hb5).foots (fun j hj=>Or.inr (hr5.lt j (by simpa using hj)).1)
   obtain ⟨hF5,hst5⟩:=(uh hI).1.newAv (ap':=srL (f.ap.map swP)) hs5 (v':=.slice a5 (srL (f.ap.map swP)).length k5) (fun j hj=>by simpa using hj) (own_le hr5 (Nat.zero_le _))
   have hF0:=(uh hI).1.below hb5
   have d5:=hF0.is.c5
   have f5:=World.ownsRow.frozenAt hF0.is.ob 5
   have HN:=hide (And.intro hF5 ((uh hI).2.trans hst5))
   clear hr5 hb5 hs5 hF5 hst5 hF0 HSA c5
   go_wp2_with fail
   go_end0
   exact ⟨rfl,_,_,(uh HN).1,(uh HN).2⟩
set_option maxRecDepth 100000 in
set_option maxHeartbeats 2000000 in
theorem tidy_any (h:Fm w A f av ov) (hO:FoOk f) (ha:f.ap.length≤100000):Calls Tryz.prog 171 #[.pointer (some ⟨A,0,none⟩)] w fun e w'=>e = .returned (.tuple #[])∧∃ av' ov',Fm w' A (tdF f) av' ov'∧Stp (bsF A av ov) w (bsF A av' ov') w':=by
 have hol:=hO.owLen
 have HFG:=hide (forget_any h ⟨hO.cl,hO.ow,hO.ap⟩ ha (by omega))
 have HO:=hide hO
 clear h hO
 go_enter Tryz.func171,Tryz.ntmps171
 go_wp2_with fail
 refine (uh HFG).mono ?_
 rintro e w1 ⟨rfl,av1,h1,s1⟩
 have hl1:(fgF f).ap.length≤100000:=Nat.le_trans (List.length_filter_le _ _) ha
 have HRN:=hide (renumber_any h1 (uh HO).fg (fun p hp=>fg_live hp) hl1)
 have HS1:=hide s1
 clear h1 s1 HFG
 go_wp2_with fail
 refine (uh HRN).mono ?_
 rintro e w2 ⟨rfl,h2,s2⟩
 have HOR:=hide (order_any h2 (by simpa [rnF] using hl1) (by
  show ((fgF f).ow.map _).length≤100000
  rw [List.length_map]
  exact Nat.le_trans hol (by omega)))
 have HS2:=hide ((uh HS1).trans s2)
 clear h2 s2 HRN
 go_wp2_with fail
 refine (uh HOR).mono ?_
 rintro e w3 ⟨rfl,av3,ov3,h3,s3⟩
 have HN:=hide (And.intro h3 ((uh HS2).trans s3))
 clear h3 s3 HOR
 go_wp2_with fail
 go_end0
 exact ⟨rfl,_,_,(uh HN).1,(uh HN).2⟩
end
theorem Seen.me {bl:List Bool} {s:List Nat} (h:Seen bl s) {c:Nat} (hc:c < 24):Seen (bl.set c true) (meN s c):=(h.add hc).congr (fun d=>by
 unfold meN
 split
 ·rename_i hm
  rw [List.mem_cons]
  exact ⟨fun h=>by rcases h with rfl | h;exact hm;exact h,Or.inr⟩
 ·rw [List.mem_cons,List.mem_append,List.mem_singleton]
  exact ⟨fun h=>h.elim Or.inr Or.inl,fun h=>h.elim Or.inr Or.inl⟩)
theorem Seen.eq {bl:List Bool} {s:List Nat} (h:Seen bl s):bl = (List.range 24).map (fun c=>decide (c∈s)):=by
 refine List.ext_getElem (by rw [h.1];simp) (fun j h1 h2=>?_)
 have hj:j < 24:=by have:=h.1;omega
 have:=h.2 j hj
 rw [List.getD_eq_getElem?_getD,List.getElem?_eq_getElem h1] at this
 simp only [Option.getD_some] at this
 rw [List.getElem_map,List.getElem_range]
 cases hb:bl[j] with
 | true=>rw [hb] at this;simp [this.1 rfl]
 | false=>rw [hb] at this;simp;intro hm;exact absurd (this.2 hm) (by simp)
theorem rcF_le (l:List Pr):∀ {s:List Nat},s.length≤(l.foldl rcS s).length:=by
 induction l with
 | nil=>intro s;exact Nat.le_refl _
 | cons p r ih=>intro s;exact Nat.le_trans (rcS_len s p) ih
theorem rcF_pre:∀ (l:List Pr) (s:List Nat),∃ t,l.foldl rcS s = s ++ t
 | [],s=>⟨[],by simp⟩
 | p :: r,s=>by
  obtain ⟨t,ht⟩:=rcF_pre r (rcS s p)
  rw [List.foldl_cons,ht]
  unfold rcS
  split
  ·exact ⟨[p.r] ++ t,by rw [List.append_assoc]⟩
  ·exact ⟨t,rfl⟩
theorem z24_eq:(blC (List.replicate 24 false)).toArray = (List.replicate 24 (Value.bool false)).toArray:=rfl
theorem Tryz.infoB24:(Tryz.prog.info? 240).map (·.size) = some 24:=by kernel_rfl
section
variable {w:World} {A:Nat} {f:CF} {av ov:Value}
set_option maxRecDepth 100000 in
set_option maxHeartbeats 8000000 in
theorem reached_any (h:IsF w A f av ov) (hO:FoOk f):Calls Tryz.prog 227 #[.pointer (some ⟨A,0,none⟩)] w fun e w'=>e = .returned (.agg (blC (rcA f)).toArray)∧Below w.heap.size w w':=by
 obtain ⟨oa,oc,hov,-,-⟩:=own_slc h.ow
 subst hov
 have hol:=hO.owLen
 obtain ⟨w0,hw0⟩:∃ w0,w0 = (w.alloc (.cells (List.replicate 24 (Value.bool false)).toArray 240)).alloc (.cells (List.replicate 24 (Value.bool false)).toArray 240):=⟨_,rfl⟩
 have hb0:Below w.heap.size w w0:=by rw [hw0];exact (below_boxQ w _).alloc (below_boxQ w _).size _
 have hR0:Ob w0 240 24 w.heap.size (blC (List.replicate 24 false)):=by rw [hw0,← z24_eq];exact (f24_ob w).alloc _
 have hD0:Ob w0 240 24 (w.heap.size + 1) (blC (List.replicate 24 false)):=by
  rw [hw0,← z24_eq]
  have:=f24_ob (w.alloc (.cells (blC (List.replicate 24 false)).toArray 240))
  simpa using this
 obtain ⟨R,hR⟩:∃ R,R = w.heap.size:=⟨_,rfl⟩
 obtain ⟨D,hD⟩:∃ D,D = R + 1:=⟨_,rfl⟩
 rw [← hR,← hD] at hD0
 rw [← hR] at hR0
 have H:=hide h
 have HO:=hide hO
 have HR:=hide hR
 have HD:=hide hD
 have HI0:Hid (Ob w0 240 24 D (blC (List.replicate 24 false))∧Seen (List.replicate 24 false) (([f.cl.getD 1 0,f.cl.getD 2 0,f.cl.getD 3 0,f.cl.getD 4 0].take 0).foldl meN [])∧Ob w0 240 24 R (blC (List.replicate 24 false))∧Below w.heap.size w w0):=hide ⟨hD0,f24_seen,hR0,hb0⟩
 clear h hO hb0 hR0 hD0
 simp only [List.replicate] at hw0
 go_enter Tryz.func227,Tryz.ntmps227
 go_upto_region 2 with fail
 rw [← hw0,← hR,← hD]
 clear hw0 hR hD
 go_wp2_with fail
 go_loopw [4] (fun i wx=>∃ (k:Nat) (bl:List Bool),k≤4∧i = .int .i64 ((k:Int) + 1)∧Hid (Ob wx 240 24 D (blC bl)∧Seen bl (([f.cl.getD 1 0,f.cl.getD 2 0,f.cl.getD 3 0,f.cl.getD 4 0].take k).foldl meN [])∧Ob wx 240 24 R (blC (List.replicate 24 false))∧Below w.heap.size w wx)) (fun i _=>5 - (intOf i).toNat)
 case atStart=>exact ⟨0,_,Nat.zero_le _,rfl,HI0⟩
 case round =>
  clear HI0
  obtain ⟨k,bl,hk,rfl,hI⟩:=hrel
  have hDR:D≠R:=by have:=uh HD;omega
  by_cases hlt:k < 4
  ·have hd:decide ((k:Int) + 1 < (5:Int)) = true:=by simp;omega
   have hF:=(uh H).below (uh hI).2.2.2
   have x:=hF.cls (i:=k + 1) (by omega)
   unfold clV at x
   have hst:([f.cl.getD 1 0,f.cl.getD 2 0,f.cl.getD 3 0,f.cl.getD 4 0].take (k + 1)).foldl meN [] = meN (([f.cl.getD 1 0,f.cl.getD 2 0,f.cl.getD 3 0,f.cl.getD 4 0].take k).foldl meN []) (f.cl.getD (k + 1) 0):=by
    have:k = 0∨k = 1∨k = 2∨k = 3:=by omega
    rcases this with rfl | rfl | rfl | rfl <;> rfl
   have hc:=(uh HO).get (k + 1)
   obtain ⟨c,hce⟩:∃ c,c = f.cl.getD (k + 1) 0:=⟨_,rfl⟩
   rw [← hce] at x hst hc
   obtain ⟨⟨u,hu⟩,hz⟩:=(uh hI).1.some (j:=c) hc
   have o1:=(uh hI).1.stored c (.bool true)
   rw [blC_set] at o1
   have hge:w.heap.size≤D:=by have:=uh HD;have:=uh HR;omega
   have HN:Hid (Ob (wr.setCell ⟨D,c,none⟩ (.bool true)) 240 24 D (blC (bl.set c true))∧Seen (bl.set c true) (([f.cl.getD 1 0,f.cl.getD 2 0,f.cl.getD 3 0,f.cl.getD 4 0].take (k + 1)).foldl meN [])∧Ob (wr.setCell ⟨D,c,none⟩ (.bool true)) 240 24 R (blC (List.replicate 24 false))∧Below w.heap.size w (wr.setCell ⟨D,c,none⟩ (.bool true))):=hide ⟨o1,by rw [hst];exact (uh hI).2.1.me hc,(uh hI).2.2.1.of_eq (Below.heap_setCell _ _ _ _ (fun e=>hDR e.symm)),(uh hI).2.2.2.setCell (p:=⟨D,c,none⟩) hge _⟩
   have i1:(0:Int)≤(k:Int) + 1:=by omega
   have i2:(k:Int) + 1 < (5:Int):=by omega
   have i3:(c:Int) < (24:Int):=by omega
   have i4:((k:Int) + 1).toNat = k + 1:=by omega
   clear hF hst hce o1 hI hge
   go_wp2_with fail
   go_roundw
   case rel=>exact ⟨k + 1,_,by omega,by go_num,HN⟩
   case measure=>simp [intOf];omega
  ·have hd:decide ((k:Int) + 1 < (5:Int)) = false:=by simp;omega
   have hk4:k = 4:=by omega
   subst hk4
   have hs0:([f.cl.getD 1 0,f.cl.getD 2 0,f.cl.getD 3 0,f.cl.getD 4 0].take 4).foldl meN [] = rc0 f:=rfl
   rw [hs0] at hI
   have HI1:Hid (Ob wr 240 24 D (blC bl)∧Seen bl (rc0 f)∧MsOk (rc0 f)∧Ob wr 240 24 R (blC (List.replicate 24 false))∧Below w.heap.size w wr∧rcN f 25 (rc0 f) = rcL f):=hide ⟨(uh hI).1,(uh hI).2.1,rc0_ok (uh HO).cl,(uh hI).2.2.1,(uh hI).2.2.2,rfl⟩
   clear hs0 hI
   rw [show ((4:Nat):Int) + 1 = (5:Int) from rfl]
   have hge:w.heap.size≤D:=by have:=uh HD;have:=uh HR;omega
   go_wp2_with fail
   go_loopg [5] (26 - (rc0 f).length) (fun gn gv wx=>∃ (s:List Nat) (bl:List Bool) (n:Nat) (gr:Bool),gv = .bool gr∧gn = (if gr = true then 26 - s.length else 0)∧s.length≤24∧Hid (Ob wx 240 24 D (blC bl)∧Seen bl s∧MsOk s∧Ob wx 240 24 R (blC (List.replicate 24 false))∧Below w.heap.size w wx∧(gr = true→rcN f n s = rcL f∧24 < n + s.length)∧(gr = false→s = rcL f)))
   case atStart=>exact ⟨rc0 f,bl,25,true,rfl,rfl,(uh HI1).2.2.1.len,hide ⟨(uh HI1).1,(uh HI1).2.1,(uh HI1).2.2.1,(uh HI1).2.2.2.1,(uh HI1).2.2.2.2.1,fun _=>⟨rfl,by omega⟩,fun h=>by cases h⟩⟩
   case round =>
    clear HI1
    obtain ⟨s,bl,n,gr,rfl,hgn,hsl,hI⟩:=hrel
    obtain ⟨G,hG⟩:∃ G,G = gk:=⟨_,rfl⟩
    cases gr with
    | false =>
     have hsl':=(uh hI).2.2.2.2.2.2 rfl
     have hbl:blC bl = blC (rcA f):=by rw [(uh hI).2.1.eq,hsl'];rfl
     obtain ⟨M,hM⟩:∃ M,M = blC (rcA f):=⟨_,rfl⟩
     have hml:M.length = 24:=by rw [hM];simp [blC,rcA]
     have hC1':Ob wr 240 24 D M:=by rw [hM,← hbl];exact (uh hI).1
     have hR1:=(uh hI).2.2.2.1
     have hRg:wr.rangeAt D 0 M:=by
      intro j v hj
      have hjl:=(List.getElem?_eq_some_iff.1 hj).1
      rw [Nat.zero_add,World.ownsRow.cellAt hC1' j (by omega)];exact hj
     have hTh:wr.there R 0 M.toArray.size:=by
      intro j hj
      rw [List.size_toArray,hml] at hj
      obtain ⟨⟨u,hu⟩,hz⟩:=hR1.some (j:=j) hj
      rw [Nat.zero_add]
      exact ⟨by rw [hu];rfl,hz⟩
     have hI1:(Tryz.prog.info? 240).map (·.size) = some M.length:=by rw [hml];exact Tryz.infoB24
     have hI2:(Tryz.prog.info? 240).map (·.size) = some M.toArray.size:=by rw [List.size_toArray,hml];exact Tryz.infoB24
     have hOn:M.toArray.all (·.oneCell') = true:=all_oneCell_toArray (by
      intro v hv
      rw [hM] at hv
      obtain ⟨o,_,rfl⟩:=List.mem_map.1 hv
      rfl)
     have hOb5:=Ob.setCells M 0 hR1
     have hsl2:=setL_mid M [] (blC (List.replicate 24 false)) [] (by rw [hml];rfl)
     simp only [List.nil_append,List.append_nil,List.length_nil] at hsl2
     rw [hsl2] at hOb5
     have hRB:w.heap.size≤R:=by have:=uh HR;omega
     have hB5:∀ (vs:List Value) (o:Nat) (x:World),Below w.heap.size w x→Below w.heap.size w (x.setCells R o vs):=by
      intro vs
      induction vs with
      | nil=>intro o x h;exact h
      | cons v r ih=>intro o x h;exact ih (o + 1) _ (h.setCell hRB v)
     have HB5:=hide (hB5 M 0 wr (uh hI).2.2.2.2.1)
     have HM:=hide hM
     have HML:=hide hml
     have HRg:=hide hRg
     have HTh:=hide hTh
     have HI1:=hide hI1
     have HI2:=hide hI2
     have HOn:=hide hOn
     have HOb5:=hide hOb5
     clear hRg hTh hI1 hI2 hOn hOb5 hsl2 hB5 hM hml hC1' hR1 hbl hsl' hI hgn
     go_wp2_with (first | refine wpList_load_mid rfl 240 (.tmp 3) rfl D 0 rfl M _ (uh HRg) Tryz.underlying240 rfl (uh HI1) ?_ | refine wpList_store_mid rfl 240 (.tmp 2) (.tmp 44) rfl R 0 M.toArray rfl rfl (uh HTh) (uh HI2) (uh HOn) ?_)
     have hrg2:(wr.setCells R 0 M).rangeAt R 0 M:=by
      intro j v hj
      have hjl:=(List.getElem?_eq_some_iff.1 hj).1
      rw [uh HML] at hjl
      rw [Nat.zero_add,World.ownsRow.cellAt (uh HOb5) j (by omega)];exact hj
     have hld:=run_loadVar_mid (P:=Tryz.prog) (wr.setCells R 0 M) R 0 240 M _ hrg2 Tryz.underlying240 rfl (uh HI1)
     refine bodyPost_ret (v:=.agg M.toArray) ?_ rfl ⟨by rw [uh HM],uh HB5⟩
     simp [results,Tryz.results227,Act.put,asAddr,hld]
    | true =>
     have hgn':gk = 26 - s.length:=hgn
     obtain ⟨hrc,hn24⟩:=(uh hI).2.2.2.2.2.1 rfl
     have HRC:=hide hrc
     have hF:=(uh H).below (uh hI).2.2.2.2.1
     have c6:=hF.c6
     have HI2:Hid (Ob wr 240 24 D (blC bl)∧Seen bl ((f.ow.take 0).foldl rcS s)∧Ob wr 240 24 R (blC (List.replicate 24 false))∧Below w.heap.size w wr):=hide ⟨(uh hI).1,(uh hI).2.1,(uh hI).2.2.2.1,(uh hI).2.2.2.2.1⟩
     have HMS:=hide (uh hI).2.2.1
     clear hgn hrc hF hI
     go_wp2_with fail
     go_loopg [5,25] f.ow.length (fun gn gv i wx=>∃ (j:Nat) (bl:List Bool),j + gn = f.ow.length∧i = .int .i64 j∧gv = .bool (decide (((f.ow.take j).foldl rcS s).length≠s.length))∧Hid (Ob wx 240 24 D (blC bl)∧Seen bl ((f.ow.take j).foldl rcS s)∧Ob wx 240 24 R (blC (List.replicate 24 false))∧Below w.heap.size w wx))
     case atStart=>exact ⟨0,bl,by omega,rfl,by simp,HI2⟩
     case round =>
      clear HI2 c6
      obtain ⟨j,bl,hjn,rfl,rfl,hJ⟩:=hrel
      obtain ⟨G2,hG2⟩:∃ G2,G2 = gk:=⟨_,rfl⟩
      have hF:=(uh H).below (uh hJ).2.2.2
      have hDR:D≠R:=by have:=uh HD;omega
      obtain ⟨m,hm⟩:∃ m,m = (f.ow.take j).foldl rcS s:=⟨_,rfl⟩
      have hle:s.length≤m.length:=by rw [hm];exact rcF_le _
      by_cases hlt:j < f.ow.length
      ·have hd:decide ((j:Int) < (f.ow.length:Int)) = true:=by simp;omega
       obtain ⟨g,cap,hgv,-,-⟩:=own_formP hF.ow hlt
       simp only [Value.slice.injEq,true_and] at hgv
       obtain ⟨rfl,rfl⟩:=hgv
       obtain ⟨x0,x1,x2⟩:=own_cells hF.ow hlt
       obtain ⟨hpl,hpr⟩:=(uh HO).ow _ (mem_getD hlt)
       have hfs:=foldl_step (g:=rcS) (a:=s) hlt
       obtain ⟨p,hp⟩:∃ p,p = f.ow.getD j pr0:=⟨_,rfl⟩
       rw [← hp] at x0 x1 x2 hpl hpr hfs
       rw [← hm] at hJ hfs ⊢
       obtain ⟨gr,hgr⟩:∃ gr,gr = decide (m.length≠s.length):=⟨_,rfl⟩
       rw [← hgr]
       have HGR:=hide hgr
       obtain ⟨W1,hW1⟩:∃ W1,W1 = wr.alloc (.cells #[Value.int .i64 p.k,.int .i64 p.l,.int .i64 p.r] 182):=⟨_,rfl⟩
       have hbx:Below wr.heap.size wr W1:=by rw [hW1];exact below_boxQ wr _
       have hX:Bk W1 wr.heap.size 182 [Value.int .i64 p.k,.int .i64 p.l,.int .i64 p.r]:=by rw [hW1];exact Bk.new wr _ _
       have b1:=hX.cell 1 rfl
       have b2:=hX.cell 2 rfl
       have oD:Ob W1 240 24 D (blC bl):=(uh hJ).1.of_eq (hbx.block D (World.ownsRow.lt (uh hJ).1 D rfl).2)
       have oR:Ob W1 240 24 R (blC (List.replicate 24 false)):=(uh hJ).2.2.1.of_eq (hbx.block R (World.ownsRow.lt (uh hJ).2.2.1 R rfl).2)
       have hb1:=(uh hJ).2.2.2.trans (hbx.mono (uh hJ).2.2.2.size)
       have hSe:=(uh hJ).2.1
       have d1:=(World.ownsRow.cellAt oD p.l (by omega)).trans (blC_get (by rw [hSe.1];exact hpl))
       have d2:=(World.ownsRow.cellAt oD p.r (by omega)).trans (blC_get (by rw [hSe.1];exact hpr))
       have fz:=World.ownsRow.frozenAt oD p.r
       have e1:bl.getD p.l false = decide (p.l∈m):=by have:=hSe.2 p.l hpl;cases hb:bl.getD p.l false <;> simp_all
       have e2:bl.getD p.r false = decide (p.r∈m):=by have:=hSe.2 p.r hpr;cases hb:bl.getD p.r false <;> simp_all
       rw [e1] at d1
       rw [e2] at d2
       have o1:=oD.stored p.r (.bool true)
       rw [blC_set] at o1
       have i1:(0:Int)≤(j:Int):=by omega
       have i2:(j:Int) < (f.ow.length:Int):=by omega
       have i3:(p.l:Int) < (24:Int):=by omega
       have i4:(p.r:Int) < (24:Int):=by omega
       obtain ⟨X,hXe⟩:∃ X,X = wr.heap.size:=⟨_,rfl⟩
       rw [← hXe] at b1 b2
       have HFS:=hide hfs
       have HNo:Hid (rcS m p = m→Ob W1 240 24 D (blC bl)∧Seen bl ((f.ow.take (j + 1)).foldl rcS s)∧Ob W1 240 24 R (blC (List.replicate 24 false))∧Below w.heap.size w W1):=hide (fun e=>⟨oD,by rw [hfs,e];exact hSe,oR,hb1⟩)
       have HYes:Hid (rcS m p = m ++ [p.r]→Ob (W1.setCell ⟨D,p.r,none⟩ (.bool true)) 240 24 D (blC (bl.set p.r true))∧Seen (bl.set p.r true) ((f.ow.take (j + 1)).foldl rcS s)∧Ob (W1.setCell ⟨D,p.r,none⟩ (.bool true)) 240 24 R (blC (List.replicate 24 false))∧Below w.heap.size w (W1.setCell ⟨D,p.r,none⟩ (.bool true))):=hide (fun e=>⟨o1,by
        rw [hfs,e]
        exact (hSe.add hpr).congr (fun d=>by simp only [List.mem_cons,List.mem_append,List.not_mem_nil,or_false];exact ⟨fun h=>h.elim Or.inr Or.inl,fun h=>h.elim Or.inr Or.inl⟩),oR.of_eq (Below.heap_setCell _ _ _ _ (fun e=>hDR e.symm)),hb1.setCell (p:=⟨D,p.r,none⟩) hge _⟩)
       clear hbx hX oD oR hb1 hSe e1 e2 o1 hfs hp hm hF hJ hgr
       by_cases q1:p.l∈m
       ·rw [show decide (p.l∈m) = true by simpa using q1] at d1
        by_cases q2:p.r∈m
        ·rw [show decide (p.r∈m) = true by simpa using q2] at d2
         have HE:Hid (rcS m p = m):=hide (by unfold rcS;rw [if_neg (by rintro ⟨-,h⟩;exact h q2)])
         clear q1 q2
         go_upto_region 12 with fail
         rw [← hW1,← hXe]
         clear hW1 hXe
         go_wp2_with fail
         go_roundg (G2 - 1)
         case rel=>exact ⟨j + 1,bl,by omega,by go_num,by rw [uh HFS,uh HE,← uh HGR],hide (uh HNo (uh HE))⟩
         case measure=>omega
        ·rw [show decide (p.r∈m) = false by simpa using q2] at d2
         have HE:Hid (rcS m p = m ++ [p.r]):=hide (by unfold rcS;rw [if_pos ⟨q1,q2⟩])
         clear q1 q2
         go_upto_region 12 with fail
         rw [← hW1,← hXe]
         clear hW1 hXe
         go_wp2_with fail
         go_roundg (G2 - 1)
         case rel=>exact ⟨j + 1,_,by omega,by go_num,by
          rw [uh HFS,uh HE,List.length_append,List.length_singleton]
          rw [show decide (m.length + 1≠s.length) = true by simp;omega],hide (uh HYes (uh HE))⟩
         case measure=>omega
       ·rw [show decide (p.l∈m) = false by simpa using q1] at d1
        have HE:Hid (rcS m p = m):=hide (by unfold rcS;rw [if_neg (by rintro ⟨h,-⟩;exact q1 h)])
        clear q1
        go_upto_region 12 with fail
        rw [← hW1,← hXe]
        clear hW1 hXe
        go_wp2_with fail
        go_roundg (G2 - 1)
        case rel=>exact ⟨j + 1,bl,by omega,by go_num,by rw [uh HFS,uh HE,← uh HGR],hide (uh HNo (uh HE))⟩
        case measure=>omega
      ·have hd:decide ((j:Int) < (f.ow.length:Int)) = false:=by simp;omega
       have hrr:(f.ow.take j).foldl rcS s = rcR f s:=by rw [List.take_of_length_le (by omega)];rfl
       rw [hrr] at hJ ⊢
       obtain ⟨n',rfl⟩:∃ n',n = n' + 1:=⟨n - 1,by omega⟩
       have hrn:rcN f (n' + 1) s = if (rcR f s).length = s.length then s else rcN f n' (rcR f s):=rfl
       have hok:=(rcF_ok f.ow (uh HMS) (fun p hp=>((uh HO).ow p hp).2)).1
       have hok':MsOk (rcR f s):=hok
       have hll:=hok'.len
       have hle2:s.length≤(rcR f s).length:=rcF_le _
       have HJ:Hid (Ob wr 240 24 D (blC bl)∧Seen bl (rcR f s)∧MsOk (rcR f s)∧Ob wr 240 24 R (blC (List.replicate 24 false))∧Below w.heap.size w wr):=hide ⟨(uh hJ).1,(uh hJ).2.1,hok',(uh hJ).2.2.1,(uh hJ).2.2.2⟩
       by_cases hch:(rcR f s).length = s.length
       ·have hsame:rcR f s = s:=by
         obtain ⟨t,ht⟩:=rcF_pre f.ow s
         have h1:rcR f s = s ++ t:=ht
         have h2:=congrArg List.length h1
         rw [List.length_append] at h2
         have:t = []:=List.length_eq_zero_iff.1 (by omega)
         rw [h1,this,List.append_nil]
        have HE:Hid (rcR f s = rcL f):=hide (by
         have h1:=uh HRC
         rw [hrn,if_pos hch] at h1
         rw [hsame];exact h1)
        rw [show decide ((rcR f s).length≠s.length) = false by simp [hch]]
        clear hsame hch hrr hrn hok hok' hJ hle2 hll
        go_wp2_with fail
        go_roundg 0
        case rel=>exact ⟨rcR f s,bl,0,false,rfl,rfl,(uh HJ).2.2.1.len,hide ⟨(uh HJ).1,(uh HJ).2.1,(uh HJ).2.2.1,(uh HJ).2.2.2.1,(uh HJ).2.2.2.2,(fun h=>by cases h),fun _=>uh HE⟩⟩
        case measure=>omega
       ·have HE:Hid (rcN f n' (rcR f s) = rcL f∧24 < n' + (rcR f s).length):=hide ⟨by
         have h1:=uh HRC
         rw [hrn,if_neg hch] at h1
         exact h1,by omega⟩
        rw [show decide ((rcR f s).length≠s.length) = true by simp [hch]]
        have hlt2:26 - (rcR f s).length < G:=by omega
        clear hch hrr hrn hok hok' hJ hle2
        go_wp2_with fail
        go_roundg (26 - (rcR f s).length)
        case rel=>exact ⟨rcR f s,bl,n',true,rfl,rfl,(uh HJ).2.2.1.len,hide ⟨(uh HJ).1,(uh HJ).2.1,(uh HJ).2.2.1,(uh HJ).2.2.2.1,(uh HJ).2.2.2.2,(fun _=>uh HE),fun h=>by cases h⟩⟩
        case measure=>omega
end
end Go.Proofs.YtciihepbeacppaaGreat
