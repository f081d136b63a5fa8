import Derived.Test.YtciihepbeacppaaGreatM11
import Derived.Test.YtciihepbeacppaaGreatM12
import Derived.Deep.Cut
import Derived.Deep.CutRange
import Derived.Deep.DeepCutAuto
import Derived.Laws.StructEq
namespace Go.Proofs.YtciihepbeacppaaGreat
open Go.RowKit
set_option linter.unusedVariables false
theorem Seen.congr {bl:List Bool} {s t:List Nat} (h:Seen bl s) (he:∀ c,c∈s↔c∈t):Seen bl t:=⟨h.1,fun c hc=>(h.2 c hc).trans (he c)⟩
structure Rng (f:CF):Prop where
 cl:∀ c∈clL f,c < 24
 ow:Rm f
 ap:RmA f
theorem f24_ob (w:World):Ob (w.alloc (.cells (blC (List.replicate 24 false)).toArray 240)) 240 24 w.heap.size (blC (List.replicate 24 false)) :=
 World.ownsRow_lit (base:=0) (e:=240) (size:=24) w (blC (List.replicate 24 false)).toArray 1 (Nat.zero_le _) (by simp [maxLen]) rfl
theorem f24_seen:Seen (List.replicate 24 false) []:=⟨by simp,fun c hc=>by rw [List.getD_eq_getElem?_getD,List.getElem?_replicate,if_pos hc];simp⟩
theorem filt_step {l:List Pr} {P:Pr→Bool} {k:Nat} (hk:k < l.length):(l.take (k + 1)).filter P = (l.take k).filter P ++ (if P (l.getD k pr0) then [l.getD k pr0] else []):=by
 rw [pr_at hk,List.take_add_one,List.getElem?_eq_getElem hk,List.filter_append]
 congr 1
 simp only [Option.toList]
 cases h:P l[k] <;> simp [h]
theorem flat_step {l:List Pr} {k:Nat} (hk:k < l.length):(l.take (k + 1)).flatMap (fun p=>[p.l,p.r]) = (l.take k).flatMap (fun p=>[p.l,p.r]) ++ [(l.getD k pr0).l,(l.getD k pr0).r]:=by
 rw [pr_at hk,List.take_add_one,List.getElem?_eq_getElem hk,List.flatMap_append]
 simp
theorem mem_two {S T:List Nat} {a b d:Nat}:d∈b :: a :: (S ++ T)↔d∈S ++ (T ++ [a,b]):=by
 simp only [List.mem_cons,List.mem_append,List.not_mem_nil,or_false]
 exact ⟨fun h=>by rcases h with h | h | h | h <;> simp [h],fun h=>by rcases h with h | h | h | h <;> simp [h]⟩
section
variable {w:World} {A:Nat} {f:CF} {av ov:Value}
set_option maxRecDepth 100000 in
set_option maxHeartbeats 8000000 in
theorem forget_any (h:Fm w A f av ov) (hR:Rng f) (ha:f.ap.length≤100000) (ho:f.ow.length≤100000):Calls Tryz.prog 197 #[.pointer (some ⟨A,0,none⟩)] w fun e w'=>e = .returned (.tuple #[])∧∃ av',Fm w' A (fgF f) av' ov∧Stp (bsF A av ov) w (bsF A av' ov) w':=by
 obtain ⟨i0,hi0,hz0,hz1,hz2⟩:=info_parts Tryz.infoPair
 obtain ⟨oa,oc,hov,-,-⟩:=own_slc h.is.ow
 subst hov
 obtain ⟨aa,ac,hav,-,-⟩:=own_slc h.is.ap
 subst hav
 obtain ⟨w0,hw0⟩:∃ w0,w0 = w.alloc (.cells (blC (List.replicate 24 false)).toArray 240):=⟨_,rfl⟩
 have hb0:Below w.heap.size w w0:=by rw [hw0];exact below_boxQ w _
 have hD0:Ob w0 240 24 w.heap.size (blC (List.replicate 24 false)):=by rw [hw0];exact f24_ob w
 have h0:=h.is.below hb0
 have x0:=h0.cls (i:=0) (by omega)
 have x1:=h0.cls (i:=1) (by omega)
 have x2:=h0.cls (i:=2) (by omega)
 have x3:=h0.cls (i:=3) (by omega)
 have x4:=h0.cls (i:=4) (by omega)
 unfold clV at x0 x1 x2 x3 x4
 have hcl:=hR.cl
 unfold clL at hcl
 have hcL:clL f = [f.cl.getD 0 0,f.cl.getD 1 0,f.cl.getD 2 0,f.cl.getD 3 0,f.cl.getD 4 0]:=rfl
 obtain ⟨y0,e0⟩:∃ y,y = f.cl.getD 0 0:=⟨_,rfl⟩
 obtain ⟨y1,e1⟩:∃ y,y = f.cl.getD 1 0:=⟨_,rfl⟩
 obtain ⟨y2,e2⟩:∃ y,y = f.cl.getD 2 0:=⟨_,rfl⟩
 obtain ⟨y3,e3⟩:∃ y,y = f.cl.getD 3 0:=⟨_,rfl⟩
 obtain ⟨y4,e4⟩:∃ y,y = f.cl.getD 4 0:=⟨_,rfl⟩
 rw [← e0,← e1,← e2,← e3,← e4] at hcl hcL
 rw [← e0] at x0
 rw [← e1] at x1
 rw [← e2] at x2
 rw [← e3] at x3
 rw [← e4] at x4
 have l0:y0 < 24:=hcl y0 (by simp)
 have l1:y1 < 24:=hcl y1 (by simp)
 have l2:y2 < 24:=hcl y2 (by simp)
 have l3:y3 < 24:=hcl y3 (by simp)
 have l4:y4 < 24:=hcl y4 (by simp)
 have j0:=idx5_0 (.int .i64 (y0:Int)) (.int .i64 (y1:Int)) (.int .i64 (y2:Int)) (.int .i64 (y3:Int)) (.int .i64 (y4:Int))
 have j1:=idx5_1 (.int .i64 (y0:Int)) (.int .i64 (y1:Int)) (.int .i64 (y2:Int)) (.int .i64 (y3:Int)) (.int .i64 (y4:Int))
 have j2:=idx5_2 (.int .i64 (y0:Int)) (.int .i64 (y1:Int)) (.int .i64 (y2:Int)) (.int .i64 (y3:Int)) (.int .i64 (y4:Int))
 have j3:=idx5_3 (.int .i64 (y0:Int)) (.int .i64 (y1:Int)) (.int .i64 (y2:Int)) (.int .i64 (y3:Int)) (.int .i64 (y4:Int))
 have j4:=idx5_4 (.int .i64 (y0:Int)) (.int .i64 (y1:Int)) (.int .i64 (y2:Int)) (.int .i64 (y3:Int)) (.int .i64 (y4:Int))
 have H:=hide h
 have HCL:=hide hcL
 have HR:=hide hR
 have HI0:Hid (Ob w0 240 24 w.heap.size (blC (List.replicate 24 false))∧Seen (List.replicate 24 false) ([y0,y1,y2,y3,y4].take 0)∧Below w.heap.size w w0):=hide ⟨hD0,f24_seen,hb0⟩
 clear h e0 e1 e2 e3 e4 hcl hcL hR h0 hD0 hb0
 simp only [blC,List.replicate,List.map_cons,List.map_nil] at hw0
 go_enter Tryz.func197,Tryz.ntmps197
 go_upto_region 1 with fail
 rw [← hw0]
 clear hw0
 go_wp2_with fail
 go_loopw [14] (fun i wx=>∃ (k:Nat) (bl:List Bool),k≤5∧i = .int .i64 k∧Hid (Ob wx 240 24 w.heap.size (blC bl)∧Seen bl ([y0,y1,y2,y3,y4].take k)∧Below w.heap.size w wx)) (fun i _=>5 - (intOf i).toNat)
 case atStart=>exact ⟨0,_,Nat.zero_le _,rfl,HI0⟩
 case round =>
  clear HI0 x0 x1 x2 x3 x4
  obtain ⟨k,bl,hk,rfl,hI⟩:=hrel
  have hst:∀ c,c < 24→(∃ u,wr.cell? ⟨w.heap.size,c,none⟩ = some u)∧wr.frozen? ⟨w.heap.size,c,none⟩ = false:=fun c hc=>⟨⟨_,(World.ownsRow.cellAt (uh hI).1 c (by omega)).trans (blC_get (by rw [(uh hI).2.1.1];exact hc))⟩,World.ownsRow.frozenAt (uh hI).1 c⟩
  have hnx:∀ c,c < 24→∀ t,(∀ d,d∈c :: ([y0,y1,y2,y3,y4].take k)↔d∈t)→Ob (wr.setCell ⟨w.heap.size,c,none⟩ (.bool true)) 240 24 w.heap.size (blC (bl.set c true))∧Seen (bl.set c true) t∧Below w.heap.size w (wr.setCell ⟨w.heap.size,c,none⟩ (.bool true)):=fun c hc t ht =>
   ⟨by have:=(uh hI).1.stored c (.bool true);rwa [blC_set] at this,((uh hI).2.1.add hc).congr ht,(uh hI).2.2.setCell (p:=⟨w.heap.size,c,none⟩) (Nat.le_refl _) _⟩
  have HNX:=hide hnx
  clear hnx
  have hcase:k = 0∨k = 1∨k = 2∨k = 3∨k = 4∨k = 5:=by omega
  rcases hcase with rfl | rfl | rfl | rfl | rfl | rfl
  ·obtain ⟨⟨u,hu⟩,hz⟩:=hst y0 l0
   clear hst
   go_wp2_with fail
   go_roundw
   case rel=>exact ⟨1,_,by omega,by go_num,hide (uh HNX y0 l0 _ (fun d=>by simp))⟩
   case measure=>simp [intOf]
  ·obtain ⟨⟨u,hu⟩,hz⟩:=hst y1 l1
   clear hst
   go_wp2_with fail
   go_roundw
   case rel=>exact ⟨2,_,by omega,by go_num,hide (uh HNX y1 l1 _ (fun d=>by simp;try omega))⟩
   case measure=>simp [intOf]
  ·obtain ⟨⟨u,hu⟩,hz⟩:=hst y2 l2
   clear hst
   go_wp2_with fail
   go_roundw
   case rel=>exact ⟨3,_,by omega,by go_num,hide (uh HNX y2 l2 _ (fun d=>by simp;try omega))⟩
   case measure=>simp [intOf]
  ·obtain ⟨⟨u,hu⟩,hz⟩:=hst y3 l3
   clear hst
   go_wp2_with fail
   go_roundw
   case rel=>exact ⟨4,_,by omega,by go_num,hide (uh HNX y3 l3 _ (fun d=>by simp;try omega))⟩
   case measure=>simp [intOf]
  ·obtain ⟨⟨u,hu⟩,hz⟩:=hst y4 l4
   clear hst
   go_wp2_with fail
   go_roundw
   case rel=>exact ⟨5,_,by omega,by go_num,hide (uh HNX y4 l4 _ (fun d=>by simp;try omega))⟩
   case measure=>simp [intOf]
  ·clear hst HNX
   rw [show ((5:Nat):Int) = (5:Int) from rfl]
   have h1:=(uh H).is.below (uh hI).2.2
   have c6:=h1.c6
   obtain ⟨D,hD⟩:∃ D,D = w.heap.size:=⟨_,rfl⟩
   have HI2:Hid (Ob wr 240 24 D (blC bl)∧Seen bl ([y0,y1,y2,y3,y4] ++ (f.ow.take 0).flatMap (fun p=>[p.l,p.r]))∧Below w.heap.size w wr):=hide ⟨by rw [hD];exact (uh hI).1,(uh hI).2.1,(uh hI).2.2⟩
   have HD:=hide hD
   clear hI h1 j0 j1 j2 j3 j4 l0 l1 l2 l3 l4
   rw [← hD]
   clear hD
   go_wp2_with fail
   go_loopw [25] (fun i wx=>∃ (k:Nat) (bl:List Bool),k≤f.ow.length∧i = .int .i64 k∧Hid (Ob wx 240 24 D (blC bl)∧Seen bl ([y0,y1,y2,y3,y4] ++ (f.ow.take k).flatMap (fun p=>[p.l,p.r]))∧Below w.heap.size w wx)) (fun i _=>f.ow.length - (intOf i).toNat)
   case atStart=>exact ⟨0,bl,Nat.zero_le _,rfl,HI2⟩
   case round =>
    clear HI2 c6
    obtain ⟨k,bl,hk,rfl,hI⟩:=hrel
    have h1:=(uh H).is.below (uh hI).2.2
    by_cases hlt:k < f.ow.length
    ·have hd:decide ((k:Int) < (f.ow.length:Int)) = true:=by simp;omega
     obtain ⟨g,cap,hgv,-,-⟩:=own_formP h1.ow hlt
     simp only [Value.slice.injEq,true_and] at hgv
     obtain ⟨rfl,rfl⟩:=hgv
     obtain ⟨x0,x1,x2⟩:=own_cells h1.ow hlt
     obtain ⟨hpl,hpr⟩:=(uh HR).ow.at k
     have hfs:=flat_step hlt
     obtain ⟨p,hp⟩:∃ p,p = f.ow.getD k pr0:=⟨_,rfl⟩
     rw [← hp] at x0 x1 x2 hpl hpr hfs
     obtain ⟨-,n1,n2⟩:=new3 wr (Value.int .i64 p.k) (.int .i64 p.l) (.int .i64 p.r) 182
     have hDl:D < wr.heap.size:=(World.ownsRow.lt (uh hI).1 D rfl).2
     have o0:=(uh hI).1.alloc (.cells #[Value.int .i64 p.k,.int .i64 p.l,.int .i64 p.r] 182)
     obtain ⟨⟨u1,hu1⟩,hz1'⟩:=o0.some (j:=p.l) hpl
     have o1:=(uh hI).1.stored p.l (.bool true)
     rw [blC_set] at o1
     obtain ⟨⟨u3,hu3⟩,hz3'⟩:=o1.some (j:=p.r) hpr
     have o2:=o1.stored p.r (.bool true)
     rw [blC_set] at o2
     have n2':((wr.alloc (.cells #[Value.int .i64 p.k,.int .i64 p.l,.int .i64 p.r] 182)).setCell ⟨D,p.l,none⟩ (.bool true)).cell? ⟨wr.heap.size,2,none⟩ = some (.int .i64 (p.r:Int)):=by
      rw [World.cell?_setCell_other _ _ _ _ (by intro e;simp at e;try omega)];exact n2
     have hbb:=(((uh hI).2.2.setCell (p:=⟨D,p.l,none⟩) (Nat.le_of_eq (uh HD).symm) (.bool true)).setCell (p:=⟨D,p.r,none⟩) (Nat.le_of_eq (uh HD).symm) (.bool true))
     have HO2:=hide (o2.alloc (.cells #[Value.int .i64 p.k,.int .i64 p.l,.int .i64 p.r] 182))
     have HSN:Hid (Seen ((bl.set p.l true).set p.r true) ([y0,y1,y2,y3,y4] ++ (f.ow.take (k + 1)).flatMap (fun p=>[p.l,p.r]))):=hide ((((uh hI).2.1.add hpl).add hpr).congr (fun d=>by rw [hfs];exact mem_two))
     have HBB:=hide (hbb.alloc hbb.size (.cells #[Value.int .i64 p.k,.int .i64 p.l,.int .i64 p.r] 182))
     have i1:(0:Int)≤(k:Int):=by omega
     have i2:(k:Int) < (f.ow.length:Int):=by omega
     clear o0 o1 o2 hp hfs h1 hI hbb
     go_wp2_with fail
     go_roundw
     case rel=>exact ⟨k + 1,_,by omega,by go_num,hide ⟨uh HO2,uh HSN,uh HBB⟩⟩
     case measure=>simp [intOf];omega
    ·have hd:decide ((k:Int) < (f.ow.length:Int)) = false:=by simp;omega
     have hke:k = f.ow.length:=by omega
     have c5:=(h1.alloc (.cells #[] 182)).c5
     have HSN:Hid (Seen bl (lvL f)):=hide (by
      have:=(uh hI).2.1
      rw [hke,List.take_length] at this
      unfold lvL
      rw [uh HCL]
      exact this)
     have HOD:=hide (uh hI).1
     have HBW:=hide (uh hI).2.2
     have HR0:Hid ((wr.alloc (.cells #[] 182)).ownsRow wr.heap.size 182 3 (.slice (some ⟨wr.heap.size,0,none⟩) 0 0) 0 []∧Below wr.heap.size wr (wr.alloc (.cells #[] 182))):=hide ⟨World.ownsRow_lit (base:=wr.heap.size) (e:=182) (size:=3) wr #[] 0 (Nat.le_refl _) (by simp [maxLen]) rfl,below_boxQ wr _⟩
     have H1:=hide h1
     clear h1 hI hke
     obtain ⟨wz,hwz⟩:∃ wz,wz = wr:=⟨_,rfl⟩
     rw [← hwz] at HOD HBW HR0 H1 c5 ⊢
     clear hwz
     go_wp2_with fail
     go_loopw [7,42] (fun rv j wx=>∃ (k:Nat),k≤f.ap.length∧j = .int .i64 k∧Hid (wx.ownsRow wz.heap.size 182 3 rv ((f.ap.take k).filter (fgP f)).length (prCells ((f.ap.take k).filter (fgP f)))∧Below wz.heap.size wz wx)) (fun _ j _=>f.ap.length - (intOf j).toNat)
     case atStart=>exact ⟨0,Nat.zero_le _,rfl,HR0⟩
     case round =>
      clear HR0 c5
      obtain ⟨k,hk,rfl,hI⟩:=hrel
      have hF:=(uh H1).below (uh hI).2
      have hdo:=(uh HOD).of_eq (w':=wr) ((uh hI).2.block D (World.ownsRow.lt (uh HOD) D rfl).2)
      obtain ⟨ra,rc,hrv,-,-⟩:=own_slc (uh hI).1
      subst hrv
      by_cases hlt:k < f.ap.length
      ·have hd:decide ((k:Int) < (f.ap.length:Int)) = true:=by simp;omega
       obtain ⟨g2,cap2,hgv,-,-⟩:=own_formP hF.ap hlt
       simp only [Value.slice.injEq,true_and] at hgv
       obtain ⟨rfl,rfl⟩:=hgv
       obtain ⟨x0,x1,x2⟩:=own_cells hF.ap hlt
       obtain ⟨hpl,hpr⟩:=(uh HR).ap (f.ap.getD k pr0) (by rw [pr_at hlt];exact List.getElem_mem hlt)
       have hst:=filt_step (P:=fgP f) hlt
       obtain ⟨p,hp⟩:∃ p,p = f.ap.getD k pr0:=⟨_,rfl⟩
       rw [← hp] at x0 x1 x2 hpl hpr hst
       obtain ⟨-,n1,n2⟩:=new3 wr (Value.int .i64 p.k) (.int .i64 p.l) (.int .i64 p.r) 182
       have hDl:D < wr.heap.size:=(World.ownsRow.lt hdo D rfl).2
       obtain ⟨⟨-,-⟩,hz1'⟩:=hdo.some (j:=p.l) hpl
       have d1:=(World.ownsRow.cellAt hdo p.l (by omega)).trans (blC_get (by rw [(uh HSN).1];exact hpl))
       have d2:=(World.ownsRow.cellAt hdo p.r (by omega)).trans (blC_get (by rw [(uh HSN).1];exact hpr))
       obtain ⟨b1,hb1⟩:∃ b,b = bl.getD p.l false:=⟨_,rfl⟩
       obtain ⟨b2,hb2⟩:∃ b,b = bl.getD p.r false:=⟨_,rfl⟩
       rw [← hb1] at d1
       rw [← hb2] at d2
       have e1:decide (p.l∈lvL f) = b1:=by rw [hb1];have:=(uh HSN).2 p.l hpl;cases h:bl.getD p.l false <;> simp_all
       have e2:decide (p.r∈lvL f) = b2:=by rw [hb2];have:=(uh HSN).2 p.r hpr;cases h:bl.getD p.r false <;> simp_all
       have HST:=hide hst
       have HP:Hid (fgP f p = (b1 && b2 && !clrB f p.l p.r)):=hide (by unfold fgP;rw [e1,e2])
       have HB1:=hide ((uh hI).2.alloc (uh hI).2.size (.cells #[.int .i64 (p.k:Int),.int .i64 (p.l:Int),.int .i64 (p.r:Int)] 182))
       have HRB:=hide ((uh hI).1.alloc (.cells #[.int .i64 (p.k:Int),.int .i64 (p.l:Int),.int .i64 (p.r:Int)] 182))
       have HFA:=hide (hF.alloc (.cells #[.int .i64 (p.k:Int),.int .i64 (p.l:Int),.int .i64 (p.r:Int)] 182))
       have i1:(0:Int)≤(k:Int):=by omega
       have i2:(k:Int) < (f.ap.length:Int):=by omega
       have hlen:((f.ap.take k).filter (fgP f)).length≤k:=Nat.le_trans (List.length_filter_le _ _) (by simp;omega)
       obtain ⟨L,hL⟩:∃ L,L = (f.ap.take k).filter (fgP f):=⟨_,rfl⟩
       rw [← hL] at HST HRB hI hlen ⊢
       clear hp hst hF hdo hb1 hb2 e1 e2 hL
       have no:fgP f p = false→(f.ap.take (k + 1)).filter (fgP f) = L:=fun h=>by rw [uh HST,h];simp
       have yes:fgP f p = true→(f.ap.take (k + 1)).filter (fgP f) = L ++ [p]:=fun h=>by rw [uh HST,h];simp
       have NO:=hide no
       have YES:=hide yes
       clear no yes
       cases b1
       ·go_wp2_with fail
        go_roundw
        case rel=>exact ⟨k + 1,by omega,by go_num,hide (by rw [uh NO (by rw [uh HP];rfl)];exact ⟨uh HRB,uh HB1⟩)⟩
        case measure=>simp [intOf];omega
       ·cases b2
        ·go_wp2_with fail
         go_roundw
         case rel=>exact ⟨k + 1,by omega,by go_num,hide (by rw [uh NO (by rw [uh HP];rfl)];exact ⟨uh HRB,uh HB1⟩)⟩
         case measure=>simp [intOf];omega
        ·go_wp2_with fail
         refine (clear_any p.l p.r (uh HFA)).mono ?_
         rintro e w1 ⟨rfl,rfl⟩
         cases hcl:clrB f p.l p.r
         ·have HY:=hide (uh YES (by rw [uh HP,hcl];rfl))
          clear YES NO HP hcl
          go_wp2_with (at_builtin;refine wpList_app1 _ rfl (.tmp 65) (.tmp 67) 177 rfl wz.heap.size 182 i0 _ 3 24 Tryz.underlying177 hi0 hz0 hz1 hz2 rfl (by decide) _ L.length (prCells L) rfl ((uh HRB).alloc _) ⟨_,0,none⟩ 1 [.int .i64 (p.k:Int),.int .i64 (p.l:Int),.int .i64 (p.r:Int)] rfl rfl (new_cells _ _ (by simp) [.int .i64 (p.k:Int),.int .i64 (p.l:Int),.int .i64 (p.r:Int)] _) (prC_one p) (by omega) (by omega) (by have:=(uh HB1).size;simp at this ⊢;omega) ?_)
          intro g4 cap4 w4 hown4 hgrow4 hblk4
          have HN:Hid (w4.ownsRow wz.heap.size 182 3 (.slice (some ⟨g4,0,none⟩) (L.length + 1) cap4) ((f.ap.take (k + 1)).filter (fgP f)).length (prCells ((f.ap.take (k + 1)).filter (fgP f)))∧Below wz.heap.size wz w4):=hide (by
           rw [uh HY,List.length_append,List.length_singleton,prCells_app]
           refine ⟨hown4,?_⟩
           have hb:=(uh HB1).alloc (uh HB1).size (.cells #[.int .i64 (p.k:Int),.int .i64 (p.l:Int),.int .i64 (p.r:Int)] 182)
           exact hb.grown hgrow4 hb.size (fun k hk=>((uh HRB).lt k hk).1))
          clear hown4 hgrow4 hblk4
          go_wp2_with fail
          go_roundw
          case rel=>exact ⟨k + 1,by omega,by go_num,HN⟩
          case measure=>simp [intOf];omega
         ·go_wp2_with fail
          go_roundw
          case rel=>exact ⟨k + 1,by omega,by go_num,hide (by rw [uh NO (by rw [uh HP,hcl];rfl)];exact ⟨uh HRB,uh HB1⟩)⟩
          case measure=>simp [intOf];omega
      ·have hd:decide ((k:Int) < (f.ap.length:Int)) = false:=by simp;omega
       have hke:k = f.ap.length:=by omega
       have hbw:=(uh HBW).trans ((uh hI).2.mono (uh HBW).size)
       have hs:Stp (Value.slice aa f.ap.length ac).ownBlock.toList w (Value.slice ra ((f.ap.take k).filter (fgP f)).length rc).ownBlock.toList wr:=(Stp.ofBw (F:=(Value.slice aa f.ap.length ac).ownBlock.toList) hbw).foots (fun j hj=>Or.inr (Nat.le_trans (uh HBW).size ((uh hI).1.lt j (by simpa using hj)).1))
       have hN:=(uh H).newAv (ap':=(f.ap.take k).filter (fgP f)) hs (v':=.slice ra ((f.ap.take k).filter (fgP f)).length rc) (fun j hj=>by simpa using hj) (own_le (uh hI).1 (Nat.zero_le _))
       have HN:=hide hN
       have HE:Hid (fgF f = { f with ap:=(f.ap.take k).filter (fgP f) }):=hide (by unfold fgF;rw [hke,List.take_length])
       have c5:=hF.c5
       have f5:=World.ownsRow.frozenAt hF.ob 5
       clear hs hN hke hF hbw hdo
       go_wp2_with fail
       go_end0
       exact ⟨rfl,_,by rw [uh HE];exact (uh HN).1,(uh HN).2⟩
end
def nuC (ms:List Nat):List Value:=(ms ++ List.replicate (24 - ms.length) 0).map (fun n=>Value.int .i64 (n:Nat)) ++ ((List.range 24).map (fun c=>Value.int .i64 (frN ms c:Nat)) ++ [Value.int .i64 (ms.length:Nat)])
theorem nu_old {ms:List Nat} (h:ms.length≤24) {k:Nat} (hk:k < 24):(nuC ms)[k]? = some (.int .i64 ((ms.getD k 0:Nat):Int)):=by
 unfold nuC
 rw [List.getElem?_append_left (by simp;omega),List.getElem?_map,List.getD_eq_getElem?_getD]
 by_cases hl:k < ms.length
 ·rw [List.getElem?_append_left hl,List.getElem?_eq_getElem hl];rfl
 ·rw [List.getElem?_append_right (by omega),List.getElem?_replicate,if_pos (by omega),List.getElem?_eq_none (by omega)];rfl
theorem nu_fresh {ms:List Nat} (h:ms.length≤24) {c:Nat} (hc:c < 24):(nuC ms)[24 + c]? = some (.int .i64 ((frN ms c:Nat):Int)):=by
 unfold nuC
 have e:((ms ++ List.replicate (24 - ms.length) 0).map (fun n=>Value.int .i64 ((n:Nat):Int))).length = 24:=by simp;omega
 rw [List.getElem?_append_right (by omega),e,Nat.add_sub_cancel_left,List.getElem?_append_left (by simpa using hc),List.getElem?_map,List.getElem?_range hc]
 rfl
theorem nu_count {ms:List Nat} (h:ms.length≤24):(nuC ms)[48]? = some (.int .i64 ((ms.length:Nat):Int)):=by
 unfold nuC
 have e:((ms ++ List.replicate (24 - ms.length) 0).map (fun n=>Value.int .i64 ((n:Nat):Int))).length = 24:=by simp;omega
 rw [List.getElem?_append_right (by omega),e,List.getElem?_append_right (by simp)]
 simp
theorem nu_len {ms:List Nat} (h:ms.length≤24):(nuC ms).length = 49:=by unfold nuC;simp;omega
theorem frN_new {ms:List Nat} {c d:Nat} (hc:c ∉ ms):frN (ms ++ [c]) d = if d = c then ms.length + 1 else frN ms d:=by
 unfold frN
 by_cases hd:d = c
 ·subst hd
  rw [if_pos (by simp),if_pos rfl,List.idxOf_append,if_neg hc]
  simp
 ·rw [if_neg hd]
  by_cases hm:d∈ms
  ·rw [if_pos (by simp [hm]),if_pos hm,List.idxOf_append,if_pos hm]
  ·rw [if_neg (by simp [hm,hd]),if_neg hm]
theorem nu_set {ms:List Nat} {c:Nat} (hl:ms.length < 24) (hc:c < 24) (hn:c ∉ ms):(((nuC ms).set ms.length (.int .i64 (c:Int))).set 48 (.int .i64 ((ms.length + 1:Nat):Int))).set (24 + c) (.int .i64 ((ms.length + 1:Nat):Int)) = nuC (ms ++ [c]):=by
 refine List.ext_getElem? (fun j=>?_)
 have l1:=nu_len (ms:=ms) (by omega)
 have l2:=nu_len (ms:=ms ++ [c]) (by simp;omega)
 simp only [List.getElem?_set,List.length_set,l1]
 by_cases hj:j < 49
 ·by_cases h1:j < 24
  ·rw [nu_old (ms:=ms ++ [c]) (by simp;omega) h1,if_neg (by omega),if_neg (by omega)]
   by_cases h2:ms.length = j
   ·subst h2
    rw [if_pos rfl,if_pos (by omega),List.getD_eq_getElem?_getD,List.getElem?_append_right (Nat.le_refl _)]
    simp
   ·rw [if_neg h2,nu_old (ms:=ms) (by omega) h1]
    have e:ms.getD j 0 = (ms ++ [c]).getD j 0:=by
     rw [List.getD_eq_getElem?_getD,List.getD_eq_getElem?_getD]
     by_cases h3:j < ms.length
     ·rw [List.getElem?_append_left h3]
     ·rw [List.getElem?_eq_none (by omega),List.getElem?_eq_none (by simp;omega)]
    rw [e]
  ·by_cases h2:j = 48
   ·subst h2
    rw [nu_count (ms:=ms ++ [c]) (by simp;omega),if_neg (by omega),if_pos rfl,if_pos (by omega)]
    simp
   ·obtain ⟨d,hd⟩:∃ d,j = 24 + d:=⟨j - 24,by omega⟩
    subst hd
    rw [nu_fresh (ms:=ms ++ [c]) (by simp;omega) (by omega),frN_new hn]
    by_cases h3:d = c
    ·subst h3
     rw [if_pos rfl,if_pos (by omega),if_pos rfl]
    ·rw [if_neg (by omega),if_neg (by omega),if_neg (by omega),nu_fresh (ms:=ms) (by omega) (by omega),if_neg h3]
 ·rw [if_neg (by omega),if_neg (by omega),if_neg (by omega),List.getElem?_eq_none (by omega),List.getElem?_eq_none (by omega)]
structure Nu (w:World) (N:Nat) (ms:List Nat):Prop where
 ob:Ob w 290 49 N (nuC ms)
 ok:MsOk ms
section
variable {w w':World} {N:Nat} {ms:List Nat}
theorem Nu.of_eq (h:Nu w N ms) (he:w'.heap[N]? = w.heap[N]?):Nu w' N ms:=⟨h.ob.of_eq he,h.ok⟩
theorem Nu.ltN (h:Nu w N ms):N < w.heap.size:=(World.ownsRow.lt h.ob N rfl).2
theorem Nu.below (h:Nu w N ms) (hb:Below w.heap.size w w'):Nu w' N ms:=h.of_eq (hb.block N h.ltN)
theorem Nu.old (h:Nu w N ms) {k:Nat} (hk:k < 24):w.cell? ⟨N,k,none⟩ = some (.int .i64 ((ms.getD k 0:Nat):Int)):=(World.ownsRow.cellAt h.ob k (by omega)).trans (nu_old h.ok.len hk)
theorem Nu.fresh (h:Nu w N ms) {c:Nat} (hc:c < 24):w.cell? ⟨N,24 + c,none⟩ = some (.int .i64 ((frN ms c:Nat):Int)):=(World.ownsRow.cellAt h.ob (24 + c) (by omega)).trans (nu_fresh h.ok.len hc)
theorem Nu.count (h:Nu w N ms):w.cell? ⟨N,48,none⟩ = some (.int .i64 ((ms.length:Nat):Int)):=(World.ownsRow.cellAt h.ob 48 (by omega)).trans (nu_count h.ok.len)
theorem Nu.frz (h:Nu w N ms) (j:Nat):w.frozen? ⟨N,j,none⟩ = false:=World.ownsRow.frozenAt h.ob j
set_option maxRecDepth 100000 in
set_option maxHeartbeats 4000000 in
theorem meet_any (h:Nu w N ms) {c:Nat} (hc:c < 24):Calls Tryz.prog 223 #[.pointer (some ⟨N,0,none⟩),.int .i64 c] w fun e w'=>e = .returned (.tuple #[])∧Nu w' N (meN ms c)∧Stp [N] w [N] w':=by
 have hfr:=h.fresh hc
 have hct:=h.count
 have hz:=h.frz
 by_cases hm:c∈ms
 ·have hpos:0 < frN ms c:=by unfold frN;rw [if_pos hm];omega
  obtain ⟨x,hx⟩:∃ x,x = frN ms c:=⟨_,rfl⟩
  rw [← hx] at hfr hpos
  have hd:decide ((0:Int) < (x:Int)) = true:=by simp;omega
  have HE:Hid (meN ms c = ms):=hide (by unfold meN;rw [if_pos hm])
  have H:=hide h
  clear h hx hm hz hct
  go_enter Tryz.func223,Tryz.ntmps223
  go_wp2_with fail
  refine bodyPost_ret (v:=.tuple #[]) (by simp [results,Tryz.f223]) rfl ?_
  exact ⟨rfl,by rw [uh HE];exact uh H,Stp.refl _ _⟩
 ·have hx:frN ms c = 0:=by unfold frN;rw [if_neg hm]
  rw [hx] at hfr
  have hl:ms.length < 24:=by
   have h1:=(h.ok.me hc).len
   unfold meN at h1
   rw [if_neg hm,List.length_append,List.length_singleton] at h1
   omega
  have o1:=h.ob.stored ms.length (.int .i64 (c:Int))
  have o2:=o1.stored 48 (.int .i64 ((ms.length + 1:Nat):Int))
  have o3:=o2.stored (24 + c) (.int .i64 ((ms.length + 1:Nat):Int))
  rw [nu_set hl hc hm] at o3
  have c2:=World.ownsRow.cellAt o1 48 (by omega)
  rw [List.getElem?_set,if_neg (by omega),nu_count (by omega)] at c2
  have f2:=World.ownsRow.frozenAt o1 48
  have c3:=World.ownsRow.cellAt o2 48 (by omega)
  rw [List.getElem?_set,if_pos rfl,if_pos (by rw [List.length_set,nu_len (by omega)];omega)] at c3
  obtain ⟨⟨u4,c4⟩,f4⟩:=o2.some (j:=24 + c) (by omega)
  obtain ⟨⟨u5,c5⟩,f5⟩:=h.ob.some (j:=ms.length) (by omega)
  have HST:Hid (Stp [N] w [N] (((w.setCell ⟨N,ms.length,none⟩ (.int .i64 (c:Int))).setCell ⟨N,48,none⟩ (.int .i64 ((ms.length + 1:Nat):Int))).setCell ⟨N,24 + c,none⟩ (.int .i64 ((ms.length + 1:Nat):Int)))):=hide ((((Stp.refl [N] w).setCell (p:=⟨N,ms.length,none⟩) (Or.inl (by simp)) _).setCell (p:=⟨N,48,none⟩) (Or.inl (by simp)) _).setCell (p:=⟨N,24 + c,none⟩) (Or.inl (by simp)) _)
  have HN:Hid (Nu (((w.setCell ⟨N,ms.length,none⟩ (.int .i64 (c:Int))).setCell ⟨N,48,none⟩ (.int .i64 ((ms.length + 1:Nat):Int))).setCell ⟨N,24 + c,none⟩ (.int .i64 ((ms.length + 1:Nat):Int))) N (meN ms c)):=hide (by
   have e:meN ms c = ms ++ [c]:=by unfold meN;rw [if_neg hm]
   have h1:=h.ok.me hc
   rw [e] at h1 ⊢
   exact ⟨o3,h1⟩)
  obtain ⟨n,hn⟩:∃ n,n = ms.length:=⟨_,rfl⟩
  rw [← hn] at hct hl c2 f2 c3 c4 f4 c5 f5 HST HN
  rw [show ((n + 1:Nat):Int) = (n:Int) + 1 by omega] at c3 c4 f4 HST HN
  have hd:decide ((0:Int) < 0) = false:=by decide
  clear o1 o2 o3 h hx hm hn hz
  go_enter Tryz.func223,Tryz.ntmps223
  go_wp2_with fail
  go_region
  go_wp2_with fail
  go_region
  go_wp2_with fail
  go_end0
  exact ⟨rfl,(uh HN).of_eq rfl,(uh HST).drew.drew⟩
end
section
variable {w:World} {A N:Nat} {f:CF} {av ov:Value} {ms:List Nat}
set_option maxRecDepth 100000 in
set_option maxHeartbeats 4000000 in
theorem spread_any (hF:IsF w A f av ov) (hN:Nu w N ms) (hd:∀ k∈bsF A av ov,k≠N) (hO:∀ p∈f.ow,p.l < 24∧p.r < 24) {k0:Nat} (hk0:k0≤24):Calls Tryz.prog 224 #[.pointer (some ⟨A,0,none⟩),.pointer (some ⟨N,0,none⟩),.int .i64 k0] w fun e w'=>e = .returned (.tuple #[])∧Nu w' N (spN f 25 k0 ms)∧Stp [N] w [N] w':=by
 have HF:=hide hF
 have HD:=hide hd
 have HO:=hide hO
 obtain ⟨R,hR⟩:∃ R,R = spN f 25 k0 ms:=⟨_,rfl⟩
 have HI0:Hid (Nu w N ms∧spN f 25 k0 ms = R∧Stp [N] w [N] w):=hide ⟨hN,hR.symm,Stp.refl _ _⟩
 rw [← hR]
 clear hF hN hd hO hR
 go_enter Tryz.func224,Tryz.ntmps224
 go_wp2_with fail
 go_loopw [6] (fun i wx=>∃ (k n:Nat) (ml:List Nat),k≤24∧24 < n + k∧i = .int .i64 k∧Hid (Nu wx N ml∧spN f n k ml = R∧Stp [N] w [N] wx)) (fun i _=>25 - (intOf i).toNat)
 case atStart=>exact ⟨k0,25,ms,hk0,by omega,rfl,HI0⟩
 case round =>
  clear HI0
  obtain ⟨k,n,ml,hk,hn,rfl,hI⟩:=hrel
  have hct:=(uh hI).1.count
  have hml:=(uh hI).1.ok.len
  by_cases hlt:k < ml.length
  ·have hd:decide ((k:Int) < (ml.length:Int)) = true:=by simp;omega
   have hol:=(uh hI).1.old (k:=k) (by omega)
   have hk24:k < 24:=by omega
   obtain ⟨n',rfl⟩:∃ n',n = n' + 1:=⟨n - 1,by omega⟩
   have hst:spN f n' (k + 1) (spS f k ml) = R:=by
    have:=(uh hI).2.1
    unfold spN at this
    rwa [if_pos hlt] at this
   have hFr:=(uh HF).of_eq (w':=wr) (fun j hj=>(uh hI).2.2.block j ((uh HF).lt j hj) (by simpa using uh HD j hj))
   have HB:=hide (begins_any (ml.getD k 0) hFr)
   have HST:=hide hst
   have HSS:Hid (spS f k ml = match bgn f.ow (ml.getD k 0) with | some i=>meN ml (f.ow.getD i pr0).r | none=>ml):=hide rfl
   obtain ⟨c,hc⟩:∃ c,c = ml.getD k 0:=⟨_,rfl⟩
   rw [← hc] at hol HB HSS
   have HFr:=hide hFr
   have HN:=hide (uh hI).1
   have HP:=hide (uh hI).2.2
   obtain ⟨L,hL⟩:∃ L,L = ml.length:=⟨_,rfl⟩
   rw [← hL] at hct hd hlt
   clear hst hFr hc hI hL hml
   go_wp2_with fail
   refine (uh HB).mono ?_
   rintro e w1 ⟨rfl,rfl⟩
   have hg:=opI_ge (bgn f.ow c)
   cases hb:bgn f.ow c with
   | none =>
    rw [hb] at hg HSS
    have HS2:Hid (spS f k ml = ml):=hide (uh HSS)
    clear HSS
    go_wp2_with fail
    go_roundw
    case rel=>exact ⟨k + 1,n',ml,by omega,by omega,by go_num,hide ⟨uh HN,by have:=uh HST;rw [uh HS2] at this;exact this,uh HP⟩⟩
    case measure=>simp [intOf];omega
   | some i =>
    rw [hb] at hg HSS
    have HS2:Hid (spS f k ml = meN ml (f.ow.getD i pr0).r):=hide (uh HSS)
    clear HSS
    obtain ⟨hi,-⟩:=bgn_lt hb
    have c6:=(uh HFr).c6
    obtain ⟨g,cap,hgv,-,-⟩:=own_formP (uh HFr).ow hi
    subst hgv
    obtain ⟨x0,x1,x2⟩:=own_cells (uh HFr).ow hi
    have hpr:=(uh HO (f.ow.getD i pr0) (mem_getD hi)).2
    obtain ⟨p,hp⟩:∃ p,p = f.ow.getD i pr0:=⟨_,rfl⟩
    rw [← hp] at x0 x1 x2 hpr HS2
    have HM:=hide (meet_any (uh HN) hpr)
    rw [show opI (some i) = (i:Int) from rfl] at hg ⊢
    have i1:(0:Int)≤(i:Int):=by omega
    have i2:(i:Int) < (f.ow.length:Int):=by omega
    clear hp hb
    go_wp2_with fail
    refine (uh HM).mono ?_
    rintro e w2 ⟨rfl,hN2,hs2⟩
    have HN2:=hide hN2
    have HP2:=hide ((uh HP).trans hs2)
    clear hN2 hs2
    go_wp2_with fail
    go_roundw
    case rel=>exact ⟨k + 1,n',_,by omega,by omega,by go_num,hide ⟨uh HN2,by have:=uh HST;rw [uh HS2] at this;exact this,uh HP2⟩⟩
    case measure=>simp [intOf];omega
  ·have hd:decide ((k:Int) < (ml.length:Int)) = false:=by simp;omega
   have HE:Hid (ml = R):=hide (by
    have:=(uh hI).2.1
    cases n with
    | zero=>exact this
    | succ n=>unfold spN at this;rwa [if_neg hlt] at this)
   go_wp2_with fail
   go_end0
   exact ⟨rfl,by rw [← uh HE];exact (uh hI).1,(uh hI).2.2⟩
end
section
variable {w:World} {N:Nat} {v:Value} {l:List Pr} {ms:List Nat}
set_option maxRecDepth 100000 in
set_option maxHeartbeats 4000000 in
theorem apply_any (h:w.ownsRow 0 182 3 v l.length (prCells l)) (hN:Nu w N ms) (hv:v.ownBlock≠some N) (hm:∀ p∈l,p.l∈ms∧p.r∈ms) (hl:l.length≤100000) :
  Calls Tryz.prog 225 #[.pointer (some ⟨N,0,none⟩),v] w fun e w'=>e = .returned (.tuple #[])∧w'.ownsRow 0 182 3 v l.length (prCells (l.map (nuP ms)))∧Stp v.ownBlock.toList w v.ownBlock.toList w':=by
 obtain ⟨va,vc,hv',hvn,hvm⟩:=own_slc h
 subst hv'
 have HR0:Hid (w.ownsRow 0 182 3 (.slice va l.length vc) l.length (prCells (mapK (nuP ms) l 0))∧Stp (Value.slice va l.length vc).ownBlock.toList w (Value.slice va l.length vc).ownBlock.toList w):=hide ⟨by simpa [mapK] using h,Stp.refl _ _⟩
 have HN:=hide hN
 have HV:=hide hv
 have HM:=hide hm
 clear h hN hv hm
 go_enter Tryz.func225,Tryz.ntmps225
 go_wp2_with fail
 go_loopw [4] (fun i wx=>∃ (k:Nat),k≤l.length∧i = .int .i64 k∧Hid (wx.ownsRow 0 182 3 (.slice va l.length vc) l.length (prCells (mapK (nuP ms) l k))∧Stp (Value.slice va l.length vc).ownBlock.toList w (Value.slice va l.length vc).ownBlock.toList wx)) (fun i _=>l.length - (intOf i).toNat)
 case atStart=>exact ⟨0,Nat.zero_le _,rfl,HR0⟩
 case round =>
  clear HR0
  obtain ⟨k,hk,rfl,hI⟩:=hrel
  by_cases hlt:k < l.length
  ·have hd:decide ((k:Int) < (l.length:Int)) = true:=by simp;omega
   obtain ⟨g,cap,hgv,-,-,-⟩:=own_pos (uh hI).1 (by omega)
   simp only [Value.slice.injEq,true_and] at hgv
   obtain ⟨rfl,rfl⟩:=hgv
   have hgN:g≠N:=fun e=>uh HV (by rw [e];rfl)
   have hNr:Nu wr N ms:=(uh HN).of_eq ((uh hI).2.block N (uh HN).ltN (by simpa [Value.ownBlock] using fun e=>hgN e.symm))
   have hK:=mapK_get (g:=nuP ms) hlt
   have hr:=(uh hI).1
   have hlen:=mapK_len (nuP ms) l k
   have hr':wr.ownsRow 0 182 3 (.slice (some ⟨g,0,none⟩) (mapK (nuP ms) l k).length vc) (mapK (nuP ms) l k).length (prCells (mapK (nuP ms) l k)):=by rw [hlen];exact hr
   obtain ⟨-,x1,x2⟩:=own_cells hr' (i:=k) (by omega)
   obtain ⟨hpl,hpr⟩:=uh HM (l.getD k pr0) (mem_getD hlt)
   have hst:=mapK_step (g:=nuP ms) hlt
   rw [hK] at x1 x2
   obtain ⟨p,hp⟩:∃ p,p = l.getD k pr0:=⟨_,rfl⟩
   rw [← hp] at x1 x2 hpl hpr hst hK
   have f1:=hr.frozenAt (k * 3 + 1)
   have f2:=hr.frozenAt (k * 3 + 2)
   have q1:=hNr.fresh (hNr.ok.2 p.l hpl)
   have q2:=hNr.fresh (hNr.ok.2 p.r hpr)
   have e1:frN ms p.l = ms.idxOf p.l + 1:=by unfold frN;rw [if_pos hpl]
   have e2:frN ms p.r = ms.idxOf p.r + 1:=by unfold frN;rw [if_pos hpr]
   rw [e1] at q1
   rw [e2] at q2
   have b1:=idx_lt hNr.ok hpl
   have b2:=idx_lt hNr.ok hpr
   have b3:=hNr.ok.2 p.l hpl
   have b4:=hNr.ok.2 p.r hpr
   obtain ⟨x,hx⟩:∃ x,x = ms.idxOf p.l:=⟨_,rfl⟩
   obtain ⟨y,hy⟩:∃ y,y = ms.idxOf p.r:=⟨_,rfl⟩
   rw [← hx] at q1 b1
   rw [← hy] at q2 b2
   rw [show ((x + 1:Nat):Int) = (x:Int) + 1 by omega] at q1
   rw [show ((y + 1:Nat):Int) = (y:Int) + 1 by omega] at q2
   have i1:(0:Int)≤(k:Int):=by omega
   have i2:(k:Int) < (l.length:Int):=by omega
   have s1:(wr.setCell ⟨g,k * 3 + 1,none⟩ (.int .i64 (x:Int))).ownsRow 0 182 3 (.slice (some ⟨g,0,none⟩) l.length vc) l.length (prCells ((mapK (nuP ms) l k).set k ⟨p.k,x,p.r⟩)):=by
    have:=(hr.stored (k * 3 + 1) (.int .i64 (x:Int))).1
    rw [prCells_set1 (by omega),hK] at this
    exact this
   have s2:((wr.setCell ⟨g,k * 3 + 1,none⟩ (.int .i64 (x:Int))).setCell ⟨g,k * 3 + 2,none⟩ (.int .i64 (y:Int))).ownsRow 0 182 3 (.slice (some ⟨g,0,none⟩) l.length vc) l.length (prCells (mapK (nuP ms) l (k + 1))):=by
    have:=(s1.stored (k * 3 + 2) (.int .i64 (y:Int))).1
    rw [prCells_set2 (by simp;omega)] at this
    rw [hst]
    have e:nuP ms p = ⟨p.k,x,y⟩:=by unfold nuP;rw [← hx,← hy]
    rw [e]
    simpa [hlen,hlt] using this
   have y2:(wr.setCell ⟨g,k * 3 + 1,none⟩ (.int .i64 (x:Int))).cell? ⟨g,k * 3 + 2,none⟩ = some (.int .i64 (p.r:Int)):=by
    rw [World.cell?_setCell_other _ _ _ _ (by simp)];exact x2
   have z2:=s1.frozenAt (k * 3 + 2)
   have q2':(wr.setCell ⟨g,k * 3 + 1,none⟩ (.int .i64 (x:Int))).cell? ⟨N,24 + p.r,none⟩ = some (.int .i64 ((y:Int) + 1)):=by
    rw [World.cell?_setCell_other _ _ _ _ (by simp only [ne_eq,Addr.mk.injEq,not_and];intro e;exact absurd e hgN)];exact q2
   have HS:=hide s2
   have HST:Hid (Stp (Value.slice (some ⟨g,0,none⟩) l.length vc).ownBlock.toList w (Value.slice (some ⟨g,0,none⟩) l.length vc).ownBlock.toList ((wr.setCell ⟨g,k * 3 + 1,none⟩ (.int .i64 (x:Int))).setCell ⟨g,k * 3 + 2,none⟩ (.int .i64 (y:Int)))):=hide (((uh hI).2.setCell (p:=⟨g,k * 3 + 1,none⟩) (Or.inl (by simp [Value.ownBlock])) _).setCell (p:=⟨g,k * 3 + 2,none⟩) (Or.inl (by simp [Value.ownBlock])) _)
   clear hr hr' hK hlen hp s1 s2 hI hst hNr hpl hpr e1 e2 hx hy hgN
   go_wp2_with fail
   go_region
   go_wp2_with fail
   go_region
   go_wp2_with fail
   go_roundw
   case rel=>exact ⟨k + 1,by omega,by go_num,hide ⟨(uh HS).drew.drew,(uh HST).drew.drew⟩⟩
   case measure=>simp [intOf];omega
  ·have hd:decide ((k:Int) < (l.length:Int)) = false:=by simp;omega
   have HE:Hid (mapK (nuP ms) l k = l.map (nuP ms)):=hide (mapK_all (by omega))
   go_wp2_with fail
   go_end0
   exact ⟨rfl,by rw [← uh HE];exact (uh hI).1,(uh hI).2⟩
end
def clG (g:Nat→Nat) (c:List Nat) (k:Nat):List Nat:=(c.take k).map g ++ c.drop k
theorem clG_step {g:Nat→Nat} {c:List Nat} {k:Nat} (hk:k < c.length):clG g c (k + 1) = (clG g c k).set k (g (c.getD k 0))∧(clG g c k).getD k 0 = c.getD k 0:=by
 unfold clG
 have e:c.drop k = c[k] :: c.drop (k + 1):=List.drop_eq_getElem_cons hk
 have e0:c.getD k 0 = c[k]:=by simp [hk]
 have e2:(c.take (k + 1)).map g = (c.take k).map g ++ [g c[k]]:=by
  rw [List.take_add_one,List.getElem?_eq_getElem hk,List.map_append];rfl
 have e3:((c.take k).map g).length = k:=by simp;omega
 refine ⟨?_,?_⟩
 ·rw [e2,e,List.set_append_right _ _ (by omega),e3,Nat.sub_self,List.set_cons_zero,List.append_assoc,e0]
  rfl
 ·rw [List.getD_eq_getElem?_getD,List.getElem?_append_right (by omega),e3,Nat.sub_self,e,e0];rfl
theorem foldl_step {α:Type} {g:α→Pr→α} {a:α} {l:List Pr} {k:Nat} (hk:k < l.length):(l.take (k + 1)).foldl g a = g ((l.take k).foldl g a) (l.getD k pr0):=by
 rw [pr_at hk,List.take_add_one,List.getElem?_eq_getElem hk,List.foldl_append]
 rfl
theorem nu_nil:nuC [] = List.replicate 49 (Value.int .i64 0):=rfl
theorem nu_new (w:World):Nu (w.alloc (.cells (nuC []).toArray 290)) w.heap.size [] :=
 ⟨World.ownsRow_lit (base:=0) (e:=290) (size:=49) w (nuC []).toArray 1 (Nat.zero_le _) (by simp [maxLen]) rfl,MsOk.nil⟩
section
variable {w:World} {A:Nat} {f:CF} {av ov:Value}
set_option maxRecDepth 100000 in
set_option maxHeartbeats 8000000 in
theorem renumber_any (h:Fm w A f av ov) (hO:FoOk f) (hl:∀ p∈f.ap,p.l∈lvL f∧p.r∈lvL f) (ha:f.ap.length≤100000):Calls Tryz.prog 198 #[.pointer (some ⟨A,0,none⟩)] w fun e w'=>e = .returned (.tuple #[])∧Fm w' A (rnF f) av ov∧Stp (bsF A av ov) w (bsF A av ov) w':=by
 obtain ⟨oa,oc,hov,-,-⟩:=own_slc h.is.ow
 subst hov
 obtain ⟨aa,ac,hav,-,-⟩:=own_slc h.is.ap
 subst hav
 obtain ⟨w0,hw0⟩:∃ w0,w0 = w.alloc (.cells (nuC []).toArray 290):=⟨_,rfl⟩
 have hb0:Below w.heap.size w w0:=by rw [hw0];exact below_boxQ w _
 have hN0:Nu w0 w.heap.size []:=by rw [hw0];exact nu_new w
 have h0:=h.below hb0
 have hne:∀ k∈bsF A (.slice aa f.ap.length ac) (.slice oa f.ow.length oc),k≠w.heap.size:=fun k hk=>by have:=h.lt k hk;omega
 have x0:=h0.is.cls (i:=0) (by omega)
 have x1:=h0.is.cls (i:=1) (by omega)
 have x2:=h0.is.cls (i:=2) (by omega)
 have x3:=h0.is.cls (i:=3) (by omega)
 have x4:=h0.is.cls (i:=4) (by omega)
 unfold clV at x0 x1 x2 x3 x4
 have hcl:=hO.cl
 unfold clL at hcl
 have hcL:clL f = [f.cl.getD 0 0,f.cl.getD 1 0,f.cl.getD 2 0,f.cl.getD 3 0,f.cl.getD 4 0]:=rfl
 obtain ⟨y0,e0⟩:∃ y,y = f.cl.getD 0 0:=⟨_,rfl⟩
 obtain ⟨y1,e1⟩:∃ y,y = f.cl.getD 1 0:=⟨_,rfl⟩
 obtain ⟨y2,e2⟩:∃ y,y = f.cl.getD 2 0:=⟨_,rfl⟩
 obtain ⟨y3,e3⟩:∃ y,y = f.cl.getD 3 0:=⟨_,rfl⟩
 obtain ⟨y4,e4⟩:∃ y,y = f.cl.getD 4 0:=⟨_,rfl⟩
 rw [← e0,← e1,← e2,← e3,← e4] at hcl hcL
 rw [← e0] at x0
 rw [← e1] at x1
 rw [← e2] at x2
 rw [← e3] at x3
 rw [← e4] at x4
 have l0:y0 < 24:=hcl y0 (by simp)
 have l1:y1 < 24:=hcl y1 (by simp)
 have l2:y2 < 24:=hcl y2 (by simp)
 have l3:y3 < 24:=hcl y3 (by simp)
 have l4:y4 < 24:=hcl y4 (by simp)
 have j0:=idx5_0 (.int .i64 (y0:Int)) (.int .i64 (y1:Int)) (.int .i64 (y2:Int)) (.int .i64 (y3:Int)) (.int .i64 (y4:Int))
 have j1:=idx5_1 (.int .i64 (y0:Int)) (.int .i64 (y1:Int)) (.int .i64 (y2:Int)) (.int .i64 (y3:Int)) (.int .i64 (y4:Int))
 have j2:=idx5_2 (.int .i64 (y0:Int)) (.int .i64 (y1:Int)) (.int .i64 (y2:Int)) (.int .i64 (y3:Int)) (.int .i64 (y4:Int))
 have j3:=idx5_3 (.int .i64 (y0:Int)) (.int .i64 (y1:Int)) (.int .i64 (y2:Int)) (.int .i64 (y3:Int)) (.int .i64 (y4:Int))
 have j4:=idx5_4 (.int .i64 (y0:Int)) (.int .i64 (y1:Int)) (.int .i64 (y2:Int)) (.int .i64 (y3:Int)) (.int .i64 (y4:Int))
 obtain ⟨N,hNe⟩:∃ N,N = w.heap.size:=⟨_,rfl⟩
 rw [← hNe] at hN0 hne
 have HNe:=hide hNe
 have H:=hide h
 have H0:=hide h0
 have HB0:=hide hb0
 have HNE:=hide hne
 have HCL:=hide hcL
 have hol:=hO.owLen
 have HO:=hide hO
 have HL:=hide hl
 have HI0:Hid (Nu w0 N (([y0,y1,y2,y3,y4].take 0).foldl meN [])∧Stp [N] w0 [N] w0):=hide ⟨hN0,Stp.refl _ _⟩
 clear h h0 e0 e1 e2 e3 e4 hcl hcL hO hN0 hb0 hne hl
 obtain ⟨ag,hag⟩:∃ ag,ag = Value.agg (nuC []).toArray:=⟨_,rfl⟩
 rw [nu_nil] at hw0 hag
 simp only [List.replicate] at hw0 hag
 go_enter Tryz.func198,Tryz.ntmps198
 go_upto_region 1 with fail
 rw [← hw0,← hag,← hNe]
 clear hw0 hNe hag
 go_wp2_with fail
 go_loopw [15] (fun i wx=>∃ (k:Nat),k≤5∧i = .int .i64 k∧Hid (Nu wx N (([y0,y1,y2,y3,y4].take k).foldl meN [])∧Stp [N] w0 [N] wx)) (fun i _=>5 - (intOf i).toNat)
 case atStart=>exact ⟨0,Nat.zero_le _,rfl,HI0⟩
 case round =>
  clear HI0 x0 x1 x2 x3 x4
  obtain ⟨k,hk,rfl,hI⟩:=hrel
  obtain ⟨m,hm⟩:∃ m,m = ([y0,y1,y2,y3,y4].take k).foldl meN []:=⟨_,rfl⟩
  have HM:=hide hm
  rw [← hm] at hI
  clear hm
  have HME:Hid (∀ c:Nat,c < 24→Calls Tryz.prog 223 #[.pointer (some ⟨N,0,none⟩),.int .i64 c] wr fun e w'=>e = .returned (.tuple #[])∧Nu w' N (meN m c)∧Stp [N] w0 [N] w'):=hide (fun c hc=>(meet_any (uh hI).1 hc).mono (fun e w' hw=>⟨hw.1,hw.2.1,(uh hI).2.trans hw.2.2⟩))
  have hcase:k = 0∨k = 1∨k = 2∨k = 3∨k = 4∨k = 5:=by omega
  rcases hcase with rfl | rfl | rfl | rfl | rfl | rfl
  ·go_wp2_with fail
   refine (uh HME y0 l0).mono ?_
   rintro e w1 ⟨rfl,hN1,hs1⟩
   have HN1:Hid (Nu w1 N (([y0,y1,y2,y3,y4].take 1).foldl meN [])∧Stp [N] w0 [N] w1):=hide ⟨by rw [uh HM] at hN1;exact hN1,hs1⟩
   clear hN1 hs1
   go_wp2_with fail
   go_roundw
   case rel=>exact ⟨1,by omega,by go_num,HN1⟩
   case measure=>simp [intOf]
  ·go_wp2_with fail
   refine (uh HME y1 l1).mono ?_
   rintro e w1 ⟨rfl,hN1,hs1⟩
   have HN1:Hid (Nu w1 N (([y0,y1,y2,y3,y4].take 2).foldl meN [])∧Stp [N] w0 [N] w1):=hide ⟨by rw [uh HM] at hN1;exact hN1,hs1⟩
   clear hN1 hs1
   go_wp2_with fail
   go_roundw
   case rel=>exact ⟨2,by omega,by go_num,HN1⟩
   case measure=>simp [intOf]
  ·go_wp2_with fail
   refine (uh HME y2 l2).mono ?_
   rintro e w1 ⟨rfl,hN1,hs1⟩
   have HN1:Hid (Nu w1 N (([y0,y1,y2,y3,y4].take 3).foldl meN [])∧Stp [N] w0 [N] w1):=hide ⟨by rw [uh HM] at hN1;exact hN1,hs1⟩
   clear hN1 hs1
   go_wp2_with fail
   go_roundw
   case rel=>exact ⟨3,by omega,by go_num,HN1⟩
   case measure=>simp [intOf]
  ·go_wp2_with fail
   refine (uh HME y3 l3).mono ?_
   rintro e w1 ⟨rfl,hN1,hs1⟩
   have HN1:Hid (Nu w1 N (([y0,y1,y2,y3,y4].take 4).foldl meN [])∧Stp [N] w0 [N] w1):=hide ⟨by rw [uh HM] at hN1;exact hN1,hs1⟩
   clear hN1 hs1
   go_wp2_with fail
   go_roundw
   case rel=>exact ⟨4,by omega,by go_num,HN1⟩
   case measure=>simp [intOf]
  ·go_wp2_with fail
   refine (uh HME y4 l4).mono ?_
   rintro e w1 ⟨rfl,hN1,hs1⟩
   have HN1:Hid (Nu w1 N (([y0,y1,y2,y3,y4].take 5).foldl meN [])∧Stp [N] w0 [N] w1):=hide ⟨by rw [uh HM] at hN1;exact hN1,hs1⟩
   clear hN1 hs1
   go_wp2_with fail
   go_roundw
   case rel=>exact ⟨5,by omega,by go_num,HN1⟩
   case measure=>simp [intOf]
  ·rw [show ((5:Nat):Int) = (5:Int) from rfl]
   have hmm:m = (clL f).foldl meN []:=by rw [uh HM,uh HCL];rfl
   have hF1:=(uh H0).is.of_eq (w':=wr) (fun j hj=>(uh hI).2.block j ((uh H0).lt j hj) (by simpa using uh HNE j hj))
   have HSP:=hide (spread_any hF1 (uh hI).1 (uh HNE) (uh HO).ow (k0:=0) (by omega))
   have HST:=hide (uh hI).2
   rw [hmm] at HSP
   clear j0 j1 j2 j3 j4 l0 l1 l2 l3 l4 hmm hF1 hI HM HME
   go_wp2_with fail
   refine (uh HSP).mono ?_
   rintro e w1 ⟨rfl,hN1,hs1⟩
   have hst1:=(uh HST).trans hs1
   have hF1:=(uh H0).is.of_eq (w':=w1) (fun j hj=>hst1.block j ((uh H0).lt j hj) (by simpa using uh HNE j hj))
   have c6:=hF1.c6
   obtain ⟨M1,hM1⟩:∃ M1,M1 = spN f 25 0 ((clL f).foldl meN []):=⟨_,rfl⟩
   have HM1:=hide hM1
   rw [← hM1] at hN1
   have HI1:Hid (Nu w1 N ((f.ow.take 0).foldl (roS f) M1)∧Stp [N] w0 [N] w1):=hide ⟨hN1,hst1⟩
   clear hN1 hs1 hst1 hF1 HSP hM1 HST
   go_wp2_with fail
   go_loopw [30] (fun i wx=>∃ (k:Nat),k≤f.ow.length∧i = .int .i64 k∧Hid (Nu wx N ((f.ow.take k).foldl (roS f) M1)∧Stp [N] w0 [N] wx)) (fun i _=>f.ow.length - (intOf i).toNat)
   case atStart=>exact ⟨0,Nat.zero_le _,rfl,HI1⟩
   case round =>
    clear HI1 c6
    obtain ⟨k,hk,rfl,hI⟩:=hrel
    have hF1:=(uh H0).is.of_eq (w':=wr) (fun j hj=>(uh hI).2.block j ((uh H0).lt j hj) (by simpa using uh HNE j hj))
    by_cases hlt:k < f.ow.length
    ·have hd:decide ((k:Int) < (f.ow.length:Int)) = true:=by simp;omega
     obtain ⟨g,cap,hgv,-,-⟩:=own_formP hF1.ow hlt
     simp only [Value.slice.injEq,true_and] at hgv
     obtain ⟨rfl,rfl⟩:=hgv
     obtain ⟨x0,x1,x2⟩:=own_cells hF1.ow hlt
     have hpl:=((uh HO).ow _ (mem_getD hlt)).1
     have hfs:=foldl_step (g:=roS f) (a:=M1) hlt
     obtain ⟨p,hp⟩:∃ p,p = f.ow.getD k pr0:=⟨_,rfl⟩
     rw [← hp] at x0 x1 x2 hpl hfs
     obtain ⟨m,hm⟩:∃ m,m = (f.ow.take k).foldl (roS f) M1:=⟨_,rfl⟩
     rw [← hm] at hI hfs
     obtain ⟨-,n1,-⟩:=new3 wr (Value.int .i64 p.k) (.int .i64 p.l) (.int .i64 p.r) 182
     have hNa:=(uh hI).1.below (below_boxQ wr (.cells #[Value.int .i64 p.k,.int .i64 p.l,.int .i64 p.r] 182))
     have hct:=hNa.count
     have hml:=hNa.ok.len
     have HME:=hide (meet_any hNa hpl)
     have hsa:Stp [N] w0 [N] (wr.alloc (.cells #[Value.int .i64 p.k,.int .i64 p.l,.int .i64 p.r] 182)):=(uh hI).2.trans (Stp.ofBw (below_boxQ wr _))
     have HSA:=hide hsa
     have HFS:=hide hfs
     have i1:(0:Int)≤(k:Int):=by omega
     have i2:(k:Int) < (f.ow.length:Int):=by omega
     obtain ⟨L,hL⟩:∃ L,L = m.length:=⟨_,rfl⟩
     have HLm:=hide hL
     rw [← hL] at hct hml
     clear hp hm hNa hsa hfs hF1 hI hL
     go_wp2_with fail
     refine (uh HME).mono ?_
     rintro e w2 ⟨rfl,hN2,hs2⟩
     have hs2':=(uh HSA).trans hs2
     have hF2:=(uh H0).is.of_eq (w':=w2) (fun j hj=>hs2'.block j ((uh H0).lt j hj) (by simpa using uh HNE j hj))
     have HSP:=hide (spread_any hF2 hN2 (uh HNE) (uh HO).ow (k0:=L) hml)
     have HS2:=hide hs2'
     clear hN2 hs2 hs2' hF2 HME HSA n1 hct
     go_wp2_with fail
     refine (uh HSP).mono ?_
     rintro e w3 ⟨rfl,hN3,hs3⟩
     have HN3:Hid (Nu w3 N ((f.ow.take (k + 1)).foldl (roS f) M1)∧Stp [N] w0 [N] w3):=hide ⟨by
      rw [uh HFS]
      unfold roS
      rw [uh HLm] at hN3
      exact hN3,(uh HS2).trans hs3⟩
     clear hN3 hs3 HSP HS2
     go_wp2_with fail
     go_roundw
     case rel=>exact ⟨k + 1,by omega,by go_num,HN3⟩
     case measure=>simp [intOf];omega
    ·have hd:decide ((k:Int) < (f.ow.length:Int)) = false:=by simp;omega
     have hke:k = f.ow.length:=by omega
     have hro:(f.ow.take k).foldl (roS f) M1 = roL f:=by rw [hke,List.take_length,uh HM1];rfl
     rw [hro] at hI
     obtain ⟨R,hR⟩:∃ R,R = roL f:=⟨_,rfl⟩
     rw [← hR] at hI
     have HR:=hide hR
     have hFm:Fm wr A f (.slice aa f.ap.length ac) (.slice oa f.ow.length oc):=(uh H0).of_eq (fun j hj=>(uh hI).2.block j ((uh H0).lt j hj) (by simpa using uh HNE j hj))
     have HI3:Hid (Fm wr A { f with cl:=clG (fun c=>R.idxOf c) f.cl 0 } (.slice aa f.ap.length ac) (.slice oa f.ow.length oc)∧Nu wr N R∧Stp (N :: bsF A (.slice aa f.ap.length ac) (.slice oa f.ow.length oc)) w0 (N :: bsF A (.slice aa f.ap.length ac) (.slice oa f.ow.length oc)) wr):=hide ⟨by simpa [clG] using hFm,(uh hI).1,(uh hI).2.wide (fun j hj=>by rw [List.mem_singleton] at hj;subst hj;simp)⟩
     clear hke hro hR hFm hF1 hI
     go_wp2_with fail
     go_loopw [8] (fun i wx=>∃ (k:Nat),k≤5∧i = .int .i64 k∧Hid (Fm wx A { f with cl:=clG (fun c=>R.idxOf c) f.cl k } (.slice aa f.ap.length ac) (.slice oa f.ow.length oc)∧Nu wx N R∧Stp (N :: bsF A (.slice aa f.ap.length ac) (.slice oa f.ow.length oc)) w0 (N :: bsF A (.slice aa f.ap.length ac) (.slice oa f.ow.length oc)) wx)) (fun i _=>5 - (intOf i).toNat)
     case atStart=>exact ⟨0,Nat.zero_le _,rfl,HI3⟩
     case round =>
      clear HI3
      obtain ⟨k,hk,rfl,hI⟩:=hrel
      by_cases hlt:k < 5
      ·have hd:decide ((k:Int) < (5:Int)) = true:=by simp;omega
       have hst:=clG_step (g:=fun c=>R.idxOf c) (c:=f.cl) (k:=k) (by have:=(uh HO).c5;omega)
       have hc24:=(uh HO).get k
       have hcm:f.cl.getD k 0∈R:=by rw [uh HR];exact (roL_ok0 (uh HO).ow (uh HO).cl).2.2.1 _ (clL_get hlt)
       obtain ⟨c,hc⟩:∃ c,c = f.cl.getD k 0:=⟨_,rfl⟩
       rw [← hc] at hst hc24 hcm
       have x:wr.cell? ⟨A,k,none⟩ = some (.int .i64 (c:Int)):=by
        have:=(uh hI).1.is.cls hlt
        unfold clV at this
        rw [this]
        show some (Value.int .i64 (((clG (fun c=>R.idxOf c) f.cl k).getD k 0:Nat):Int)) = _
        rw [hst.2]
       have fz:wr.frozen? ⟨A,k,none⟩ = false:=World.ownsRow.frozenAt (uh hI).1.is.ob k
       have q1:=(uh hI).2.1.fresh hc24
       have e1:frN R c = R.idxOf c + 1:=by unfold frN;rw [if_pos hcm]
       rw [e1] at q1
       have hsm:=(uh hI).1.setCl k (R.idxOf c) hlt
       rw [show ({ f with cl:=clG (fun c=>R.idxOf c) f.cl k }:CF).cl = clG (fun c=>R.idxOf c) f.cl k from rfl,← hst.1] at hsm
       have hAN:A≠N:=uh HNE A (by simp [bsF])
       obtain ⟨y,hy⟩:∃ y,y = R.idxOf c:=⟨_,rfl⟩
       rw [← hy] at q1 hsm
       have hy24:y < 24:=by rw [hy];exact idx_lt (uh hI).2.1.ok hcm
       rw [show ((y + 1:Nat):Int) = (y:Int) + 1 by omega] at q1
       have HN2:Hid (Fm (wr.setCell ⟨A,k,none⟩ (.int .i64 (y:Int))) A { f with cl:=clG (fun c=>R.idxOf c) f.cl (k + 1) } (.slice aa f.ap.length ac) (.slice oa f.ow.length oc)∧Nu (wr.setCell ⟨A,k,none⟩ (.int .i64 (y:Int))) N R∧Stp (N :: bsF A (.slice aa f.ap.length ac) (.slice oa f.ow.length oc)) w0 (N :: bsF A (.slice aa f.ap.length ac) (.slice oa f.ow.length oc)) (wr.setCell ⟨A,k,none⟩ (.int .i64 (y:Int)))):=hide ⟨hsm,(uh hI).2.1.of_eq (Below.heap_setCell _ _ _ _ (fun e=>hAN e.symm)),(uh hI).2.2.setCell (p:=⟨A,k,none⟩) (Or.inl (by simp [bsF])) _⟩
       have i1:(0:Int)≤(k:Int):=by omega
       have i2:(k:Int) < (5:Int):=by omega
       have i3:(c:Int) < (24:Int):=by omega
       clear hst hcm hc e1 hsm hy hAN hI
       go_wp2_with fail
       go_region
       go_wp2_with fail
       go_roundw
       case rel=>exact ⟨k + 1,by omega,by go_num,hide ⟨(uh HN2).1.of_eq (fun _ _=>rfl),(uh HN2).2.1.of_eq rfl,(uh HN2).2.2.drew⟩⟩
       case measure=>simp [intOf];omega
      ·have hd:decide ((k:Int) < (5:Int)) = false:=by simp;omega
       have hk5:k = 5:=by omega
       have hcl:clG (fun c=>R.idxOf c) f.cl k = (clL f).map (fun c=>R.idxOf c):=by
        rw [clL_iff (uh HO).c5]
        unfold clG
        have h5:=(uh HO).c5
        rw [List.take_of_length_le (by omega),List.drop_eq_nil_of_le (by omega),List.append_nil]
       rw [hcl] at hI
       have hlv:∀ c∈lvL f,c∈R:=by rw [uh HR];exact roL_live (uh HO).ow (uh HO).cl (uh HO).lf
       have hF3:=(uh hI).1
       have c6:=hF3.is.c6
       have hNE:=uh HNE
       have HAP:=hide (apply_any hF3.is.ow (uh hI).2.1 (fun e=>hNE N (by simp only [bsF,List.mem_cons,List.mem_append,Option.mem_toList];exact Or.inr (Or.inr e)) rfl) (fun p hp=>⟨hlv _ (List.mem_append_right _ (List.mem_flatMap.2 ⟨p,hp,by simp⟩)),hlv _ (List.mem_append_right _ (List.mem_flatMap.2 ⟨p,hp,by simp⟩))⟩) (Nat.le_trans hol (by omega)))
       have HLV:=hide hlv
       clear hcl hk5 hlv hF3 hNE
       go_wp2_with fail
       refine (uh HAP).mono ?_
       rintro e w4 ⟨rfl,hr4,hs4⟩
       obtain ⟨hF4,hst4⟩:=(uh hI).1.newRow (ow':=f.ow.map (nuP R)) (by simp) hr4 hs4
       have hNE:=uh HNE
       have hN4:Nu w4 N R:=(uh hI).2.1.of_eq (hs4.block N (uh hI).2.1.ltN (fun hj=>hNE N (by simp only [bsF,List.mem_cons,List.mem_append];exact Or.inr (Or.inr hj)) rfl))
       have c5:=hF4.is.c5
       have HAP2:=hide (apply_any hF4.is.ap hN4 (fun e=>hNE N (by simp only [bsF,List.mem_cons,List.mem_append,Option.mem_toList];exact Or.inr (Or.inl e)) rfl) (fun p hp=>⟨uh HLV _ (uh HL p hp).1,uh HLV _ (uh HL p hp).2⟩) ha)
       have HF4:=hide hF4
       have HS4:Hid (Stp (N :: bsF A (.slice aa f.ap.length ac) (.slice oa f.ow.length oc)) w0 (N :: bsF A (.slice aa f.ap.length ac) (.slice oa f.ow.length oc)) w4):=hide ((uh hI).2.2.trans (hst4.wide (fun j hj=>List.mem_cons_of_mem _ hj)))
       clear hr4 hs4 hF4 hst4 hNE hN4 HAP
       go_wp2_with fail
       refine (uh HAP2).mono ?_
       rintro e w5 ⟨rfl,hr5,hs5⟩
       obtain ⟨hF5,hst5⟩:=(uh HF4).newRowA (ap':=f.ap.map (nuP R)) (by simp) hr5 hs5
       have HF5:Hid (Fm w5 A (rnF f) (.slice aa f.ap.length ac) (.slice oa f.ow.length oc)):=hide (by unfold rnF;rw [← uh HR];exact hF5)
       have HS5:Hid (Stp (bsF A (.slice aa f.ap.length ac) (.slice oa f.ow.length oc)) w (bsF A (.slice aa f.ap.length ac) (.slice oa f.ow.length oc)) w5):=hide (by
        have h1:=(uh HS4).trans (hst5.wide (fun j hj=>List.mem_cons_of_mem _ hj))
        have hb:=uh HB0
        exact ⟨h1.os.trans hb.os,h1.tape.trans hb.tape,h1.output.trans hb.output,Nat.le_trans hb.size h1.size,fun j hj hn=>(h1.block j (Nat.lt_of_lt_of_le hj hb.size) (by
         rw [List.mem_cons,not_or]
         exact ⟨by have:=uh HNe;omega,hn⟩)).trans (hb.block j hj),fun j hj=>Or.inl hj⟩)
       clear hr5 hs5 hF5 hst5 HAP2
       go_wp2_with fail
       go_end0
       exact ⟨rfl,uh HF5,uh HS5⟩
end
theorem eqP_in (a b c x y z:Int) (w:World):(Op.equalIn 10000 182 (.agg #[.int .i64 a,.int .i64 b,.int .i64 c]) (.agg #[.int .i64 x,.int .i64 y,.int .i64 z])).run Tryz.prog w = .ok (a == x && (b == y && c == z)) w:=by
 have u3:=Tryz.underlying3
 have a3:=Tryz.isAgg3
 have z3:=Tryz.sizeOf3
 have hS:Tryz.prog.underlying 182 = some (.struct (Tryz.prog.fieldsOf 182)):=by kernel_rfl
 have hp:Tryz.prog.stoodInHeld 182 = false:=by kernel_rfl
 rw [show (10000:Nat) = 9999 + 1 from rfl,run_equalIn_agg w 9999 182 _ _ hS hp]
 simp only [Program.fieldsOf,Tryz.underlying182]
 go_simp
 by_cases h1:a = x <;> by_cases h2:b = y <;> by_cases h3:c = z <;> simp [h1,h2,h3]
theorem neqP (a b c x y z:Int) (w:World):(binOp .neq 182 (.agg #[.int .i64 a,.int .i64 b,.int .i64 c]) (.agg #[.int .i64 x,.int .i64 y,.int .i64 z])).run Tryz.prog w = .ok (.bool (!(a == x && (b == y && c == z)))) w:=by
 rw [run_neq_struct,eqP_in]
 rfl
theorem guardP:Tryz.prog.eqGuardType Tryz.prog.depth 182 = false:=by kernel_rfl
end Go.Proofs.YtciihepbeacppaaGreat
