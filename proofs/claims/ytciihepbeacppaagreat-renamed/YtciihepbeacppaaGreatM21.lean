import Derived.Test.YtciihepbeacppaaGreatGR
import Derived.Test.YtciihepbeacppaaGreatM19
import Derived.Test.YtciihepbeacppaaGreatM12
namespace Go.Proofs.YtciihepbeacppaaGreat
open Go.RowKit
set_option linter.unusedVariables false
theorem prOf_lt {al:List Atm} (ht:TmOK al) {a:Atm} (ha:a∈al):(prOf (mrg al) a).l < 24∧(prOf (mrg al) a).r < 24:=by
 have h1:=mrg_lt ht (ht a ha).1
 have h2:=mrg_lt ht (ht a ha).2
 have e1:(prOf (mrg al) a).l = (mrg al).getD (tm a).l 0:=rfl
 have e2:(prOf (mrg al) a).r = (mrg al).getD (tm a).r 0:=rfl
 omega
theorem cf_rm {al:List Atm} (ht:TmOK al):Rm (cfOf al):=by
 intro p hp
 obtain ⟨a,ha,rfl⟩:=List.mem_map.1 hp
 exact prOf_lt ht (List.mem_filter.1 ha).1
def srchS (A A':Nat):Array Value:=(#[Value.pointer (some ⟨A,0,none⟩),Value.pointer (some ⟨A',0,none⟩)].toList ++ (List.replicate 48 (Value.int .i64 0) ++ [Value.pointer none,Value.slice none 0 0,Value.int .i64 0,Value.slice none 0 0,Value.int .i64 128])).toArray
theorem new_searchS (w:World) (A A':Nat):Sn (w.alloc (.cells (srchS A A') 202)) w.heap.size A A' 128 (List.replicate 24 (.int .i64 0)) (List.replicate 24 (.int .i64 0) ++ [.pointer none,.slice none 0 0,.int .i64 0,.slice none 0 0,.int .i64 128]) :=
 ⟨World.ownsRow_lit (base:=0) (e:=202) (size:=55) w (srchS A A') 1 (Nat.zero_le _) (by simp [maxLen]) rfl,by simp,_,_,_,_,_,rfl,by simp⟩
section
variable {w:World} {D A D' A':Nat} {s t:CF} {av ov av' ov':Value}
set_option maxRecDepth 100000 in
set_option maxHeartbeats 8000000 in
theorem within_any (h:IsD w D A s av ov) (h':IsD w D' A' t av' ov') (hT:Td s) (hT':Td t):Calls Tryz.prog 231 #[.pointer (some ⟨D,0,none⟩),.pointer (some ⟨D',0,none⟩)] w fun e w'=>e = .returned (.bool (wiB s t))∧Below w.heap.size w w':=by
 have HHR:Hid (∀ m:Nat,Calls Tryz.prog 252 #[.pointer (some ⟨D,0,none⟩),.pointer (some ⟨D',0,none⟩)] (w.drewN m) fun e w'=>e = .returned (.bool (roB s t))∧∃ j,w' = w.drewN j):=hide (fun m=>(hasRoom_any (w:=w.drewN m) (h.of_eq (fun _ _=>rfl)) (h'.of_eq (fun _ _=>rfl)) hT.ok hT'.ok).mono (fun e w' hw=>⟨hw.1,by obtain ⟨n,rfl⟩:=hw.2;exact ⟨_,World.drewN_drewN _ _ _⟩⟩))
 have HLL:Hid (∀ m:Nat,Calls Tryz.prog 253 #[.pointer (some ⟨D,0,none⟩),.pointer (some ⟨D',0,none⟩)] (w.drewN m) fun e w'=>e = .returned (.bool (lkB s t))∧∃ j,w' = w.drewN j):=hide (fun m=>(looksLike_any (w:=w.drewN m) (h.of_eq (fun _ _=>rfl)) (h'.of_eq (fun _ _=>rfl))).mono (fun e w' hw=>⟨hw.1,by obtain ⟨n,rfl⟩:=hw.2;exact ⟨_,World.drewN_drewN _ _ _⟩⟩))
 have hwi:wiB s t = (roB s t && lkB s t && (match drp s t [0,1,2,3,4] (List.replicate 24 none) with | none=>false | some an=>(fit s t an 128).1)):=rfl
 obtain ⟨R,hR⟩:∃ R,R = wiB s t:=⟨_,rfl⟩
 rw [← hR]
 rw [← hR] at hwi
 have HW:=hide hwi
 have H:=hide h
 have H':=hide h'
 have HT:=hide hT
 have HT':=hide hT'
 have f1:=h.fo
 have f2:=h'.fo
 clear h h' hT hT' hwi hR
 go_enter Tryz.func231,Tryz.ntmps231
 go_wp2_with fail
 refine (uh HHR 0).mono ?_
 rintro e w1 ⟨rfl,n1,rfl⟩
 cases hro:roB s t
 ·have HE:Hid (R = false):=hide (by rw [uh HW,hro];rfl)
  clear hro
  go_wp2_with fail
  go_ret
  exact ⟨ret_bool (uh HE).symm,bw_drewN _ _⟩
 ·go_wp2_with fail
  refine (uh HLL n1).mono ?_
  rintro e w2 ⟨rfl,n2,rfl⟩
  cases hlk:lkB s t
  ·have HE:Hid (R = false):=hide (by rw [uh HW,hro,hlk];rfl)
   clear hro hlk
   go_wp2_with fail
   go_ret
   exact ⟨ret_bool (uh HE).symm,bw_drewN _ _⟩
  ·have HE:Hid (R = (match drp s t [0,1,2,3,4] (List.replicate 24 none) with | none=>false | some an=>(fit s t an 128).1)):=hide (by rw [uh HW,hro,hlk];rfl)
   clear hro hlk
   go_wp2_with fail
   go_region
   obtain ⟨W,hW⟩:∃ W,W = w.drewN (n2 + 1):=⟨_,rfl⟩
   rw [← hW]
   have hbW:Below w.heap.size w W:=by rw [hW];exact bw_drewN w _
   have hsz:W.heap.size = w.heap.size:=by rw [hW];rfl
   have h1:=(uh H).below hbW
   have h1':=(uh H').below hbW
   have HNf:Hid (∀ k∈bsF A av ov,k≠W.heap.size):=hide (fun k hk=>by have:=h1.ff.lt k hk;omega)
   have HNt:Hid (∀ k∈bsF A' av' ov',k≠W.heap.size):=hide (fun k hk=>by have:=h1'.ff.lt k hk;omega)
   have HDn:Hid (D≠W.heap.size):=hide (by have:=h1.bk.lt;omega)
   have HBW:=hide hbW
   have HI:=hide h1
   have HI':=hide h1'
   rw [show w.heap.size = W.heap.size from hsz.symm]
   clear hW hbW hsz h1 h1' f1 f2
   go_wp2_with fail
   refine (drop_any (F:=s) (T:=t) (new_searchS W A A') ((uh HI).ff.alloc _) ((uh HI').ff.alloc _) (uh HNf) (uh HNt) (fun i _=>(uh HT').ok.get i)).mono ?_
   rintro e w4 ⟨rfl,hsq,hst⟩
   have hb4:Below W.heap.size W w4:=((Stp.refl [W.heap.size] W).alloc _).trans hst |>.below (Nat.le_refl _) (by simp)
   have HB4:=hide hb4
   have hI4:IsD w4 D A s av ov:=((uh HI).below (below_boxQ W (.cells (srchS A A') 202))).of_eq (fun k hk=>hst.blk k (Nat.lt_of_lt_of_le ((uh HI).lt k hk) (below_boxQ W _).size) (by
    rcases List.mem_cons.1 hk with rfl | hk
    ·exact uh HDn
    ·exact uh HNf k hk))
   have hF4:IsF w4 A' t av' ov':=((uh HI').ff.alloc (.cells (srchS A A') 202)).of_eq (fun k hk=>hst.blk k (((uh HI').ff.alloc _).lt k hk) (uh HNt k hk))
   have HSQ:=hide hsq
   have HI4:=hide hI4
   have HF4:=hide hF4
   clear hsq hst hb4 hI4 hF4 HI HI'
   cases hdr:drp s t [0,1,2,3,4] (List.replicate 24 none) with
   | none =>
    rw [hdr] at HE HSQ
    have HE2:Hid (R = false):=hide (uh HE)
    clear HSQ HE hdr
    go_wp2_with fail
    go_ret
    exact ⟨ret_bool (uh HE2).symm,(uh HBW).trans ((uh HB4).mono (uh HBW).size)⟩
   | some an =>
    rw [hdr] at HE
    have HE2:Hid (R = (fit s t an 128).1):=hide (uh HE)
    have f0:=(uh HI4).fo
    have c6:=(uh HI4).ff.c6
    have hSe:Se w4 W.heap.size A A' an s t av ov av' ov' 128:=⟨uh HSQ an hdr,(uh HI4).ff,uh HF4,uh HNf,uh HNt⟩
    have hol:=(uh HT).ok.owLen
    have hol':=(uh HT').ok.owLen
    have HFI:=hide (fits_any hSe (uh HI4).ff.ow (fun k hk=>uh HNf k (by simp [bsF,hk])) (by omega) (by omega) (uh HT').ok.ow (uh HT').ok.ap)
    obtain ⟨oa,oc,hov,-,-⟩:=own_slc (uh HI4).ff.ow
    subst hov
    clear hSe HSQ hdr HE
    go_wp2_with fail
    refine (uh HFI).mono ?_
    rintro e w5 ⟨rfl,v5,ov5,pv5,-,hs5,-⟩
    have HB5:Hid (Below W.heap.size W w5):=hide ⟨hs5.os.trans (uh HB4).os,hs5.tape.trans (uh HB4).tape,hs5.output.trans (uh HB4).output,Nat.le_trans (uh HB4).size hs5.size,fun k hk=>(hs5.block k (Nat.lt_of_lt_of_le hk (uh HB4).size) (by simp;omega)).trans ((uh HB4).block k hk)⟩
    clear hs5 HFI
    go_wp2_with fail
    go_ret
    exact ⟨ret_bool (by rw [uh HE2];rfl),(uh HBW).trans ((uh HB5).mono (uh HBW).size)⟩
end
theorem lay24 (w:World) (f:CF):∃ M,M = blC (rcA f)∧M.length = 24∧(w.alloc (.cells (blC (List.replicate 24 false)).toArray 240)).there w.heap.size 0 M.toArray.size∧(Tryz.prog.info? 240).map (·.size) = some M.toArray.size∧M.toArray.all (·.oneCell') = true ∧
  Ob ((w.alloc (.cells (blC (List.replicate 24 false)).toArray 240)).setCells w.heap.size 0 M) 240 24 w.heap.size (blC (rcA f))∧Below w.heap.size w ((w.alloc (.cells (blC (List.replicate 24 false)).toArray 240)).setCells w.heap.size 0 M):=by
 have hml:(blC (rcA f)).length = 24:=by simp [blC,rcA]
 have hX:=f24_ob w
 refine ⟨blC (rcA f),rfl,hml,?_,?_,?_,?_,?_⟩
 ·intro j hj
  rw [List.size_toArray,hml] at hj
  obtain ⟨⟨u,hu⟩,hz⟩:=hX.some (j:=j) hj
  rw [Nat.zero_add]
  exact ⟨by rw [hu];rfl,hz⟩
 ·rw [List.size_toArray,hml];exact Tryz.infoB24
 ·exact all_oneCell_toArray (by
   intro v hv
   obtain ⟨o,_,rfl⟩:=List.mem_map.1 hv
   rfl)
 ·have h5:=Ob.setCells (blC (rcA f)) 0 hX
  have hsl:=setL_mid (blC (rcA f)) [] (blC (List.replicate 24 false)) [] (by rw [hml];rfl)
  simp only [List.nil_append,List.append_nil,List.length_nil] at hsl
  rw [hsl] at h5
  exact h5
 ·have hB5:∀ (vs:List Value) (o:Nat) (x:World),Below w.heap.size w x→Below w.heap.size w (x.setCells w.heap.size o vs):=by
   intro vs
   induction vs with
   | nil=>intro o x h;exact h
   | cons v r ih=>intro o x h;exact ih (o + 1) _ (h.setCell (Nat.le_refl _) v)
  exact hB5 _ 0 _ (below_boxQ w _)
theorem rcA_get (f:CF) {c:Nat} (hc:c < 24):(rcA f).getD c false = decide (c∈rcL f):=by
 unfold rcA
 rw [List.getD_eq_getElem?_getD,List.getElem?_map,List.getElem?_range hc]
 rfl
theorem rcA_len (f:CF):(rcA f).length = 24:=by simp [rcA]
def loK (f:CF) (k:Nat):List Nat:=(List.range k).filter (fun i=>!decide ((owA f i).l∈rcL f))
theorem loK_step (f:CF) (k:Nat):loK f (k + 1) = loK f k ++ (if (owA f k).l∈rcL f then [] else [k]):=by
 unfold loK
 rw [List.range_succ,List.filter_append]
 congr 1
 by_cases h:(owA f k).l∈rcL f <;> simp [h]
theorem loK_len (f:CF) (k:Nat):(loK f k).length≤k:=by
 unfold loK
 exact Nat.le_trans (List.length_filter_le _ _) (by simp)
section
variable {w:World} {A:Nat} {f:CF} {av ov:Value}
set_option maxRecDepth 100000 in
set_option maxHeartbeats 8000000 in
theorem lost_any (h:IsF w A f av ov) (hO:FoOk f):Calls Tryz.prog 200 #[.pointer (some ⟨A,0,none⟩)] w fun e w'=>∃ v,e = .returned v∧w'.ownsRow w.heap.size 3 1 v (loL f).length (natV (loL f))∧Below w.heap.size w w':=by
 obtain ⟨i0,hi0,hz0,hz1,hz2⟩:=info_parts Tryz.infoInt
 have hol:=hO.owLen
 have HRE:=hide (reached_any h hO)
 have H:=hide h
 have HO:=hide hO
 clear h hO
 go_enter Tryz.func200,Tryz.ntmps200
 go_wp2_with fail
 refine (uh HRE).mono ?_
 rintro e w1 ⟨rfl,hb1⟩
 obtain ⟨M,hM,hml,hTh,hI2,hOn,hOb,hbl⟩:=lay24 w1 f
 rw [← hM]
 have HTh:=hide hTh
 have HI2:=hide hI2
 have HOn:=hide hOn
 obtain ⟨X,hXe⟩:∃ X,X = w1.heap.size:=⟨_,rfl⟩
 obtain ⟨W2,hW2⟩:∃ W2,W2 = (w1.alloc (.cells (blC (List.replicate 24 false)).toArray 240)).setCells w1.heap.size 0 M:=⟨_,rfl⟩
 rw [← hW2] at hOb hbl
 rw [← hXe] at hOb
 have hb2:=hb1.trans (hbl.mono hb1.size)
 have HOb:=hide hOb
 have HB2:=hide hb2
 have HXw:Hid (w.heap.size≤X):=hide (by rw [hXe];exact hb1.size)
 clear hTh hI2 hOn hOb hbl hb1 hb2 hM HRE
 simp only [blC,List.replicate,List.map_cons,List.map_nil] at hW2
 go_upto_region 2 with (refine wpList_store_mid rfl 240 (.tmp 3) (.tmp 7) rfl _ 0 M.toArray rfl rfl (uh HTh) (uh HI2) (uh HOn) ?_)
 rw [← hW2,← hXe]
 clear hW2 hXe HTh HI2 HOn hml
 have HR0:Hid ((W2.alloc (.cells #[] 3)).ownsRow w.heap.size 3 1 (.slice (some ⟨W2.heap.size,0,none⟩) 0 0) (loK f 0).length (natV (loK f 0))∧Below W2.heap.size W2 (W2.alloc (.cells #[] 3))):=hide ⟨own_le (World.ownsRow_lit (base:=W2.heap.size) (e:=3) (size:=1) W2 #[] 0 (Nat.le_refl _) (by simp [maxLen]) rfl) (uh HB2).size,below_boxQ W2 _⟩
 go_wp2_with fail
 go_loopg [4,5] f.ow.length (fun gn lv iv wx=>∃ (k:Nat),k + gn = f.ow.length∧iv = .int .i64 k∧Hid (wx.ownsRow w.heap.size 3 1 lv (loK f k).length (natV (loK f k))∧Below W2.heap.size W2 wx∧∀ j,lv.ownBlock = some j→W2.heap.size≤j))
 case atStart=>exact ⟨0,by omega,rfl,hide ⟨(uh HR0).1,(uh HR0).2,fun j hj=>by simp only [Value.ownBlock,Option.some.injEq] at hj;omega⟩⟩
 case round =>
  clear HR0
  obtain ⟨k,hkn,rfl,hI⟩:=hrel
  obtain ⟨G,hG⟩:∃ G,G = gk:=⟨_,rfl⟩
  obtain ⟨la,lc,hlv,-,-⟩:=own_slc (uh hI).1
  subst hlv
  have hF:=((uh H).below (uh HB2)).below (uh hI).2.1
  have hob:=(uh HOb).of_eq (w':=wr) ((uh hI).2.1.block X (World.ownsRow.lt (uh HOb) X rfl).2)
  have c6:=hF.c6
  obtain ⟨oa,oc,hov,-,-⟩:=own_slc hF.ow
  subst hov
  by_cases hlt:k < f.ow.length
  ·have hd:decide ((k:Int) < (f.ow.length:Int)) = true:=by simp;omega
   obtain ⟨go,gc,hgo,-,-⟩:=own_formP hF.ow hlt
   simp only [Value.slice.injEq,true_and] at hgo
   obtain ⟨rfl,rfl⟩:=hgo
   obtain ⟨-,y1,-⟩:=own_cells hF.ow hlt
   have hpl:=((uh HO).ow _ (mem_getD hlt)).1
   have hst:=loK_step f k
   have hoe:owA f k = f.ow.getD k pr0:=rfl
   rw [hoe] at hst
   obtain ⟨p,hp⟩:∃ p,p = f.ow.getD k pr0:=⟨_,rfl⟩
   rw [← hp] at y1 hpl hst
   have d1:=(World.ownsRow.cellAt hob p.l (by omega)).trans (blC_get (by rw [rcA_len];exact hpl))
   rw [rcA_get f hpl] at d1
   have i1:(0:Int)≤(k:Int):=by omega
   have i2:(k:Int) < (f.ow.length:Int):=by omega
   have i3:(p.l:Int) < 24:=by omega
   have hlen:=loK_len f k
   by_cases hm:p.l∈rcL f
   ·rw [show decide (p.l∈rcL f) = true by simpa using hm] at d1
    rw [if_pos hm,List.append_nil] at hst
    have HN:Hid (wr.ownsRow w.heap.size 3 1 (.slice la (loK f k).length lc) (loK f (k + 1)).length (natV (loK f (k + 1)))∧Below W2.heap.size W2 wr∧∀ j,(Value.slice la (loK f k).length lc).ownBlock = some j→W2.heap.size≤j):=hide (by rw [hst];exact uh hI)
    clear hF hob hp hst hoe hm hI
    go_wp2_with fail
    go_roundg (G - 1)
    case rel=>exact ⟨k + 1,by omega,by go_num,HN⟩
    case measure=>omega
   ·rw [show decide (p.l∈rcL f) = false by simpa using hm] at d1
    rw [if_neg hm] at hst
    have HR:=hide (uh hI).1
    have HBR:=hide (uh hI).2
    have HST:=hide hst
    have hszz:=(uh HB2).size
    have hsz2:=(uh hI).2.1.size
    obtain ⟨L,hL⟩:∃ L,L = loK f k:=⟨_,rfl⟩
    rw [← hL] at HR HBR HST hlen hI ⊢
    clear hF hob hp hst hoe hm hI hL
    go_wp2_with (at_builtin;refine wpList_app1 _ rfl (.tmp 29) (.tmp 31) 29 rfl w.heap.size 3 i0 _ 1 8 Tryz.underlying29 hi0 hz0 hz1 hz2 rfl (by decide) _ L.length (natV L) rfl ((uh HR).alloc _) ⟨_,0,none⟩ 1 [.int .i64 (k:Int)] rfl rfl (new_cells _ _ (by simp) [.int .i64 (k:Int)] _) (by intro u hu;simp only [List.mem_singleton] at hu;subst hu;rfl) (by omega) (by omega) (by simp;omega) ?_)
    intro g4 cap4 w4 hown4 hgrow4 hblk4
    have HN:Hid (w4.ownsRow w.heap.size 3 1 (.slice (some ⟨g4,0,none⟩) (L.length + 1) cap4) (loK f (k + 1)).length (natV (loK f (k + 1)))∧Below W2.heap.size W2 w4∧∀ j,(Value.slice (some ⟨g4,0,none⟩) (L.length + 1) cap4).ownBlock = some j→W2.heap.size≤j):=hide ⟨by
     rw [uh HST,List.length_append,List.length_singleton]
     show w4.ownsRow _ _ _ _ _ (List.map _ (L ++ [k]))
     rw [List.map_append]
     exact hown4,by
     have hb:=(uh HBR).1.alloc (uh HBR).1.size (.cells #[.int .i64 (k:Int)] 3)
     exact hb.grown hgrow4 hb.size (fun q hq=>(uh HBR).2 q hq),fun j hj=>by
     have e:j = g4:=by simpa [Value.ownBlock,eq_comm] using hj
     subst e
     rcases hblk4 with q | q
     ·exact (uh HBR).2 j q.symm
     ·omega⟩
    clear hown4 hgrow4 hblk4 HR HBR
    go_wp2_with fail
    go_roundg (G - 1)
    case rel=>exact ⟨k + 1,by omega,by go_num,HN⟩
    case measure=>omega
  ·have hd:decide ((k:Int) < (f.ow.length:Int)) = false:=by simp;omega
   have hke:loK f k = loL f:=by unfold loK loL;rw [show k = f.ow.length by omega]
   rw [hke] at hI ⊢
   clear hke hF hob
   go_wp2_with fail
   go_ret
   exact ⟨_,rfl,(uh hI).1,(uh HB2).trans ((uh hI).2.1.mono (uh HB2).size)⟩
end
section
variable {w:World} {A:Nat} {f:CF} {av ov:Value}
set_option maxRecDepth 100000 in
set_option maxHeartbeats 8000000 in
theorem without_f (h:IsF w A f av ov) (hO:FoOk f) (ha:f.ap.length≤40000):Calls Tryz.prog 233 #[.pointer (some ⟨A,0,none⟩)] w fun e w'=>∃ A',e = .returned (.pointer (some ⟨A',0,none⟩))∧NewF w (wiO f) A' w':=by
 have hol:=hO.owLen
 have HRE:=hide (reached_any h hO)
 have H:=hide h
 have HO:=hide hO
 clear h hO
 go_enter Tryz.func233,Tryz.ntmps233
 go_wp2_with fail
 refine (uh HRE).mono ?_
 rintro e w1 ⟨rfl,hb1⟩
 obtain ⟨M,hM,hml,hTh,hI2,hOn,hOb,hbl⟩:=lay24 w1 f
 rw [← hM]
 have HTh:=hide hTh
 have HI2:=hide hI2
 have HOn:=hide hOn
 obtain ⟨X,hXe⟩:∃ X,X = w1.heap.size:=⟨_,rfl⟩
 obtain ⟨W2,hW2⟩:∃ W2,W2 = (w1.alloc (.cells (blC (List.replicate 24 false)).toArray 240)).setCells w1.heap.size 0 M:=⟨_,rfl⟩
 rw [← hW2] at hOb hbl
 rw [← hXe] at hOb
 have hb2:=hb1.trans (hbl.mono hb1.size)
 have HOb:=hide hOb
 have HB2:=hide hb2
 have hF2:=(uh H).below hb2
 have HCP:=hide (copy_any hF2 (uh HO).c5 ha (Nat.le_trans hol (by omega)))
 have HF2:=hide hF2
 clear hTh hI2 hOn hOb hbl hb1 hb2 hM HRE hF2
 simp only [blC,List.replicate,List.map_cons,List.map_nil] at hW2
 go_upto_region 2 with (refine wpList_store_mid rfl 240 (.tmp 3) (.tmp 8) rfl _ 0 M.toArray rfl rfl (uh HTh) (uh HI2) (uh HOn) ?_)
 rw [← hW2,← hXe]
 clear hW2 hXe HTh HI2 HOn hml
 go_wp2_with fail
 refine (uh HCP).mono ?_
 rintro e w3 ⟨A3,rfl,hN3⟩
 obtain ⟨av3,ov3,hf3⟩:=hN3.frf
 -- its owners are dropped
 have hbx:=below_boxQ w3 (.cells #[] 182)
 have hrow0:=World.ownsRow_lit (base:=w3.heap.size) (e:=182) (size:=3) w3 #[] 0 (Nat.le_refl _) (by simp [maxLen]) rfl
 have hs0:Stp ov3.ownBlock.toList w3 (Value.slice (some ⟨w3.heap.size,0,none⟩) 0 0).ownBlock.toList (w3.alloc (.cells #[] 182)):=(Stp.ofBw (F:=ov3.ownBlock.toList) hbx).foots (fun j hj=>Or.inr (hrow0.lt j (by simpa using hj)).1)
 obtain ⟨hF4,hS4⟩:=hf3.fm.newOv (ow':=[]) hs0 (v':=.slice (some ⟨w3.heap.size,0,none⟩) 0 0) (fun j hj=>by simpa using hj) (own_le hrow0 (Nat.zero_le _))
 obtain ⟨W4,hW4⟩:∃ W4,W4 = (w3.alloc (.cells #[] 182)).setCell ⟨A3,6,none⟩ (.slice (some ⟨w3.heap.size,0,none⟩) 0 0):=⟨_,rfl⟩
 rw [← hW4] at hF4 hS4
 have hf4:=hf3.step (x':=⟨A3,{ f with ow:=[] },av3,.slice (some ⟨w3.heap.size,0,none⟩) 0 0⟩) hF4 hS4
 have e6:=(hf3.fm.below hbx).is.c6
 have z6:=World.ownsRow.frozenAt (hf3.fm.below hbx).is.ob 6
 obtain ⟨sv,hsv⟩:∃ sv,sv = Value.slice (some ⟨w3.heap.size,0,none⟩) 0 0:=⟨_,rfl⟩
 rw [← hsv] at hf4
 have HI0:Hid (FrF W2 W4 ⟨A3,{ f with ow:=(f.ow.take 0).filter (fun p=>decide (p.l∈rcL f)) },av3,sv⟩):=hide hf4
 have c6:=((uh HF2).below hf4.bw).c6
 obtain ⟨oa,oc,hov,-,-⟩:=own_slc (uh HF2).ow
 subst hov
 clear hN3 hf3 hbx hrow0 hs0 hF4 hS4 hf4 hsv HCP
 go_upto_region 4 with fail
 rw [← hW4]
 clear hW4 e6 z6
 go_wp2_with fail
 go_loopg [20] f.ow.length (fun gn iv wx=>∃ (m:Nat) (ow5:Value),m + gn = f.ow.length∧iv = .int .i64 m∧Hid (FrF W2 wx ⟨A3,{ f with ow:=(f.ow.take m).filter (fun p=>decide (p.l∈rcL f)) },av3,ow5⟩))
 case atStart=>exact ⟨0,sv,by omega,rfl,HI0⟩
 case round =>
  clear HI0 c6
  obtain ⟨m,ow5,hmn,rfl,hI⟩:=hrel
  obtain ⟨G,hG⟩:∃ G,G = gk:=⟨_,rfl⟩
  have hF:=(uh HF2).below (uh hI).bw
  have hfl:((f.ow.take m).filter (fun p=>decide (p.l∈rcL f))).length≤24:=Nat.le_trans (List.length_filter_le _ _) (by rw [List.length_take];omega)
  by_cases hlt:m < f.ow.length
  ·have hd:decide ((m:Int) < (f.ow.length:Int)) = true:=by simp;omega
   obtain ⟨go,gc,hgo,-,-⟩:=own_formP hF.ow hlt
   simp only [Value.slice.injEq,true_and] at hgo
   obtain ⟨rfl,rfl⟩:=hgo
   obtain ⟨y0,y1,y2⟩:=own_cells hF.ow hlt
   have hpl:=((uh HO).ow _ (mem_getD hlt)).1
   have hst:=filt_step (P:=fun p=>decide (p.l∈rcL f)) hlt
   obtain ⟨p,hp⟩:∃ p,p = f.ow.getD m pr0:=⟨_,rfl⟩
   rw [← hp] at y0 y1 y2 hpl hst
   obtain ⟨W5,hW5⟩:∃ W5,W5 = wr.alloc (.cells #[Value.int .i64 p.k,.int .i64 p.l,.int .i64 p.r] 182):=⟨_,rfl⟩
   have hbx:Below wr.heap.size wr W5:=by rw [hW5];exact below_boxQ wr _
   have hXb:Bk W5 wr.heap.size 182 [Value.int .i64 p.k,.int .i64 p.l,.int .i64 p.r]:=by rw [hW5];exact Bk.new wr _ _
   obtain ⟨Y,hYe⟩:∃ Y,Y = wr.heap.size:=⟨_,rfl⟩
   rw [← hYe] at hXb
   have b0:=hXb.cell 0 rfl
   have b1:=hXb.cell 1 rfl
   have b2:=hXb.cell 2 rfl
   have hI5:=(uh hI).below hbx
   have hob:=(uh HOb).of_eq (w':=W5) (hI5.bw.block X (World.ownsRow.lt (uh HOb) X rfl).2)
   have d1:=(World.ownsRow.cellAt hob p.l (by omega)).trans (blC_get (by rw [rcA_len];exact hpl))
   rw [rcA_get f hpl] at d1
   have i1:(0:Int)≤(m:Int):=by omega
   have i2:(m:Int) < (f.ow.length:Int):=by omega
   have i3:(p.l:Int) < 24:=by omega
   have H5:=hide hI5
   by_cases hm:p.l∈rcL f
   ·rw [show decide (p.l∈rcL f) = true by simpa using hm] at d1 hst
    have HLY:=hide (lay_any hI5.fm p.k p.l p.r (Nat.le_trans hfl (by omega)))
    have HST:=hide hst
    clear hF hp hst hbx hXb hI5 hob hm hI hfl
    go_upto_region 7 with fail
    rw [← hW5,← hYe]
    clear hW5 hYe
    go_wp2_with fail
    refine (uh HLY).mono ?_
    rintro e w6 ⟨rfl,ov6,hF6,hS6⟩
    have HN:Hid (FrF W2 w6 ⟨A3,{ f with ow:=(f.ow.take (m + 1)).filter (fun p=>decide (p.l∈rcL f)) },av3,ov6⟩):=hide ((uh H5).step (by rw [uh HST];exact hF6) hS6)
    clear hF6 hS6 HLY H5
    go_wp2_with fail
    go_roundg (G - 1)
    case rel=>exact ⟨m + 1,ov6,by omega,by go_num,HN⟩
    case measure=>omega
   ·rw [show decide (p.l∈rcL f) = false by simpa using hm] at d1 hst
    have HN:Hid (FrF W2 W5 ⟨A3,{ f with ow:=(f.ow.take (m + 1)).filter (fun p=>decide (p.l∈rcL f)) },av3,ow5⟩):=hide (by rw [hst];simpa using hI5)
    clear hF hp hst hbx hXb hI5 hob hm hI hfl H5
    go_upto_region 7 with fail
    rw [← hW5,← hYe]
    clear hW5 hYe
    go_wp2_with fail
    go_roundg (G - 1)
    case rel=>exact ⟨m + 1,ow5,by omega,by go_num,HN⟩
    case measure=>omega
  ·have hd:decide ((m:Int) < (f.ow.length:Int)) = false:=by simp;omega
   have hte:f.ow.take m = f.ow:=List.take_of_length_le (by omega)
   rw [hte] at hI hfl
   have hOg:FoOk { f with ow:=f.ow.filter (fun p=>decide (p.l∈rcL f)) }:=FoOk.mk' (uh HO).c5 (uh HO).cl' (fun p hp=>(uh HO).ow p (List.mem_filter.1 hp).1) (uh HO).ap ((uh HO).lf.sublist (List.filter_sublist.map _)) (uh HO).kd
   have HTD:=hide (tidy_any (uh hI).fm hOg (Nat.le_trans ha (by omega)))
   clear hte hOg hF hfl
   go_wp2_with fail
   refine (uh HTD).mono ?_
   rintro e w7 ⟨rfl,av7,ov7,hF7,hS7⟩
   have hf7:=(uh hI).step (x':=⟨A3,wiO f,av7,ov7⟩) hF7 hS7
   have HN:Hid (NewF w (wiO f) A3 w7):=hide ⟨av7,ov7,hf7.fm,fun k hk=>Nat.le_trans (uh HB2).size (hf7.ge k hk),(uh HB2).trans (hf7.bw.mono (uh HB2).size)⟩
   clear hF7 hS7 hf7 HTD
   go_wp2_with fail
   go_ret
   exact ⟨A3,rfl,uh HN⟩
end
section
variable {w:World} {A:Nat} {f:CF} {av ov:Value} {B:Nat} {v:Value} {L:List FE}
set_option maxRecDepth 100000 in
set_option maxHeartbeats 8000000 in
theorem isNew_any (h:IsF w A f av ov) (hf:Td f) (hL:Fl w B v L) (hT:∀ x∈L,Td x.f):Calls Tryz.prog 256 #[v,.pointer (some ⟨A,0,none⟩)] w fun e w'=>e = .returned (.bool (neB (L.map (·.f)) f))∧Below w.heap.size w w':=by
 obtain ⟨R,hR⟩:∃ R,R = neB (L.map (·.f)) f:=⟨_,rfl⟩
 rw [← hR]
 have HR:=hide hR
 obtain ⟨la,lc,hlv,hl1,hl2⟩:=own_slc hL.row
 subst hlv
 have H:=hide h
 have HL:=hide hL
 have HTf:=hide hf
 have HT:=hide hT
 have HI0:Hid (Below w.heap.size w w∧∀ i,i < 0→∀ x,L[i]? = some x→saB f x.f = false):=hide ⟨Below.refl _ _,fun i hi=>by omega⟩
 clear h hf hL hT hR
 go_enter Tryz.func256,Tryz.ntmps256
 go_wp2_with fail
 go_loopg [9] L.length (fun gn iv wx=>∃ (k:Nat),k + gn = L.length∧iv = .int .i64 k∧Hid (Below w.heap.size w wx∧∀ i,i < k→∀ x,L[i]? = some x→saB f x.f = false))
 case atStart=>exact ⟨0,by omega,rfl,HI0⟩
 case round =>
  clear HI0
  obtain ⟨k,hkn,rfl,hI⟩:=hrel
  obtain ⟨G,hG⟩:∃ G,G = gk:=⟨_,rfl⟩
  by_cases hlt:k < L.length
  ·have hd:decide ((k:Int) < (L.length:Int)) = true:=by simp;omega
   have hL2:=(uh HL).below (uh hI).1
   obtain ⟨g2,cap2,hgv2,hcell⟩:=hL2.pend.cell hlt
   simp only [Value.slice.injEq,true_and] at hgv2
   obtain ⟨rfl,rfl⟩:=hgv2
   have hx:=hL2.fm _ (List.getElem_mem hlt)
   have htx:=uh HT _ (List.getElem_mem hlt)
   have hg:L[k]? = some L[k]:=List.getElem?_eq_getElem hlt
   obtain ⟨x,hxe⟩:∃ x,x = L[k]:=⟨_,rfl⟩
   rw [← hxe] at hcell hx htx hg
   have hxp:x.p = .pointer (some ⟨x.A,0,none⟩):=rfl
   rw [hxp] at hcell
   have HSA:=hide (same_any ((uh H).below (uh hI).1) hx.is (Nat.le_trans (uh HTf).ln (by omega)) (Nat.le_trans (uh HTf).ok.owLen (by omega)) (Nat.le_trans htx.ln (by omega)) (Nat.le_trans htx.ok.owLen (by omega)))
   have HG:=hide hg
   have i1:(0:Int)≤(k:Int):=by omega
   have i2:(k:Int) < (L.length:Int):=by omega
   clear hL2 hx htx hg hxe hxp
   go_wp2_with fail
   refine (uh HSA).mono ?_
   rintro e w3 ⟨rfl,hb3⟩
   have HB3:=hide ((uh hI).1.trans (hb3.mono (uh hI).1.size))
   clear hb3 HSA
   cases hsa:saB f x.f
   ·go_wp2_with fail
    go_roundg (G - 1)
    case rel=>exact ⟨k + 1,by omega,by go_num,hide ⟨uh HB3,fun i hi y hy=>by
     by_cases e:i = k
     ·rw [e,uh HG] at hy
      injection hy with hy
      rw [← hy];exact hsa
     ·exact (uh hI).2 i (by omega) y hy⟩⟩
    case measure=>omega
   ·have HE:Hid (R = false):=hide (by
     rw [uh HR]
     unfold neB
     have:(L.map (·.f)).any (fun g=>saB f g) = true:=by
      rw [List.any_eq_true]
      exact ⟨x.f,List.mem_map_of_mem (List.mem_of_getElem? (uh HG)),hsa⟩
     rw [this];rfl)
    clear hsa
    go_wp2_with fail
    go_ret
    exact ⟨ret_bool (uh HE).symm,uh HB3⟩
  ·have hd:decide ((k:Int) < (L.length:Int)) = false:=by simp;omega
   have HE:Hid (R = true):=hide (by
    rw [uh HR]
    unfold neB
    have:(L.map (·.f)).any (fun g=>saB f g) = false:=by
     rw [List.any_eq_false]
     intro g hg
     obtain ⟨x,hx,rfl⟩:=List.mem_map.1 hg
     obtain ⟨i,hi,rfl⟩:=List.mem_iff_getElem.1 hx
     rw [(uh hI).2 i (by omega) _ (List.getElem?_eq_getElem hi)]
     simp
    rw [this];rfl)
   go_wp2_with fail
   go_ret
   exact ⟨ret_bool (uh HE).symm,(uh hI).1⟩
end
def shC (c0 hv:Value) (lp:Bool) (kv wv:Value) (bd:Bool) (lf lo:Int) (fu:Bool):List Value:=[c0,hv,.bool lp,kv,wv,.bool bd,.int .i64 lf,.int .i64 lo,.bool fu]
section
variable {w:World} {S:Nat} {c0 hv kv wv:Value} {lp bd fu:Bool} {lf lo:Int}
set_option maxRecDepth 100000 in
set_option maxHeartbeats 2000000 in
theorem spend_any (h:Bk w S 229 (shC c0 hv lp kv wv bd lf lo fu)):Calls Tryz.prog 232 #[.pointer (some ⟨S,0,none⟩)] w fun e w'=>e = .returned (.tuple #[])∧Bk w' S 229 (shC c0 hv lp kv wv bd (wrap64 (lf - 1)) lo (fu || (decide (wrap64 (lf - 1) < 0) && bd)))∧Stp [S] w [S] w':=by
 have c6:=h.cell 6 rfl
 have z6:=h.frz 6
 have hq:IntKind.i64.wrap (lf - 1) = wrap64 (lf - 1):=by rw [IntKind.wrap_i64,wrap64]
 obtain ⟨l',hl'⟩:∃ l',l' = wrap64 (lf - 1):=⟨_,rfl⟩
 rw [← hl'] at hq ⊢
 have h2:=h.set 6 (.int .i64 l')
 have d6:=h2.cell 6 rfl
 have d5:=h2.cell 5 rfl
 have d8:=h2.cell 8 rfl
 have z8:=h2.frz 8
 have hs2:Stp [S] w [S] (w.setCell ⟨S,6,none⟩ (.int .i64 l')):=(Stp.refl _ _).setCell (p:=⟨S,6,none⟩) (Or.inl (by simp)) _
 have hs3:Stp [S] w [S] ((w.setCell ⟨S,6,none⟩ (.int .i64 l')).setCell ⟨S,8,none⟩ (.bool true)):=hs2.setCell (p:=⟨S,8,none⟩) (Or.inl (by simp)) _
 have H2:=hide h2
 have H3:=hide (h2.set 8 (.bool true))
 have HS2:=hide hs2
 have HS3:=hide hs3
 clear h h2 hs2 hs3 hl'
 by_cases hn:l' < 0
 ·have d0:decide (l' < (0:Int)) = true:=by simpa using hn
  cases bd
  ·have HE:Hid ((fu || (decide (l' < 0) && false)) = fu):=hide (by simp)
   clear hn
   go_enter Tryz.func232,Tryz.ntmps232
   go_wp2_with fail
   go_end0
   exact ⟨rfl,by rw [uh HE];exact uh H2,uh HS2⟩
  ·have HE:Hid ((fu || (decide (l' < 0) && true)) = true):=hide (by simp [hn])
   clear hn
   go_enter Tryz.func232,Tryz.ntmps232
   go_wp2_with fail
   go_end0
   exact ⟨rfl,by rw [uh HE];exact uh H3,uh HS3⟩
 ·have d0:decide (l' < (0:Int)) = false:=by simpa using hn
  have HE:Hid ((fu || (decide (l' < 0) && bd)) = fu):=hide (by rw [d0];simp)
  clear hn
  go_enter Tryz.func232,Tryz.ntmps232
  go_wp2_with fail
  go_end0
  exact ⟨rfl,by rw [uh HE];exact uh H2,uh HS2⟩
set_option maxRecDepth 100000 in
set_option maxHeartbeats 2000000 in
theorem look_any (h:Bk w S 229 (shC c0 hv lp kv wv bd lf lo fu)) (n:Nat):Calls Tryz.prog 230 #[.pointer (some ⟨S,0,none⟩),.int .i64 n] w fun e w'=>e = .returned (.tuple #[])∧Bk w' S 229 (shC c0 hv lp kv wv bd lf (wrap64 (lo - n)) (fu || (decide (wrap64 (lo - n) < 0) && bd)))∧Stp [S] w [S] w':=by
 have c6:=h.cell 7 rfl
 have z6:=h.frz 7
 have hq:IntKind.i64.wrap (lo - (n:Int)) = wrap64 (lo - n):=by rw [IntKind.wrap_i64,wrap64]
 obtain ⟨l',hl'⟩:∃ l',l' = wrap64 (lo - n):=⟨_,rfl⟩
 rw [← hl'] at hq ⊢
 have h2:=h.set 7 (.int .i64 l')
 have d6:=h2.cell 7 rfl
 have d5:=h2.cell 5 rfl
 have d8:=h2.cell 8 rfl
 have z8:=h2.frz 8
 have hs2:Stp [S] w [S] (w.setCell ⟨S,7,none⟩ (.int .i64 l')):=(Stp.refl _ _).setCell (p:=⟨S,7,none⟩) (Or.inl (by simp)) _
 have hs3:Stp [S] w [S] ((w.setCell ⟨S,7,none⟩ (.int .i64 l')).setCell ⟨S,8,none⟩ (.bool true)):=hs2.setCell (p:=⟨S,8,none⟩) (Or.inl (by simp)) _
 have H2:=hide h2
 have H3:=hide (h2.set 8 (.bool true))
 have HS2:=hide hs2
 have HS3:=hide hs3
 clear h h2 hs2 hs3 hl'
 by_cases hn:l' < 0
 ·have d0:decide (l' < (0:Int)) = true:=by simpa using hn
  cases bd
  ·have HE:Hid ((fu || (decide (l' < 0) && false)) = fu):=hide (by simp)
   clear hn
   go_enter Tryz.func230,Tryz.ntmps230
   go_wp2_with fail
   go_end0
   exact ⟨rfl,by rw [uh HE];exact uh H2,uh HS2⟩
  ·have HE:Hid ((fu || (decide (l' < 0) && true)) = true):=hide (by simp [hn])
   clear hn
   go_enter Tryz.func230,Tryz.ntmps230
   go_wp2_with fail
   go_end0
   exact ⟨rfl,by rw [uh HE];exact uh H3,uh HS3⟩
 ·have d0:decide (l' < (0:Int)) = false:=by simpa using hn
  have HE:Hid ((fu || (decide (l' < 0) && bd)) = fu):=hide (by rw [d0];simp)
  clear hn
  go_enter Tryz.func230,Tryz.ntmps230
  go_wp2_with fail
  go_end0
  exact ⟨rfl,by rw [uh HE];exact uh H2,uh HS2⟩
end
theorem fnG_mono {c:Cd} {r:List CF × Sr} {g:CF} (h:(fnG c r g).2.ok = true):r.2.ok = true∧(neB r.1 (tdF g) = true→r.1.length≤bigC):=by
 unfold fnG at h
 split at h
 ·have h1:(r.2.ok && decide (r.1.length≤bigC)) = true:=h
  rw [Bool.and_eq_true,decide_eq_true_eq] at h1
  exact ⟨h1.1,fun _=>h1.2⟩
 ·rename_i hn
  exact ⟨h,fun e=>absurd e hn⟩
theorem fold_mono {β:Type} (g:List CF × Sr→β→List CF × Sr) (hg:∀ r b,(g r b).2.ok = true→r.2.ok = true):∀ (l:List β) {r:List CF × Sr},(l.foldl g r).2.ok = true→r.2.ok = true
 | [],_,h=>h
 | b :: l,r,h=>hg r b (fold_mono g hg l h)
theorem fnS_mono {c:Cd} {f:CF} {i:Nat} (r:List CF × Sr) (a:Nat) (h:(fnS c f i r a).2.ok = true):r.2.ok = true:=by
 unfold fnS at h
 split at h
 ·exact fold_mono (fnG c) (fun r b h=>(fnG_mono h).1) _ h
 ·exact h
structure Fn (w W:World) (B:Nat) (F0:List Nat) (S:Nat) (cs:List Value) (X:Nat) (f:CF) (v:Value) (L:List FE):Prop where
 fl:Fl W B v L
 bs:Bk W S 229 cs
 xb:Ob W 240 24 X (blC (rcA f))
 ns:∀ k∈flF v L,k≠S∧k≠X
 sx:S≠X
 st:Stp F0 w (S :: flF v L) W
 s0:S∈F0
 bb:B≤W.heap.size
section
variable {w W W':World} {B S X:Nat} {F0:List Nat} {cs cs':List Value} {f:CF} {v:Value} {L:List FE}
theorem Fn.xl (h:Fn w W B F0 S cs X f v L):X < W.heap.size:=(World.ownsRow.lt h.xb X rfl).2
theorem Fn.below (h:Fn w W B F0 S cs X f v L) (hb:Below W.heap.size W W'):Fn w W' B F0 S cs X f v L :=
 ⟨h.fl.below hb,h.bs.below hb,h.xb.of_eq (hb.block X h.xl),h.ns,h.sx,⟨hb.os.trans h.st.os,hb.tape.trans h.st.tape,hb.output.trans h.st.output,Nat.le_trans h.st.size hb.size,fun k hk hn=>(hb.block k (Nat.lt_of_lt_of_le hk h.st.size)).trans (h.st.block k hk hn),h.st.foot⟩,h.s0,Nat.le_trans h.bb hb.size⟩
theorem Fn.spend (h:Fn w W B F0 S cs X f v L) (hb:Bk W' S 229 cs') (hs:Stp [S] W [S] W'):Fn w W' B F0 S cs' X f v L:=by
 refine ⟨h.fl.stp hs (fun k hk hn=>(h.ns k hk).1 (by simpa using hn)),hb,h.xb.of_eq (hs.block X h.xl (by simpa using fun e=>h.sx e.symm)),h.ns,h.sx,⟨hs.os.trans h.st.os,hs.tape.trans h.st.tape,hs.output.trans h.st.output,Nat.le_trans h.st.size hs.size,fun k hk hn=>(hs.block k (Nat.lt_of_lt_of_le hk h.st.size) (fun e=>hn (by rw [List.mem_singleton] at e;rw [e];exact h.s0))).trans (h.st.block k hk hn),h.st.foot⟩,h.s0,Nat.le_trans h.bb hs.size⟩
theorem Fn.side {F F':List Nat} (h:Fn w W B F0 S cs X f v L) (hs:Stp F W F' W') (hd:∀ k∈F,k ∉ flF v L∧k≠S∧k≠X∧w.heap.size≤k):Fn w W' B F0 S cs X f v L :=
 ⟨h.fl.stp hs (fun k hk hn=>(hd k hn).1 hk),h.bs.stp hs (fun hn=>(hd S hn).2.1 rfl),h.xb.of_eq (hs.block X h.xl (fun hn=>(hd X hn).2.2.1 rfl)),h.ns,h.sx,⟨hs.os.trans h.st.os,hs.tape.trans h.st.tape,hs.output.trans h.st.output,Nat.le_trans h.st.size hs.size,fun k hk hn=>(hs.block k (Nat.lt_of_lt_of_le hk h.st.size) (fun e=>by have:=(hd k e).2.2.2;omega)).trans (h.st.block k hk hn),h.st.foot⟩,h.s0,Nat.le_trans h.bb hs.size⟩
theorem Fn.app {g1 c1:Nat} {o:Obj} {x:FE} {W1:World} (h:Fn w W B F0 S cs X f v L) (hx:Fm W x.A x.f x.av x.ov) (hd:∀ k∈x.bs,k ∉ flF v L∧k≠S∧k≠X∧w.heap.size≤k∧B≤k)
  (hown:W1.ownsRow B 126 1 (.slice (some ⟨g1,0,none⟩) (L.length + 1) c1) (L.length + 1) (L.map FE.p ++ [x.p])) (hg:(W.alloc o).grownBy W1 v.ownBlock) (hblk:some g1 = v.ownBlock∨g1 = (W.alloc o).heap.size) :
  Fn w W1 B F0 S cs X f (.slice (some ⟨g1,0,none⟩) (L.length + 1) c1) (L ++ [x]):=by
 obtain ⟨a1,a2,a3⟩:=h.fl.app hx (fun k hk=>(hd k hk).2.2.2.2) (fun k hk=>(hd k hk).1) h.bb hown hg hblk
 have hv:∀ k∈v.ownBlock.toList,k∈flF v L:=fun k hk=>List.mem_append_left _ hk
 refine ⟨a1,h.bs.stp a2 (fun hn=>(h.ns S (hv S hn)).1 rfl),h.xb.of_eq (a2.block X h.xl (fun hn=>(h.ns X (hv X hn)).2 rfl)),fun k hk=>?_,h.sx,?_,h.s0,Nat.le_trans h.bb a2.size⟩
 ·rcases a3 k hk with q | q | q
  ·exact h.ns k q
  ·exact ⟨(hd k q).2.1,(hd k q).2.2.1⟩
  ·exact ⟨fun e=>by have:=h.bs.lt;omega,fun e=>by have:=h.xl;omega⟩
 ·have h2:=h.st
  refine ⟨a2.os.trans h2.os,a2.tape.trans h2.tape,a2.output.trans h2.output,Nat.le_trans h2.size a2.size,fun k hk hn=>?_,fun k hk=>?_⟩
  ·rw [a2.block k (Nat.lt_of_lt_of_le hk h2.size) (fun hm=>?_)]
   ·exact h2.block k hk hn
   ·rcases h2.foot k (List.mem_cons_of_mem _ (hv k hm)) with q | q
    ·exact hn q
    ·omega
  ·rcases List.mem_cons.1 hk with rfl | hk
   ·exact h2.foot k (by simp)
   ·rcases a3 k hk with q | q | q
    ·exact h2.foot k (List.mem_cons_of_mem _ q)
    ·exact Or.inr (hd k q).2.2.2.1
    ·exact Or.inr (Nat.le_trans h2.size q)
end
theorem meF_ap {f g:CF} {a i:Nat} (h:g∈meF f a i):g.ap.length = f.ap.length:=by
 unfold meF at h
 rcases List.mem_append.1 h with h | h
 ·split at h
  ·simp at h
  ·rw [List.mem_singleton] at h;subst h
   show (f.ap.map _).length = _
   rw [List.length_map]
 ·split at h
  ·rw [List.mem_singleton] at h;subst h;rfl
  ·simp at h
section
variable {w:World} {B S:Nat} {v:Value} {L:List FE} {c0 hv kv wv:Value} {lp:Bool} {lo:Int} {x:FE} {c:Cd} {s:Sr}
set_option maxRecDepth 100000 in
set_option maxHeartbeats 8000000 in
theorem found_any (hS:Bk w S 229 (shC c0 hv lp kv wv c.bd s.lf lo s.fu)) (hL:Fl w B v L) (hT:∀ y∈L,Td y.f) (hx:x∈L) (hSL:S ∉ flF v L) (hB:B≤w.heap.size) {i:Nat} (hi:i < x.f.ow.length) (hok:(fndF c x.f (L.map (·.f),s) i).2.ok = true) :
  Calls Tryz.prog 234 #[.pointer (some ⟨S,0,none⟩),v,.pointer (some ⟨x.A,0,none⟩),.int .i64 i] w fun e w'=>∃ v' L',e = .returned v'∧Fl w' B v' (L ++ L')∧(∀ y∈L',Td y.f)∧(L ++ L').map (·.f) = (fndF c x.f (L.map (·.f),s) i).1∧Bk w' S 229 (shC c0 hv lp kv wv c.bd (fndF c x.f (L.map (·.f),s) i).2.lf lo (fndF c x.f (L.map (·.f),s) i).2.fu)∧S ∉ flF v' (L ++ L')∧Stp (S :: flF v L) w (S :: flF v' (L ++ L')) w':=by
 obtain ⟨i0,hi0,hz0,hz1,hz2⟩:=info_parts Tryz.infoPF
 obtain ⟨R,hR⟩:∃ R,R = fndF c x.f (L.map (·.f),s) i:=⟨_,rfl⟩
 rw [← hR] at hok ⊢
 have hxF:=hL.fm x hx
 have hxT:=hT x hx
 have hol:=hxT.ok.owLen
 have HRE:=hide (reached_any hxF.is hxT.ok)
 obtain ⟨va,vc,hlv,-,-⟩:=own_slc hL.row
 subst hlv
 have HL:=hide hL
 have HS:=hide hS
 have HX:=hide hx
 have HXT:=hide hxT
 have HT:=hide hT
 have HSL:=hide hSL
 have HOK:=hide hok
 have HRR:=hide hR
 have HXP:Hid (∀ (W:World) (vv:Value) (E:List FE),Fl W B vv (L ++ E)→Fm W x.A x.f x.av x.ov):=hide (fun W vv E hf=>hf.fm x (List.mem_append_left _ hx))
 obtain ⟨xa,xf,xav,xov⟩:=x
 simp only at hi HRE HXT HXP hol hR HRR ⊢
 clear hL hS hx hxF hxT hT hSL hok hR
 go_enter Tryz.func234,Tryz.ntmps234
 go_wp2_with fail
 refine (uh HRE).mono ?_
 rintro e w1 ⟨rfl,hb1⟩
 obtain ⟨M,hM,hml,hTh,hI2,hOn,hOb,hbl⟩:=lay24 w1 xf
 rw [← hM]
 have HTh:=hide hTh
 have HI2:=hide hI2
 have HOn:=hide hOn
 obtain ⟨X,hXe⟩:∃ X,X = w1.heap.size:=⟨_,rfl⟩
 obtain ⟨W2,hW2⟩:∃ W2,W2 = (w1.alloc (.cells (blC (List.replicate 24 false)).toArray 240)).setCells w1.heap.size 0 M:=⟨_,rfl⟩
 rw [← hW2] at hOb hbl
 rw [← hXe] at hOb
 have hb2:=hb1.trans (hbl.mono hb1.size)
 have hFn:Fn w W2 B (S :: flF (.slice va L.length vc) L) S (shC c0 hv lp kv wv c.bd s.lf lo s.fu) X xf (.slice va L.length vc) (L ++ []):=by
  rw [List.append_nil]
  have h1:=uh HL
  have h2:=uh HS
  refine ⟨h1.below hb2,h2.below hb2,hOb,fun k hk=>⟨fun e=>uh HSL (by rw [← e];exact hk),fun e=>?_⟩,fun e=>?_,(Stp.ofBw hb2),by simp,Nat.le_trans hB hb2.size⟩
  ·have:=h1.lt k hk;have:=hb1.size;omega
  ·have:=h2.lt;have:=hb1.size;omega
 have HI0:Hid (Fn w W2 B (S :: flF (.slice va L.length vc) L) S (shC c0 hv lp kv wv c.bd s.lf lo s.fu) X xf (.slice va L.length vc) (L ++ [])∧w.heap.size≤X):=hide ⟨hFn,by rw [hXe];exact hb1.size⟩
 clear hTh hI2 hOn hOb hbl hb1 hb2 hM HRE hFn
 simp only [blC,List.replicate,List.map_cons,List.map_nil] at hW2
 go_upto_region 2 with (refine wpList_store_mid rfl 240 (.tmp 9) (.tmp 14) rfl _ 0 M.toArray rfl rfl (uh HTh) (uh HI2) (uh HOn) ?_)
 rw [← hW2,← hXe]
 clear hW2 hXe HTh HI2 HOn hml
 go_wp2_with fail
 go_loopg [1,10] 24 (fun gn cv iv wx=>∃ (k:Nat) (E:List FE) (s':Sr),k + gn = 24∧iv = .int .i64 k∧Hid (Fn w wx B (S :: flF (.slice va L.length vc) L) S (shC c0 hv lp kv wv c.bd s'.lf lo s'.fu) X xf cv (L ++ E)∧(∀ y∈E,Td y.f)∧(List.range' k (24 - k)).foldl (fnS c xf i) ((L ++ E).map (·.f),s') = R∧w.heap.size≤X))
 case atStart=>exact ⟨0,[],s,by omega,rfl,hide ⟨(uh HI0).1,fun y hy=>by simp at hy,by rw [List.append_nil,uh HRR];unfold fndF;rw [List.range_eq_range'],(uh HI0).2⟩⟩
 case round =>
  clear HI0
  obtain ⟨k,E,s',hkn,rfl,hI⟩:=hrel
  obtain ⟨G,hG⟩:∃ G,G = gk:=⟨_,rfl⟩
  obtain ⟨la,lc,hlv,-,-⟩:=own_slc (uh hI).1.fl.row
  subst hlv
  by_cases hlt:k < 24
  ·have hd:decide ((k:Int) < (24:Int)) = true:=by simp;omega
   have hrng:List.range' k (24 - k) = k :: List.range' (k + 1) (24 - (k + 1)):=by rw [show 24 - k = (24 - (k + 1)) + 1 by omega,List.range'_succ]
   have hfo:=(uh hI).2.2.1
   rw [hrng,List.foldl_cons] at hfo
   have hF:=(uh HXP wr _ E (uh hI).1.fl)
   have d1:=(World.ownsRow.cellAt (uh hI).1.xb k (by omega)).trans (blC_get (by rw [rcA_len];exact hlt))
   rw [rcA_get xf hlt] at d1
   have x0:=hF.is.cls (i:=0) (by omega)
   unfold clV at x0
   obtain ⟨n0,hn0⟩:∃ n0,n0 = xf.cl.getD 0 0:=⟨_,rfl⟩
   rw [← hn0] at x0
   have hfa:fnA xf k = (decide (k∈rcL xf) && !decide (k = n0) && !(bgn xf.ow k).isSome):=by rw [hn0];rfl
   have HBG:=hide (begins_any k hF.is)
   have i1:(0:Int)≤(k:Int):=by omega
   have i2:(k:Int) < (24:Int):=by omega
   have hsk:fnA xf k = false→(List.range' (k + 1) (24 - (k + 1))).foldl (fnS c xf i) ((L ++ E).map (·.f),s') = R:=fun e=>by
    have e2:fnS c xf i ((L ++ E).map (·.f),s') k = ((L ++ E).map (·.f),s'):=by unfold fnS;rw [if_neg (by rw [e];decide)]
    rw [e2] at hfo;exact hfo
   have HSK:Hid (fnA xf k = false→Hid (Fn w wr B (S :: flF (.slice va L.length vc) L) S (shC c0 hv lp kv wv c.bd s'.lf lo s'.fu) X xf (.slice la (L ++ E).length lc) (L ++ E)∧(∀ y∈E,Td y.f)∧(List.range' (k + 1) (24 - (k + 1))).foldl (fnS c xf i) ((L ++ E).map (·.f),s') = R∧w.heap.size≤X)):=hide (fun e=>hide ⟨(uh hI).1,(uh hI).2.1,hsk e,(uh hI).2.2.2⟩)
   have HFO:=hide hfo
   have HFA:=hide hfa
   clear hrng hfo hF hn0 hfa hsk
   rw [List.length_append] at HSK ⊢
   by_cases hm:k∈rcL xf
   ·rw [show decide (k∈rcL xf) = true by simpa using hm] at d1 HFA
    by_cases hc:k = n0
    ·have d2:((k:Int) == (n0:Int)) = true:=by simp [hc]
     have HN:=hide (uh HSK (by rw [uh HFA];simp [hc]))
     clear hm hc HSK hI
     go_wp2_with fail
     go_roundg (G - 1)
     case rel=>exact ⟨k + 1,E,s',by omega,by go_num,uh HN⟩
     case measure=>omega
    ·have d2:((k:Int) == (n0:Int)) = false:=by simp;omega
     have hg:=opI_ge (bgn xf.ow k)
     cases hb:bgn xf.ow k with
     | some b0 =>
      rw [hb] at hg HBG
      have HN:=hide (uh HSK (by rw [uh HFA,hb];simp))
      clear hm hc HSK hI hb
      go_wp2_with fail
      refine (uh HBG).mono ?_
      rintro e w3 ⟨rfl,rfl⟩
      go_wp2_with fail
      go_roundg (G - 1)
      case rel=>exact ⟨k + 1,E,s',by omega,by go_num,uh HN⟩
      case measure=>omega
     | none =>
      rw [hb] at hg HBG
      have hA:fnA xf k = true:=by rw [uh HFA,hb];simp [hc]
      have hF:=(uh HXP wr _ E (uh hI).1.fl)
      have HME:=hide (meet_f hF.is (uh HXT).ok (Nat.le_trans (uh HXT).ln (by omega)) hlt hi)
      have HMO:=hide (meF_fok (i:=i) (uh HXT).ok hlt hb)
      have hr1:fnS c xf i ((L ++ E).map (·.f),s') k = (meF xf k i).foldl (fnG c) ((L ++ E).map (·.f),s'):=by unfold fnS;rw [if_pos hA]
      rw [hr1] at HFO
      obtain ⟨R1,hR1⟩:∃ R1,R1 = (meF xf k i).foldl (fnG c) ((L ++ E).map (·.f),s'):=⟨_,rfl⟩
      rw [← hR1] at HFO
      have HR1:=hide hR1
      have HOK1:Hid (R1.2.ok = true):=hide (by
       refine fold_mono (fnS c xf i) (fun r b h=>fnS_mono r b h) (List.range' (k + 1) (24 - (k + 1))) ?_
       rw [uh HFO];exact uh HOK)
      have hMl:=meF_len xf k i
      have HI:=hide (uh hI)
      clear hm hc HSK hI hb hA hF hr1 hR1
      go_wp2_with fail
      refine (uh HBG).mono ?_
      rintro e w3 ⟨rfl,rfl⟩
      go_wp2_with fail
      refine (uh HME).mono ?_
      rintro e w4 ⟨v2,L2,rfl,hfl2,hm2,hb4⟩
      have hFn4:=(uh HI).1.below hb4
      have hP4:=hfl2.pend
      have hdj:∀ y∈fpP v2 L2 0,y ∉ flF (.slice la (L ++ E).length lc) (L ++ E)∧y≠S∧y≠X∧w.heap.size≤y∧B≤y:=fun y hy=>by
       have h1:=hP4.geB y hy
       exact ⟨fun hn=>by have h2:=(uh HI).1.fl.lt y hn;omega,fun e=>by have h2:=(uh HI).1.bs.lt;omega,fun e=>by have h2:=(uh HI).1.xl;omega,Nat.le_trans (uh HI).1.st.size h1,Nat.le_trans (uh HI).1.bb h1⟩
      obtain ⟨B2,hB2⟩:∃ B2,B2 = w3.heap.size:=⟨_,rfl⟩
      rw [← hB2] at hP4
      obtain ⟨a2,c2,hv2,-,-⟩:=own_slc hP4.row
      subst hv2
      have HM2:=hide hm2
      have hL22:L2.length≤2:=by have:=congrArg List.length hm2;rw [List.length_map] at this;omega
      have HJ0:Hid (Fn w w4 B (S :: flF (.slice va L.length vc) L) S (shC c0 hv lp kv wv c.bd s'.lf lo s'.fu) X xf (.slice la (L.length + E.length) lc) (L ++ E)∧(∀ y∈E,Td y.f)∧Pend w4 B2 (.slice a2 L2.length c2) L2 0∧(∀ y∈fpP (.slice a2 L2.length c2) L2 0,y ∉ flF (.slice la (L.length + E.length) lc) (L ++ E)∧y≠S∧y≠X∧w.heap.size≤y∧B≤y)∧((meF xf k i).drop 0).foldl (fnG c) ((L ++ E).map (·.f),s') = R1∧w.heap.size≤X):=hide (by
       rw [← List.length_append]
       exact ⟨hFn4,(uh HI).2.1,hP4,hdj,(uh HR1).symm,(uh HI).2.2.2⟩)
      clear hfl2 hm2 hb4 hFn4 hP4 hdj HME HI hB2 hMl d1 x0
      go_wp2_with fail
      go_loopg [1,43] L2.length (fun gn cv iv wx=>∃ (j:Nat) (Ea:List FE) (sa:Sr),j + gn = L2.length∧iv = .int .i64 j∧Hid (Fn w wx B (S :: flF (.slice va L.length vc) L) S (shC c0 hv lp kv wv c.bd sa.lf lo sa.fu) X xf cv (L ++ Ea)∧(∀ y∈Ea,Td y.f)∧Pend wx B2 (.slice a2 L2.length c2) L2 j∧(∀ y∈fpP (.slice a2 L2.length c2) L2 j,y ∉ flF cv (L ++ Ea)∧y≠S∧y≠X∧w.heap.size≤y∧B≤y)∧((meF xf k i).drop j).foldl (fnG c) ((L ++ Ea).map (·.f),sa) = R1∧w.heap.size≤X))
      case atStart=>exact ⟨0,E,s',by omega,rfl,HJ0⟩
      case round =>
       clear HJ0
       obtain ⟨j,Ea,sa,hjn,rfl,hJ⟩:=hrel
       obtain ⟨G2,hG2⟩:∃ G2,G2 = gk:=⟨_,rfl⟩
       obtain ⟨lb,ld,hlv,-,-⟩:=own_slc (uh hJ).1.fl.row
       subst hlv
       by_cases hjl:j < L2.length
       ·have hd2:decide ((j:Int) < (L2.length:Int)) = true:=by simp;omega
        obtain ⟨g2,cap2,hgv2,hcell⟩:=(uh hJ).2.2.1.cell hjl
        simp only [Value.slice.injEq,true_and] at hgv2
        obtain ⟨rfl,rfl⟩:=hgv2
        obtain ⟨hy,-,hPn,hPd,hPm⟩:=(uh hJ).2.2.1.next hjl
        have hjm:j < (meF xf k i).length:=by rw [← uh HM2,List.length_map];exact hjl
        have hfy:L2[j].f = (meF xf k i)[j]:=by
         have:=congrArg (fun l=>l[j]?) (uh HM2)
         simp only [List.getElem?_map,List.getElem?_eq_getElem hjl,List.getElem?_eq_getElem hjm,Option.map_some,Option.some.injEq] at this
         exact this
        have hmem:L2[j].f∈meF xf k i:=by rw [hfy];exact List.getElem_mem hjm
        have hyO:=uh HMO _ hmem
        have hya:=meF_ap hmem
        have hdr:(meF xf k i).drop j = L2[j].f :: (meF xf k i).drop (j + 1):=by rw [hfy];exact List.drop_eq_getElem_cons hjm
        have hfo:=(uh hJ).2.2.2.2.1
        rw [hdr,List.foldl_cons] at hfo
        have hokG:(fnG c ((L ++ Ea).map (·.f),sa) L2[j].f).2.ok = true:=fold_mono (fnG c) (fun r b h=>(fnG_mono h).1) ((meF xf k i).drop (j + 1)) (by rw [hfo];exact uh HOK1)
        have hmono:=(fnG_mono hokG).2
        obtain ⟨y,hye⟩:∃ y,y = L2[j]:=⟨_,rfl⟩
        rw [← hye] at hcell hy hPd hPm hyO hya hfo hmono
        have hdy:∀ q∈y.bs,q ∉ flF (.slice lb (L ++ Ea).length ld) (L ++ Ea)∧q≠S∧q≠X∧w.heap.size≤q∧B≤q:=fun q hq=>(uh hJ).2.2.2.1 q (hPm q hq)
        have HTD:=hide (tidy_any hy hyO (by rw [hya];exact Nat.le_trans (uh HXT).ln (by omega)))
        have hyp:y.p = .pointer (some ⟨y.A,0,none⟩):=rfl
        rw [hyp] at hcell
        have HFo:=hide hfo
        have HMo:=hide hmono
        have HPn:=hide hPn
        have HPd:=hide hPd
        have HDy:=hide hdy
        have HYO:=hide hyO
        have HJ:=hide (uh hJ)
        have k1:(0:Int)≤(j:Int):=by omega
        have k2:(j:Int) < (L2.length:Int):=by omega
        clear hy hPn hPd hPm hjm hfy hmem hyO hya hdr hfo hokG hmono hdy hyp hye hJ
        rw [List.length_append] at HDy HJ ⊢
        go_wp2_with fail
        refine (uh HTD).mono ?_
        rintro e w5 ⟨rfl,av5,ov5,hF5,hS5⟩
        have hside:∀ q∈bsF y.A av5 ov5,q ∉ flF (.slice lb (L.length + Ea.length) ld) (L ++ Ea)∧q≠S∧q≠X∧w.heap.size≤q∧B≤q:=fun q hq=>by
         rcases hS5.foot q hq with p | p
         ·exact uh HDy q p
         ·exact ⟨fun hn=>by have h2:=(uh HJ).1.fl.lt q hn;omega,fun e=>by have h2:=(uh HJ).1.bs.lt;omega,fun e=>by have h2:=(uh HJ).1.xl;omega,Nat.le_trans (uh HJ).1.st.size p,Nat.le_trans (uh HJ).1.bb p⟩
        have hFn5:=(uh HJ).1.side hS5 (fun q hq=>⟨(uh HDy q hq).1,(uh HDy q hq).2.1,(uh HDy q hq).2.2.1,(uh HDy q hq).2.2.2.1⟩)
        have hP5:=(uh HPn).stp hS5 (fun q hq hn=>(uh HPd q hq).2 hn)
        have hTall:∀ q∈L ++ Ea,Td q.f:=fun q hq=>by
         rcases List.mem_append.1 hq with h | h
         ·exact uh HT q h
         ·exact (uh HJ).2.1 q h
        have HIN:=hide (isNew_any hF5.is (uh HYO).tidy hFn5.fl hTall)
        have hP5d:∀ q∈fpP (.slice (some ⟨g2,0,none⟩) L2.length c2) L2 (j + 1),(q ∉ flF (.slice lb (L.length + Ea.length) ld) (L ++ Ea)∧q≠S∧q≠X∧w.heap.size≤q∧B≤q)∧q ∉ bsF y.A av5 ov5:=fun q hq=>⟨(uh HJ).2.2.2.1 q (uh HPd q hq).1,fun hn=>by
         rcases hS5.foot q hn with p | p
         ·exact (uh HPd q hq).2 p
         ·have:=(uh HPn).lt q hq;omega⟩
        have HF5:=hide hF5
        have HFn5:=hide hFn5
        have HP5:=hide hP5
        have HSd:=hide hside
        have HP5d:=hide hP5d
        clear hF5 hS5 hside hFn5 hP5 hTall hP5d HTD hcell
        go_wp2_with fail
        refine (uh HIN).mono ?_
        rintro e w6 ⟨rfl,hb6⟩
        have hFn6:=(uh HFn5).below hb6
        have HP6:=hide ((uh HP5).below hb6)
        have HF6:=hide ((uh HF5).below hb6)
        clear HIN HFn5 HP5 HF5
        cases hne:neB ((L ++ Ea).map (·.f)) (tdF y.f)
        ·have hgg:fnG c ((L ++ Ea).map (·.f),sa) y.f = ((L ++ Ea).map (·.f),sa):=by unfold fnG;rw [if_neg (by rw [hne];decide)]
         have HN:Hid (Fn w w6 B (S :: flF (.slice va L.length vc) L) S (shC c0 hv lp kv wv c.bd sa.lf lo sa.fu) X xf (.slice lb (L.length + Ea.length) ld) (L ++ Ea)∧(∀ y∈Ea,Td y.f)∧Pend w6 B2 (.slice (some ⟨g2,0,none⟩) L2.length c2) L2 (j + 1)∧(∀ y∈fpP (.slice (some ⟨g2,0,none⟩) L2.length c2) L2 (j + 1),y ∉ flF (.slice lb (L.length + Ea.length) ld) (L ++ Ea)∧y≠S∧y≠X∧w.heap.size≤y∧B≤y)∧((meF xf k i).drop (j + 1)).foldl (fnG c) ((L ++ Ea).map (·.f),sa) = R1∧w.heap.size≤X):=hide ⟨hFn6,(uh HJ).2.1,uh HP6,fun q hq=>(uh HP5d q hq).1,by have:=uh HFo;rw [hgg] at this;exact this,(uh HJ).2.2.2.2.2⟩
         clear hgg hne hFn6 hb6 HJ
         go_wp2_with fail
         go_roundg (G2 - 1)
         case rel=>exact ⟨j + 1,Ea,sa,by omega,by go_num,HN⟩
         case measure=>omega
        ·have hgg:fnG c ((L ++ Ea).map (·.f),sa) y.f = ((L ++ Ea).map (·.f) ++ [tdF y.f],spS' c { sa with ok:=sa.ok && decide (((L ++ Ea).map (·.f)).length≤bigC) }):=by unfold fnG;rw [if_pos hne]
         have hlen:L.length + Ea.length≤900000:=by
          have:=uh HMo hne
          rw [List.length_map,List.length_append] at this
          unfold bigC at this
          exact this
         have HR6:Hid (w6.ownsRow B 126 1 (.slice lb (L.length + Ea.length) ld) (L.length + Ea.length) ((L ++ Ea).map FE.p)):=hide (by have:=hFn6.fl.row;rwa [List.length_append] at this)
         have HFn6:=hide hFn6
         have hbb6:=hFn6.bb
         have HGG:=hide hgg
         clear hgg hne hFn6 hb6
         go_wp2_with (at_builtin;refine wpList_app1 _ rfl (.tmp 52) (.tmp 54) 125 rfl B 126 i0 _ 1 8 Tryz.underlying125 hi0 hz0 hz1 hz2 rfl (by decide) _ (L.length + Ea.length) ((L ++ Ea).map FE.p) rfl ((uh HR6).alloc _) ⟨_,0,none⟩ 1 [.pointer (some ⟨y.A,0,none⟩)] rfl rfl (new_cells _ _ (by simp) [.pointer (some ⟨y.A,0,none⟩)] _) (by intro u hu;simp only [List.mem_singleton] at hu;subst hu;rfl) (by omega) (by omega) (by simp;omega) ?_)
         intro g7 cap7 w7 hown7 hgrow7 hblk7
         have hs7:=stp_grow hgrow7 (by simpa using hblk7)
         have hFn7:=(uh HFn6).app (x:=⟨y.A,tdF y.f,av5,ov5⟩) (g1:=g7) (c1:=cap7) (uh HF6) (uh HSd) (by rw [List.length_append,List.map_append,List.append_assoc];exact hown7) hgrow7 (by simpa using hblk7)
         have hP7:=(uh HP6).stp hs7 (fun q hq hn=>(uh HP5d q hq).1.1 (List.mem_append_left _ hn))
         have hD7:∀ q∈fpP (.slice (some ⟨g2,0,none⟩) L2.length c2) L2 (j + 1),q ∉ flF (.slice (some ⟨g7,0,none⟩) (L.length + Ea.length + 1) cap7) (L ++ (Ea ++ [⟨y.A,tdF y.f,av5,ov5⟩])):=fun q hq hn=>by
          rcases List.mem_append.1 hn with p | p
          ·have e:q = g7:=by simpa [Value.ownBlock,eq_comm] using p
           subst e
           rcases hblk7 with e | e
           ·exact (uh HP5d q hq).1.1 (List.mem_append_left _ (by rw [← e];simp))
           ·have:=(uh HP6).lt q hq;omega
          ·rw [← List.append_assoc,List.flatMap_append,List.mem_append] at p
           rcases p with p | p
           ·exact (uh HP5d q hq).1.1 (List.mem_append_right _ p)
           ·simp only [List.flatMap_cons,List.flatMap_nil,List.append_nil] at p
            exact (uh HP5d q hq).2 p
         rw [List.append_assoc,List.length_append] at hFn7
         have HSP:=hide (spend_any hFn7.bs)
         have HFn7:=hide hFn7
         have HP7:=hide hP7
         have HD7:=hide hD7
         clear hown7 hgrow7 hblk7 hs7 hFn7 hP7 hD7 HR6 HFn6 HP6
         go_wp2_with fail
         refine (uh HSP).mono ?_
         rintro e w8 ⟨rfl,hbk8,hs8⟩
         have hFn8:=(uh HFn7).spend hbk8 hs8
         have hP8:=(uh HP7).stp hs8 (fun q hq hn=>(uh HP5d q hq).1.2.1 (by simpa using hn))
         have hTE:∀ q∈Ea ++ [(⟨y.A,tdF y.f,av5,ov5⟩:FE)],Td q.f:=fun q hq=>by
          rcases List.mem_append.1 hq with h | h
          ·exact (uh HJ).2.1 q h
          ·rw [List.mem_singleton] at h;subst h;exact (uh HYO).tidy
         obtain ⟨sb,hsb⟩:∃ sb,sb = spS' c { sa with ok:=sa.ok && decide (((L ++ Ea).map (·.f)).length≤bigC) }:=⟨_,rfl⟩
         have hsl:sb.lf = wrap64 (sa.lf - 1):=by rw [hsb];rfl
         have hsf:sb.fu = (sa.fu || (decide (wrap64 (sa.lf - 1) < 0) && c.bd)):=by rw [hsb];rfl
         rw [← hsf,← hsl] at hFn8
         have hfo8:((meF xf k i).drop (j + 1)).foldl (fnG c) ((L ++ (Ea ++ [(⟨y.A,tdF y.f,av5,ov5⟩:FE)])).map (·.f),sb) = R1:=by
          have:=uh HFo
          rw [uh HGG,← hsb] at this
          rw [← List.append_assoc,List.map_append]
          exact this
         have HN:=hide (And.intro hFn8 (And.intro hTE (And.intro hP8 (And.intro (fun q hq=>And.intro (uh HD7 q hq) (uh HP5d q hq).1.2) (And.intro hfo8 (uh HJ).2.2.2.2.2)))))
         clear hbk8 hs8 hFn8 hP8 hTE hsb hsl hsf hfo8 HSP HFn7 HP7 HD7 HJ
         go_wp2_with fail
         go_roundg (G2 - 1)
         case rel=>exact ⟨j + 1,Ea ++ [⟨y.A,tdF y.f,av5,ov5⟩],sb,by omega,by go_num,HN⟩
         case measure=>omega
       ·have hd2:decide ((j:Int) < (L2.length:Int)) = false:=by simp;omega
        have hjm:(meF xf k i).length≤j:=by rw [← uh HM2,List.length_map];omega
        have hrr:((L ++ Ea).map (·.f),sa) = R1:=by
         have:=(uh hJ).2.2.2.2.1
         rw [List.drop_eq_nil_of_le hjm] at this
         exact this
        have HN:Hid (Fn w wr B (S :: flF (.slice va L.length vc) L) S (shC c0 hv lp kv wv c.bd sa.lf lo sa.fu) X xf (.slice lb (L ++ Ea).length ld) (L ++ Ea)∧(∀ y∈Ea,Td y.f)∧(List.range' (k + 1) (24 - (k + 1))).foldl (fnS c xf i) ((L ++ Ea).map (·.f),sa) = R∧w.heap.size≤X):=hide ⟨(uh hJ).1,(uh hJ).2.1,by rw [hrr];exact uh HFO,(uh hJ).2.2.2.2.2⟩
        rw [List.length_append] at HN ⊢
        clear hjm hrr hJ
        go_wp2_with fail
        go_roundg (G - 1)
        case rel=>exact ⟨k + 1,Ea,sa,by omega,by go_num,HN⟩
        case measure=>omega
   ·rw [show decide (k∈rcL xf) = false by simpa using hm] at d1 HFA
    have HN:=hide (uh HSK (by rw [uh HFA];simp))
    clear hm HSK hI
    go_wp2_with fail
    go_roundg (G - 1)
    case rel=>exact ⟨k + 1,E,s',by omega,by go_num,uh HN⟩
    case measure=>omega
  ·have hd:decide ((k:Int) < (24:Int)) = false:=by simp;omega
   have hke:R = ((L ++ E).map (·.f),s'):=by
    have:=(uh hI).2.2.1
    rw [show 24 - k = 0 by omega] at this
    exact this.symm
   have HKE:=hide hke
   clear hke
   go_wp2_with fail
   go_ret
   refine ⟨_,E,rfl,(uh hI).1.fl,(uh hI).2.1,by rw [uh HKE],?_,fun hn=>((uh hI).1.ns S hn).1 rfl,(uh hI).1.st⟩
   rw [uh HKE]
   exact (uh hI).1.bs
end
end Go.Proofs.YtciihepbeacppaaGreat
