import Derived.Test.YtciihepbeacppaaGreatHI
import Derived.Test.YtciihepbeacppaaGreatHK
import Derived.Test.YtciihepbeacppaaGreatHE
import Derived.Test.YtciihepbeacppaaGreatM18
namespace Go.Proofs.YtciihepbeacppaaGreat
open Go.RowKit
set_option maxRecDepth 100000 in
set_option maxHeartbeats 8000000 in
theorem cel_base {X : Nat} {ad nx : List Int} {pu : List RAt} : CelOK X ad nx pu [] (celM ad nx pu 0 []):=by
 intro w rv pv nv vv fv ns vs fr hI hB
 have HI:=hide hI
 have HB:=hide hB
 have hfl:=hI.fr.2.1
 obtain ⟨na,nc,rfl⟩:=hI.ns.slice
 obtain ⟨va,vc,rfl⟩:=hI.vs.slice
 obtain ⟨fa,fc,rfl⟩:=hI.fr.slice
 obtain ⟨ra,rc,rfl⟩:=hI.pl.slice
 obtain ⟨pa,pc,rfl⟩:=hI.pu.slice
 clear hI hB
 go_enter Tryz.func138,Tryz.ntmps138
 go_wp2_with fail
 go_loopw [11] (fun i wr=>wr = w.alloc (.cells #[.slice na ns.length nc,.slice va vs.length vc] 211) ∧ ∃ k : Nat,k ≤ fr.length ∧ i = .int .i64 k ∧ Hid (∀ j,j < k → fr.getD j false = false)) (fun i _=>fr.length - (intOf i).toNat)
 case atStart=>exact ⟨rfl,0,Nat.zero_le _,rfl,hide (fun _ h=>absurd h (by omega))⟩
 case round =>
  obtain ⟨rfl,k,hk,rfl,hall⟩:=hrel
  by_cases hlt : k < fr.length
  ·obtain ⟨g,off,cap,hv,hn2,hm2,hc⟩:=((uh HI).fr.below (below_box w (.cells #[.slice na ns.length nc,.slice va vs.length vc] 211))).get (by omega)
   simp only [Value.slice.injEq,true_and] at hv
   obtain ⟨rfl,rfl⟩:=hv
   have x2:=hc k _ (bools_get hlt)
   clear hc
   cases hf : fr.getD k false with
   | true =>
    have HR : Hid (celM ad nx pu 0 [] ns vs fr = false):=hide (by rw [celM,any_some hlt hf]; rfl)
    rw [hf] at x2
    clear hf
    go_wp2_with fail
    go_ret
    exact ⟨ret_bool (uh HR).symm,below_box _ _⟩
   | false =>
    have HA:=hide (any_step (uh hall) hf)
    rw [hf] at x2
    clear hf
    go_wp2_with fail
    go_roundw
    case rel=>exact ⟨trivial,k + 1,by omega,by go_num,HA⟩
    case measure=>simp [intOf]; omega
  ·obtain rfl : k = fr.length:=by omega
   have hd : decide ((fr.length : Int) < (fr.length : Int)) = false:=by simp
   have HR : Hid (celM ad nx pu 0 [] ns vs fr = oth pu (2 * pu.length + 1) ns vs):=hide (by rw [celM,any_none (uh hall)]; rfl)
   have hl4:=(uh HB).l4
   clear hlt hk
   go_wp2_with fail
   refine (oth_all pu X (2 * pu.length) _ _ _ _ ns vs ((uh HI).pu.below (below_box _ _)) ((uh HI).ns.below (below_box _ _)) ((uh HI).vs.below (below_box _ _)) (uh HB).l1 (by omega) (fun v hv=>by have:=(uh HB).bv v hv; omega) (unv_two ns vs pu)).mono ?_
   rintro e w2 ⟨rfl,hb2⟩
   have HB2:=hide ((below_box w (.cells #[.slice na ns.length nc,.slice va vs.length vc] 211)).trans (hb2.mono (by simp)))
   clear hb2
   go_wp2_with fail
   go_ret
   exact ⟨ret_bool (uh HR).symm,uh HB2⟩
theorem cel_all {X : Nat} {ad nx : List Int} {pu : List RAt} (n : Nat) : ∀ pl : List RAt,pl.length = n → CelOK X ad nx pu pl (celM ad nx pu n pl):=by
 induction n with
 | zero =>
  intro pl h
  obtain rfl : pl = []:=List.eq_nil_of_length_eq_zero h
  exact cel_base
 | succ n ih=>exact fun pl h=>cel_step h ih
theorem hold_any {w : World} {X : Nat} {ad nx : List Int} {ns : List ByteArray} {vs : List Int} {fv : Value} {f : List RAt} (hA : HpA w X ad nx) (hN : HpB w X ns vs) (hF : Lst w fv 3 f.length (raCells f)) (hl : ns.length = vs.length) (hlx : nx.length = ad.length) (hb : ns.length + 2 * f.length < 16000) (bv : BV vs) (ba : BV ad) (bn : BV nx) :
  Calls Tryz.prog 91 #[.pointer (some ⟨X,0,none⟩),fv] w fun e w'=>e = .returned (.bool (hold ad nx ns vs f)) ∧ Below w.heap.size w w' :=
 hold_walk hA hN hF hl hlx hb bv ba bn (cel_all _ _ rfl)
set_option maxRecDepth 100000 in
set_option maxHeartbeats 2000000 in
theorem cut_any2 {w : World} {v : Value} {l : List Int} {k : Nat} (hL : w.ownsRow 0 3 1 v l.length (ints l)) (hk : k < l.length) (hl : l.length ≤ 19000) :
  Calls Tryz.prog 221 #[v,.int .i64 k] w fun e w'=>∃ v',e = .returned v' ∧ w'.ownsRow w.heap.size 3 1 v' (l.length - 1) (ints (l.eraseIdx k)) ∧ Below w.heap.size w w':=by
 obtain ⟨j0,hj,hy0,hy1,hy2⟩:=info_parts Tryz.infoInt
 obtain ⟨g,cap,rfl,hcn,hcm,hgl⟩:=own_pos hL (by omega)
 have HL:=hide hL
 have L1 : Hid (Lst w (.slice (some ⟨g,0,none⟩) k cap) 1 k (ints (l.take k))):=hide ⟨by rw [ints_len,List.length_take]; omega,by omega,Or.inr ⟨g,0,cap,rfl,by omega,by unfold maxLen; omega,fun j u hj=>by
  rw [Nat.zero_add,hL.cellAt j (by have:=(List.getElem?_eq_some_iff.1 hj).1; rw [ints_len,List.length_take] at this; omega),← hj]
  simp only [ints,List.getElem?_map]
  rw [List.getElem?_take,if_pos]
  have:=(List.getElem?_eq_some_iff.1 hj).1
  rw [ints_len,List.length_take] at this
  omega⟩⟩
 obtain ⟨A,hA,HA⟩ : ∃ A : Addr,(if cap = k + 1 then some (⟨g,0,none⟩ : Addr) else some ⟨g,k + 1,none⟩) = some A ∧ Hid (∃ off,A = ⟨g,off,none⟩ ∧ (k + 1 < l.length → off = k + 1)):=by
  by_cases h : cap = k + 1
  ·exact ⟨_,if_pos h,hide ⟨0,rfl,fun h'=>by omega⟩⟩
  ·exact ⟨_,if_neg h,hide ⟨_,rfl,fun _=>rfl⟩⟩
 have L2 : Hid (Lst w (.slice (some A) (l.length - (k + 1)) (cap - (k + 1))) 1 (l.length - (k + 1)) (ints (l.drop (k + 1)))):=hide (by
  obtain ⟨off,rfl,hoff⟩:=uh HA
  refine ⟨by rw [ints_len,List.length_drop]; omega,by omega,Or.inr ⟨g,off,_,rfl,by omega,by unfold maxLen; omega,fun j u hj=>?_⟩⟩
  have hjl:=(List.getElem?_eq_some_iff.1 hj).1
  rw [ints_len,List.length_drop] at hjl
  rw [hoff (by omega),hL.cellAt (k + 1 + j) (by omega),← hj]
  simp only [ints,List.getElem?_map,List.getElem?_drop])
 have hwr : IntKind.i64.wrap ((k : Int) + 1) = (k : Int) + 1:=by rw [IntKind.wrap_i64]; omega
 have hp0 : (0 : Int) ≤ (k : Int) + 1:=by omega
 have hp1 : (k : Int) + 1 ≤ (l.length : Int):=by omega
 have hp2 : ((k : Int) + 1).toNat = k + 1:=by omega
 have hp3 : (k : Int) ≤ (cap : Int):=by omega
 have HRes : Hid (ints (l.take k) ++ ints (l.drop (k + 1)) = ints (l.eraseIdx k)):=hide (by rw [List.eraseIdx_eq_take_drop_succ]; simp [ints])
 clear hL
 go_enter Tryz.func221,Tryz.ntmps221
 go_wp2_with (at_builtin; refine wpList_app_lst rfl (.tmp 6) (.tmp 9) 29 rfl w.heap.size 3 j0 _ 1 8 Tryz.underlying29 hj hy0 hy1 hy2 rfl (by decide) _ 0 [] rfl (World.ownsRow_nil _ _ _ _) _ _ _ rfl (uh L1) (ints_one _) (by omega) (by decide) (Nat.le_refl _) ?_)
 intro v1 w1 hown1 hgrow1
 have hb1 : Below w.heap.size w w1:=(Below.refl _ _).grown hgrow1 (Nat.le_refl _) (fun k h=>by cases h)
 obtain ⟨a1,c1,hv1⟩:=slice_of_own hown1
 subst hv1
 have HO1:=hide hown1
 have HB1:=hide hb1
 have HL2:=hide ((uh L2).below hb1)
 clear hown1 hgrow1 hb1
 go_wp2_with (at_builtin; refine wpList_app_lst rfl (.tmp 11) (.tmp 15) 29 rfl w.heap.size 3 j0 _ 1 8 Tryz.underlying29 hj hy0 hy1 hy2 rfl (by decide) _ _ _ rfl (uh HO1) _ _ _ rfl (uh HL2) (ints_one _) (by omega) (by decide) (uh HB1).size ?_)
 intro v2 w2 hown2 hgrow2
 have hb2 : Below w.heap.size w w2:=(uh HB1).grown hgrow2 (uh HB1).size (fun k h=>((uh HO1).lt k h).1)
 obtain ⟨a2,c2,hv2⟩:=slice_of_own hown2
 subst hv2
 have HO2 : Hid (w2.ownsRow w.heap.size 3 1 (.slice a2 (k + (l.length - (k + 1))) c2) (l.length - 1) (ints (l.eraseIdx k))):=hide (by
  rw [← uh HRes,show l.length - 1 = k + (l.length - (k + 1)) by omega]
  exact hown2)
 have HB2:=hide hb2
 clear hown2 hgrow2 hb2
 go_wp2_with fail
 go_ret
 exact ⟨_,rfl,uh HO2,uh HB2⟩
theorem nodup_opt (o : Option Nat) : o.toList.Nodup:=by cases o <;> simp
def RPost (w : World) (P : Nat) (vs : List ByteArray) (al : List RAt) (cl : List Ins) (vv hv pv cv tx : Value) (m : RM) (e : Ending) (w' : World) : Prop :=
 ∃ y : RL,e = .returned (.pointer (some ⟨y.R,0,none⟩)) ∧ y.P = P ∧ y.vv = vv ∧ y.hv = hv ∧ y.pv = pv ∧ y.cv = cv ∧ y.tx = tx ∧ Rc w' y vs al cl m ∧ (∀ k ∈ y.fp,w.heap.size ≤ k) ∧ Below w.heap.size w w'
section
variable {w : World} {P : Nat} {vs : List ByteArray} {al : List RAt} {cl : List Ins} {vv hv pv cv tx sv0 lv : Value} {st ls : List Int}
set_option maxRecDepth 100000 in
set_option maxHeartbeats 4000000 in
theorem rbegin_any (h : Rp w P vs al cl vv hv pv cv tx) (hv1 : vs.length ≤ 1000) (hcl : cl.length ≤ 100000) (hc0 : 0 < cl.length) (hst : Lst w sv0 1 st.length (ints st)) (hsl : st.length = vs.length) (hls : Lst w lv 1 ls.length (ints ls)) (hnd : (evK ls (ls.length / 2)).Nodup) :
  Calls Tryz.prog 135 #[.pointer (some ⟨P,0,none⟩),sv0,lv] w (RPost w P vs al cl vv hv pv cv tx (seM cl ⟨0,0,st,evK ls (ls.length / 2),odK ls (ls.length / 2)⟩)):=by
 obtain ⟨j0,hj,hy0,hy1,hy2⟩:=info_parts Tryz.infoInt
 have HRp:=hide h
 have HSt:=hide hst
 have HLs:=hide hls
 have HND:=hide hnd
 have p0 : w.cell? ⟨P,0,none⟩ = some vv:=h.bk.cell 0 rfl
 obtain ⟨vo,vcap,hvv,-,-⟩:=own_slc h.vr
 obtain ⟨so,scap,hsv0,hsn,hsm,hs20⟩:=hst.sl
 obtain ⟨lo,lcap,hlv,hln,hlm,hl20⟩:=hls.sl
 rw [hsv0] at HSt ⊢
 rw [hlv] at HLs ⊢
 rw [hvv] at HRp p0
 have HVV:=hide hvv
 have HB0 : Hid (∀ k ∈ rpB P vv pv cv,k < w.heap.size):=hide h.lt
 rw [hvv] at HB0
 have HSl:=hide hsl
 clear h hst hls hnd hsv0 hlv hsl hvv
 have hbx:=below_boxQ w (.cells #[.slice vo vs.length vcap,.slice none 0 0,.slice none 0 0,.slice none 0 0] 216)
 have HBX:=hide hbx
 have HBk:=hide (Bk.new w 216 [.slice vo vs.length vcap,.slice none 0 0,.slice none 0 0,.slice none 0 0])
 have HSt0:=hide ((uh HSt).below hbx)
 clear hbx
 go_enter Tryz.func135,Tryz.ntmps135
 go_wp2_with (at_builtin; refine wpList_app_lst rfl (.tmp 20) (.tmp 21) 29 rfl (w.heap.size + 1) 3 j0 _ 1 8 Tryz.underlying29 hj hy0 hy1 hy2 rfl (by decide) _ 0 [] rfl (World.ownsRow_nil _ _ _ _) _ _ _ rfl (uh HSt0) (ints_one _) (by omega) (by decide) (by simp) ?_)
 intro v1 w1 hown1 hgrow1
 have hb1 : Below w.heap.size w w1:=(uh HBX).grown hgrow1 (uh HBX).size (fun k h=>by cases h)
 have hBk1:=(uh HBk).of_eq (hgrow1.block w.heap.size (uh HBk).lt (fun e=>by cases e))
 obtain ⟨a1,c1,hv1'⟩:=slice_of_own hown1
 subst hv1'
 have hz:=hBk1.frz 1
 have hz1:=hBk1.cell 1 rfl
 have hS2 : HsC w (w1.setCell ⟨w.heap.size,1,none⟩ (.slice a1 st.length c1)) (.slice vo vs.length vcap) (.slice a1 st.length c1) (.slice none 0 0) (.slice none 0 0) st [] [] :=
  ⟨(hBk1.set 1 _),own_setH hown1 (by omega) _,World.ownsRow_nil _ _ _ _,World.ownsRow_nil _ _ _ _,hb1.setCell (p:=⟨w.heap.size,1,none⟩) (Nat.le_refl _) _,by have:=hBk1.lt; simp [World.setCell]; omega,fun k _=>⟨fun e=>(by cases e),fun e=>(by cases e)⟩,fun k e=>(by cases e)⟩
 have HS2:=hide hS2
 clear hown1 hgrow1 hb1 hBk1 hS2
 go_wp2_with fail
 go_loopw [8] (fun i wx=>∃ (m : Nat) (av xv : Value),2 * m ≤ ls.length ∧ i = .int .i64 ((2 * m : Nat) : Int) ∧ Hid (HsC w wx (.slice vo vs.length vcap) (.slice a1 st.length c1) av xv st (evK ls m) (odK ls m))) (fun i _=>ls.length - (intOf i).toNat)
 case atStart=>exact ⟨0,_,_,Nat.zero_le _,rfl,HS2⟩
 case round =>
  clear HS2 hz hz1
  obtain ⟨m,av,xv,hm,rfl,hH⟩:=hrel
  obtain ⟨⟨z0,z1,z2,z3⟩,zf⟩:=cells4H (uh hH).hx
  have HBR : Hid (Below w.heap.size w wr):=hide (uh hH).bl
  have f2:=zf 2
  clear zf
  obtain ⟨kk,hkk⟩ : ∃ kk,kk = 2 * m:=⟨_,rfl⟩
  rw [← hkk] at hm ⊢
  by_cases hlt : kk + 1 < ls.length
  ·have hd1 : decide ((kk : Int) + 1 < (ls.length : Int)) = true:=by simp; omega
   obtain ⟨g,off,cap,hv,hnc,hmc,hc⟩:=(uh HLs).get (by omega)
   simp only [Value.slice.injEq,true_and] at hv
   obtain ⟨rfl,rfl⟩:=hv
   obtain ⟨a,hA⟩ : ∃ a,a = ls.getD kk 0:=⟨_,rfl⟩
   obtain ⟨b,hB⟩ : ∃ b,b = ls.getD (kk + 1) 0:=⟨_,rfl⟩
   have qa:=hc kk _ (ints_get (by omega))
   rw [← hA] at qa
   have cA:=((uh HBR).cell (World.block_lt_of_cell? w _ qa)).trans qa
   have HA:=hide hA
   have HB:=hide hB
   have HKK:=hide hkk
   have HHC:=hide hc
   clear hA hB qa hc hkk
   have hsz:=(uh hH).sz
   have HROW : Hid (wr.ownsRow (w.heap.size + 1) 3 1 av m (ints (evK ls m))):=hide (by have:=(uh hH).ra; rwa [evK_len] at this)
   have HNP : Hid (av.ownBlock ≠ some w.heap.size):=hide (fun e=>by have:=((uh hH).ra.lt _ e).1; omega)
   have hXl : w.heap.size < wr.heap.size:=by omega
   have hBs : w.heap.size + 1 ≤ wr.heap.size:=hsz
   have z2a : ∀ (j : Nat) (o : Obj),((wr.drewN j).alloc o).cell? ⟨w.heap.size,2,none⟩ = some av:=fun j o=>(World.cell?_of_block (a:=⟨w.heap.size,2,none⟩) (Below.heap_alloc (wr.drewN j) o _ hXl)).trans z2
   have hm20 : m ≤ 40000:=by have:=uh HKK; omega
   have i0 : (0 : Int) ≤ (kk : Int):=by omega
   have i1 : (kk : Int) < (ls.length : Int):=by omega
   clear z0 z1 z3
   go_upto_region 6 with fail
   go_cut [42] (fun _ wx=>∃ av',Hid (HsC w wx (.slice vo vs.length vcap) (.slice a1 st.length c1) av' xv st (evK ls (m + 1)) (odK ls m)))
   case first =>
    go_region_law (refine step_app1 _ rfl (.tmp 36) (.tmp 41) 29 rfl (w.heap.size + 1) 3 j0 (.int .i64 0) 1 8 Tryz.underlying29 hj hy0 hy1 hy2 rfl (by decide) av m (ints (evK ls m)) (by simp [Act.eval]) (own_da (uh HROW) _ _) ⟨wr.heap.size,0,none⟩ 1 [.int .i64 a] (by simp [Act.eval]) rfl (one_da _ _ _ _) (ints_one [a]) (by omega) (by omega) (le_da hBs _ _) ?_; intro g2 cap2 w4 hown2 hgrow2 hblk2; have c2':=grown_cell hgrow2 hXl (uh HNP) 2 z2; have f2':=grown_frozen hgrow2 hXl (uh HNP) 2 f2; have HI':=hide (HsC.addA (uh hH) (evK_len ls m) hown2 hgrow2 hblk2); clear hown2 hgrow2 hblk2)
    all_goals
     go_wp2_with fail
     go_meet
     exact ⟨_,hide (by rw [evK_step,← uh HKK,← uh HA]; exact uh HI')⟩
   case rest =>
    obtain ⟨av',hHd⟩:=hcut
    clear HBR hH z2 f2 z2a cA HROW HNP hXl hBs hsz
    obtain ⟨⟨z0,z1,z2,z3⟩,zf⟩:=cells4H (uh hHd).hx
    have HBR : Hid (Below w.heap.size w wc):=hide (uh hHd).bl
    have f3:=zf 3
    have hsz:=(uh hHd).sz
    have qb:=uh HHC (kk + 1) _ (ints_get hlt)
    rw [← uh HB] at qb
    have cB:=((uh HBR).cell (World.block_lt_of_cell? w _ qb)).trans qb
    have HROW : Hid (wc.ownsRow (w.heap.size + 1) 3 1 xv m (ints (odK ls m))):=hide (by have:=(uh hHd).rx; rwa [odK_len] at this)
    have HNP : Hid (xv.ownBlock ≠ some w.heap.size):=hide (fun e=>by have:=((uh hHd).rx.lt _ e).1; omega)
    have hXl : w.heap.size < wc.heap.size:=by omega
    have hBs : w.heap.size + 1 ≤ wc.heap.size:=hsz
    have z3a : ∀ (j : Nat) (o : Obj),((wc.drewN j).alloc o).cell? ⟨w.heap.size,3,none⟩ = some xv:=fun j o=>(World.cell?_of_block (a:=⟨w.heap.size,3,none⟩) (Below.heap_alloc (wc.drewN j) o _ hXl)).trans z3
    have i2 : (0 : Int) ≤ (kk : Int) + 1:=by omega
    have i3 : (kk : Int) + 1 < (ls.length : Int):=by omega
    have iw : IntKind.i64.wrap ((kk : Int) + 1) = (kk : Int) + 1:=by rw [IntKind.wrap_i64]; omega
    have tn : ((kk : Int) + 1).toNat = kk + 1:=by omega
    clear zf qb z0 z1 z2
    go_upto_region 7 with fail
    go_region_law (refine step_app1 _ rfl (.tmp 49) (.tmp 55) 29 rfl (w.heap.size + 1) 3 j0 (.int .i64 0) 1 8 Tryz.underlying29 hj hy0 hy1 hy2 rfl (by decide) xv m (ints (odK ls m)) (by simp [Act.eval]) (own_da (uh HROW) _ _) ⟨wc.heap.size,0,none⟩ 1 [.int .i64 b] (by simp [Act.eval]) rfl (one_da _ _ _ _) (ints_one [b]) (by omega) (by omega) (le_da hBs _ _) ?_; intro g2 cap2 w4 hown2 hgrow2 hblk2; have c3':=grown_cell hgrow2 hXl (uh HNP) 3 z3; have f3':=grown_frozen hgrow2 hXl (uh HNP) 3 f3; have HI':=hide (HsC.addX (uh hHd) (odK_len ls m) hown2 hgrow2 hblk2); clear hown2 hgrow2 hblk2)
    all_goals
     go_wp2_with fail
     go_roundw
     case rel=>exact ⟨m + 1,_,_,by have:=uh HKK; omega,by rw [uh HKK]; go_num,hide (by rw [odK_step,← uh HKK,← uh HB]; exact uh HI')⟩
     case measure=>simp [intOf]; omega
  ·have hd1 : decide ((kk : Int) + 1 < (ls.length : Int)) = false:=by simp; omega
   have hme : m = ls.length / 2:=by omega
   have hkb : kk ≤ 40000:=by omega
   clear hm hlt hkk z0 z1 z2 z3 f2
   subst hme
   obtain ⟨sv',hsv'⟩ : ∃ v,v = Value.slice a1 st.length c1:=⟨_,rfl⟩
   rw [← hsv'] at hH
   obtain ⟨vv',hvv'⟩ : ∃ v,v = Value.slice vo vs.length vcap:=⟨_,rfl⟩
   rw [← hvv'] at hH HRp HB0
   have HRc : Hid (Rc (wr.alloc (.cells #[.pointer (some ⟨P,0,none⟩),.pointer (some ⟨w.heap.size,0,none⟩),.int .i64 0,.int .i64 0] 160)) ⟨wr.heap.size,w.heap.size,P,vv',hv,pv,cv,tx,sv',av,xv⟩ vs al cl ⟨0,0,st,evK ls (ls.length / 2),odK ls (ls.length / 2)⟩):=hide (by
    have hb:=below_boxQ wr (.cells #[.pointer (some ⟨P,0,none⟩),.pointer (some ⟨w.heap.size,0,none⟩),.int .i64 0,.int .i64 0] 160)
    have h1:=(uh hH).below hb
    have h0:=uh hH
    have hs:=h0.sz
    refine ⟨Bk.new wr _ [_,_,_,_],h1.hx,own_le h1.rs (Nat.zero_le _),own_le h1.ra (Nat.zero_le _),own_le h1.rx (Nat.zero_le _),?_,(uh HRp).below h1.bl,?_,uh HSl,by simp [evK_len,odK_len]⟩
    ·show (wr.heap.size :: w.heap.size :: (sv'.ownBlock.toList ++ (av.ownBlock.toList ++ xv.ownBlock.toList))).Nodup
     rw [List.nodup_cons,List.nodup_cons,List.nodup_append,List.nodup_append]
     simp only [List.mem_cons,List.mem_append,Option.mem_toList,not_or]
     refine ⟨⟨by omega,fun e=>by have:=(h0.rs.lt _ e).2; omega,fun e=>by have:=(h0.ra.lt _ e).2; omega,fun e=>by have:=(h0.rx.lt _ e).2; omega⟩,⟨fun e=>by have:=(h0.rs.lt _ e).1; omega,fun e=>by have:=(h0.ra.lt _ e).1; omega,fun e=>by have:=(h0.rx.lt _ e).1; omega⟩,nodup_opt _,⟨nodup_opt _,nodup_opt _,?_⟩,?_⟩
     ·rintro x hx z hz rfl; exact h0.n2 x hx hz
     ·rintro x hx z hz rfl
      rcases hz with hz | hz
      ·exact (h0.n1 x hx).1 hz
      ·exact (h0.n1 x hx).2 hz
    ·intro k hk hf
     have hl:=uh HB0 k hk
     simp only [RL.fp,List.mem_cons,List.mem_append,Option.mem_toList] at hf
     rcases hf with rfl | rfl | hf | hf | hf
     ·omega
     ·omega
     ·have:=(h0.rs.lt _ hf).1; omega
     ·have:=(h0.ra.lt _ hf).1; omega
     ·have:=(h0.rx.lt _ hf).1; omega)
   have HS:=hide (rsettle_any (uh HRc) hv1 hc0 hcl (by rw [evK_len]; omega) (uh HND))
   have HFp : Hid (∀ k ∈ RL.fp ⟨wr.heap.size,w.heap.size,P,vv',hv,pv,cv,tx,sv',av,xv⟩,w.heap.size ≤ k):=hide (by
    intro k hf
    have h0:=uh hH
    have hs:=h0.sz
    simp only [RL.fp,List.mem_cons,List.mem_append,Option.mem_toList] at hf
    rcases hf with rfl | rfl | hf | hf | hf
    ·omega
    ·omega
    ·have:=(h0.rs.lt _ hf).1; omega
    ·have:=(h0.ra.lt _ hf).1; omega
    ·have:=(h0.rx.lt _ hf).1; omega)
   have HBw:=hide ((uh HBR).trans ((below_boxQ wr (.cells #[.pointer (some ⟨P,0,none⟩),.pointer (some ⟨w.heap.size,0,none⟩),.int .i64 0,.int .i64 0] 160)).mono (uh HBR).size))
   have HE : Hid (vv' = vv):=hide (hvv'.trans (uh HVV).symm)
   clear hH HRc HVV HRp HB0 HBR hsv' hvv'
   go_wp2_with fail
   refine (uh HS).mono ?_
   rintro e w5 ⟨rfl,hRc,hSt⟩
   have HR5:=hide hRc
   have HB5:=hide ((uh HBw).trans (hSt.below (uh HBw).size (uh HFp)))
   clear hRc hSt HS HBw
   go_wp2_with fail
   go_ret
   exact ⟨_,rfl,rfl,uh HE,rfl,rfl,rfl,rfl,uh HR5,uh HFp,uh HB5⟩
end
end Go.Proofs.YtciihepbeacppaaGreat
