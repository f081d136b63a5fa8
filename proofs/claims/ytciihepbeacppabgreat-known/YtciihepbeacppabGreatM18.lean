import Derived.Test.YtciihepbeacppabGreatM17
import Derived.Test.YtciihepbeacppabGreatM14
namespace Go.Proofs.YtciihepbeacppabGreat
open Go.RowKit
set_option linter.unusedVariables false
structure Ms (w W : World) (v : Value) (L : List FE) (X : Nat) (p : Pr) : Prop where
 fl : Fl W w.heap.size v L
 bx : Bk W X 103 [.int .i64 (p.k : Int),.int .i64 (p.l : Int),.int .i64 (p.r : Int)]
 nx : ∀ k ∈ flF v L,k ≠ X
 xw : w.heap.size ≤ X
 bw : Below w.heap.size w W
structure FrF (W W' : World) (x : FE) : Prop where
 fm : Fm W' x.A x.f x.av x.ov
 ge : ∀ k ∈ x.bs,W.heap.size ≤ k
 bw : Below W.heap.size W W'
theorem FrF.step {W W' W'' : World} {x x' : FE} (h : FrF W W' x) (hf : Fm W'' x'.A x'.f x'.av x'.ov) (hs : Stp x.bs W' x'.bs W'') : FrF W W'' x' :=
 ⟨hf,fun k hk=>by
  rcases hs.foot k hk with q | q
  ·exact h.ge k q
  ·exact Nat.le_trans h.bw.size q,⟨hs.os.trans h.bw.os,hs.tape.trans h.bw.tape,hs.output.trans h.bw.output,Nat.le_trans h.bw.size hs.size,fun k hk=>(hs.block k (Nat.lt_of_lt_of_le hk h.bw.size) (fun hn=>by have:=h.ge k hn; omega)).trans (h.bw.block k hk)⟩⟩
theorem FrF.below {W W' W'' : World} {x : FE} (h : FrF W W' x) (hb : Below W'.heap.size W' W'') : FrF W W'' x:=⟨h.fm.below hb,h.ge,h.bw.trans (hb.mono h.bw.size)⟩
theorem NewF.frf {W W' : World} {f : CF} {A' : Nat} (h : NewF W f A' W') : ∃ av' ov',FrF W W' ⟨A',f,av',ov'⟩:=by
 obtain ⟨av',ov',h1,h2,h3⟩:=h
 exact ⟨av',ov',h1,h2,h3⟩
theorem Fm.putO {w : World} {A : Nat} {f : CF} {av : Value} {g cap i : Nat} (h : Fm w A f av (.slice (some ⟨g,0,none⟩) f.ow.length cap)) (hi : i < f.ow.length) (r : Nat) :
  Fm (w.setCell ⟨g,i * 3 + 2,none⟩ (.int .i64 (r : Int))) A (setO f i ⟨(owA f i).k,(owA f i).l,r⟩) av (.slice (some ⟨g,0,none⟩) f.ow.length cap) ∧ Stp (bsF A av (.slice (some ⟨g,0,none⟩) f.ow.length cap)) w (bsF A av (.slice (some ⟨g,0,none⟩) f.ow.length cap)) (w.setCell ⟨g,i * 3 + 2,none⟩ (.int .i64 (r : Int))) ∧
  (∃ u,w.cell? ⟨g,i * 3 + 2,none⟩ = some u) ∧ w.frozen? ⟨g,i * 3 + 2,none⟩ = false:=by
 have h1:=(h.is.ow.stored (i * 3 + 2) (.int .i64 (r : Int))).1
 rw [prCells_set2 hi] at h1
 have hs : Stp (Value.slice (some ⟨g,0,none⟩) f.ow.length cap).ownBlock.toList w (Value.slice (some ⟨g,0,none⟩) f.ow.length cap).ownBlock.toList (w.setCell ⟨g,i * 3 + 2,none⟩ (.int .i64 (r : Int))):=(Stp.refl _ _).setCell (p:=⟨g,i * 3 + 2,none⟩) (Or.inl (by simp [Value.ownBlock])) _
 obtain ⟨a1,a2⟩:=h.newRow (ow':=f.ow.set i ⟨(owA f i).k,(owA f i).l,r⟩) (by simp) h1 hs
 obtain ⟨-,-,x2⟩:=own_cells h.is.ow hi
 exact ⟨a1,a2,⟨_,x2⟩,h.is.ow.frozenAt _⟩
section
variable {w W W' : World} {v : Value} {L : List FE} {X : Nat} {p : Pr}
theorem Ms.below (h : Ms w W v L X p) (hb : Below W.heap.size W W') : Ms w W' v L X p:=⟨h.fl.below hb,h.bx.below hb,h.nx,h.xw,h.bw.trans (hb.mono h.bw.size)⟩
theorem Ms.fresh (h : Ms w W v L X p) {x : FE} (hx : ∀ k ∈ x.bs,W.heap.size ≤ k) : ∀ k ∈ x.bs,k ∉ flF v L ∧ k ≠ X ∧ w.heap.size ≤ k:=fun k hk=>by
 have h1:=hx k hk
 exact ⟨fun hn=>by have:=h.fl.lt k hn; omega,fun e=>by have:=h.bx.lt; omega,Nat.le_trans h.bw.size h1⟩
theorem Ms.app {g1 c1 : Nat} {o : Obj} {x : FE} {W1 : World} (h : Ms w W v L X p) (hx : Fm W x.A x.f x.av x.ov) (hd : ∀ k ∈ x.bs,k ∉ flF v L ∧ k ≠ X ∧ w.heap.size ≤ k)
  (hown : W1.ownsRow w.heap.size 66 1 (.slice (some ⟨g1,0,none⟩) (L.length + 1) c1) (L.length + 1) (L.map FE.p ++ [x.p])) (hg : (W.alloc o).grownBy W1 v.ownBlock) (hblk : some g1 = v.ownBlock ∨ g1 = (W.alloc o).heap.size) :
  Ms w W1 (.slice (some ⟨g1,0,none⟩) (L.length + 1) c1) (L ++ [x]) X p:=by
 obtain ⟨a1,a2,a3⟩:=h.fl.app hx (fun k hk=>(hd k hk).2.2) (fun k hk=>(hd k hk).1) h.bw.size hown hg hblk
 have hv : ∀ k ∈ v.ownBlock.toList,k ≠ X ∧ w.heap.size ≤ k:=fun k hk=>⟨h.nx k (List.mem_append_left _ hk),h.fl.geB k (List.mem_append_left _ hk)⟩
 exact ⟨a1,h.bx.stp a2 (fun hn=>(hv X hn).1 rfl),fun k hk e=>by
  rcases a3 k hk with q | q | q
  ·exact h.nx k q e
  ·exact (hd k q).2.1 e
  ·have:=h.bx.lt; omega,h.xw,⟨a2.os.trans h.bw.os,a2.tape.trans h.bw.tape,a2.output.trans h.bw.output,Nat.le_trans h.bw.size a2.size,fun k hk=>(a2.block k (Nat.lt_of_lt_of_le hk h.bw.size) (fun hn=>by have:=(hv k hn).2; omega)).trans (h.bw.block k hk)⟩⟩
set_option maxRecDepth 100000 in
set_option maxHeartbeats 8000000 in
theorem meet_f {A : Nat} {f : CF} {av ov : Value} (h : IsF w A f av ov) (hO : FoOk f) (ha : f.ap.length ≤ 40000) {c i : Nat} (hc : c < 24) (hi : i < f.ow.length) :
  Calls Tryz.prog 202 #[.pointer (some ⟨A,0,none⟩),.int .i64 c,.int .i64 i] w fun e w'=>∃ v L,e = .returned v ∧ Fl w' w.heap.size v L ∧ L.map (·.f) = meF f c i ∧ Below w.heap.size w w':=by
 obtain ⟨i0,hi0,hz0,hz1,hz2⟩:=info_parts Tryz.infoPF
 have hol:=hO.owLen
 obtain ⟨oa,oc,hov,-,-⟩:=own_slc h.ow
 subst hov
 obtain ⟨p,hp⟩ : ∃ p,p = f.ow.getD i pr0:=⟨_,rfl⟩
 obtain ⟨W2,hW2⟩ : ∃ W2,W2 = (w.alloc (.cells #[] 66)).alloc (.cells #[Value.int .i64 p.k,.int .i64 p.l,.int .i64 p.r] 103):=⟨_,rfl⟩
 have hM2 : Ms w W2 (.slice (some ⟨w.heap.size,0,none⟩) 0 0) [] (w.heap.size + 1) p:=by
  have hb1:=below_boxQ w (.cells #[] 66)
  have hb2:=below_boxQ (w.alloc (.cells #[] 66)) (.cells #[Value.int .i64 p.k,.int .i64 p.l,.int .i64 p.r] 103)
  refine ⟨⟨?_,fun x hx=>by simp at hx,fun x hx=>by simp at hx,by simp [flF,Value.ownBlock]⟩,?_,fun k hk=>?_,Nat.le_succ _,?_⟩
  ·rw [hW2]
   exact (World.ownsRow_lit (base:=w.heap.size) (e:=66) (size:=1) w #[] 0 (Nat.le_refl _) (by simp [maxLen]) rfl).alloc _
  ·rw [hW2]
   have:=Bk.new (w.alloc (.cells #[] 66)) 103 [Value.int .i64 p.k,.int .i64 p.l,.int .i64 p.r]
   simpa using this
  ·have e : k = w.heap.size:=by simpa [flF,Value.ownBlock,eq_comm] using hk
   omega
  ·rw [hW2]; exact hb1.trans (hb2.mono hb1.size)
 have h1 : IsF (w.alloc (.cells #[] 66)) A f av (.slice oa f.ow.length oc):=h.below (below_boxQ w _)
 have c6:=h1.c6
 obtain ⟨g,cap,hgv,-,-⟩:=own_formP h1.ow hi
 simp only [Value.slice.injEq,true_and] at hgv
 obtain ⟨rfl,rfl⟩:=hgv
 obtain ⟨x0,x1,x2⟩:=own_cells h1.ow hi
 rw [← hp] at x0 x1 x2
 obtain ⟨X,hX⟩ : ∃ X,X = w.heap.size + 1:=⟨_,rfl⟩
 rw [← hX] at hM2
 have h2:=h.below hM2.bw
 have HDF:=hide (differ_any c p.l h2)
 have hpl:=(hO.ow _ (mem_getD hi))
 rw [← hp] at hpl
 have HP:=hide hp
 have H:=hide h
 have HO:=hide hO
 have HM2:=hide hM2
 have b1:=hM2.bx.cell 1 rfl
 have i1 : (0 : Int) ≤ (i : Int):=by omega
 have i2 : (i : Int) < (f.ow.length : Int):=by omega
 clear h hO h1 h2 hM2 hp
 go_enter Tryz.func202,Tryz.ntmps202
 go_upto_region 3 with fail
 rw [show w.heap.size + 1 = X from hX.symm,← hW2]
 clear hW2 hX x0 x1 x2 c6
 go_wp2_with fail
 refine (uh HDF).mono ?_
 rintro e w3 ⟨rfl,hb3⟩
 have hM3:=(uh HM2).below hb3
 have HDD : Hid (difB f c (owA f i).l = difB f c p.l):=hide (by rw [uh HP]; rfl)
 have HM3:=hide hM3
 clear hM3 hb3 HDF b1
 cases hdf : difB f c p.l
 ·have HDE : Hid (difB f c (owA f i).l = false):=hide ((uh HDD).trans hdf)
  have HI3:=hide ((uh H).below (uh HM3).bw)
  have HCP1:=hide (copy_any (uh HI3) (uh HO).c5 ha (Nat.le_trans hol (by omega)))
  clear hdf
  go_wp2_with fail
  refine (uh HCP1).mono ?_
  rintro e w4 ⟨A4,rfl,hN4⟩
  obtain ⟨av4,ov4,hf4⟩:=hN4.frf
  have b1:=((uh HM3).below hf4.bw).bx.cell 1 rfl
  have HJO:=hide (fjoin_any hf4.fm (Nat.le_trans ha (by omega)) (Nat.le_trans hol (by omega)) p.l c)
  have HF4:=hide hf4
  clear hN4 hf4 HCP1
  go_wp2_with fail
  refine (uh HJO).mono ?_
  rintro e w5 ⟨rfl,hF5,hS5⟩
  have hf5:=(uh HF4).step (x':=⟨A4,meF1 f c i,av4,ov4⟩) (by
   have e9 : meF1 f c i = joF f p.l c:=by rw [uh HP]; rfl
   rw [e9]; exact hF5) hS5
  have hM5:=(uh HM3).below hf5.bw
  have hfr:=(uh HM3).fresh hf5.ge
  have HR5:=hide hM5.fl.row
  have HM5:=hide hM5
  have HF5:=hide hf5.fm
  have HFR5:=hide hfr
  have hsz5:=hM5.bw.size
  clear hF5 hS5 hf5 hM5 hfr HJO b1
  go_wp2_with (at_builtin; refine wpList_app1 _ rfl (.tmp 32) (.tmp 34) 162 rfl w.heap.size 66 i0 _ 1 8 Tryz.underlying162 hi0 hz0 hz1 hz2 rfl (by decide) _ 0 [] rfl ((uh HR5).alloc _) ⟨_,0,none⟩ 1 [.pointer (some ⟨A4,0,none⟩)] rfl rfl (new_cells _ _ (by simp) [.pointer (some ⟨A4,0,none⟩)] _) (by intro u hu; simp only [List.mem_singleton] at hu; subst hu; rfl) (by omega) (by omega) (by simp; omega) ?_)
  intro g6 cap6 w6 hown6 hgrow6 hblk6
  have HM6:=hide ((uh HM5).app (uh HF5) (uh HFR5) hown6 hgrow6 (by simpa using hblk6))
  rw [List.nil_append,show ([] : List FE).length + 1 = 1 from rfl] at HM6
  clear hown6 hgrow6 hblk6 HR5 HM5
  have b0:=(uh HM6).bx.cell 0 rfl
  have HI6:=hide ((uh H).below (uh HM6).bw)
  by_cases hk4 : p.k = 4
  ·have d4 : ((p.k : Int) == 4) = true:=by simp [hk4]
   have HCP:=hide (copy_any (uh HI6) (uh HO).c5 ha (Nat.le_trans hol (by omega)))
   have HE4 : Hid (meF f c i = [meF1 f c i] ++ [meF2 f c i]):=hide (by unfold meF; rw [if_neg (by rw [uh HDE]; decide),if_pos (show (owA f i).k = 4 by show (f.ow.getD i pr0).k = 4; rw [← uh HP]; exact hk4)])
   clear hk4
   go_wp2_with fail
   refine (uh HCP).mono ?_
   rintro e w7 ⟨A7,rfl,hN7⟩
   obtain ⟨av7,ov7,hf7⟩:=hN7.frf
   have hM7:=(uh HM6).below hf7.bw
   have hi7 : i < f.ow.length:=by omega
   obtain ⟨g7,cap7,hgv7,-,-⟩:=own_formP hf7.fm.is.ow hi7
   have hgv7' : ov7 = .slice (some ⟨g7,0,none⟩) f.ow.length cap7:=hgv7
   subst hgv7'
   have e6:=hf7.fm.is.c6
   obtain ⟨hF8,hS8,⟨u8,e8⟩,z8⟩:=Fm.putO hf7.fm hi7 c
   obtain ⟨w8,hw8⟩ : ∃ w8,w8 = w7.setCell ⟨g7,i * 3 + 2,none⟩ (.int .i64 (c : Int)):=⟨_,rfl⟩
   rw [← hw8] at hF8 hS8
   have hf8:=hf7.step (x':=⟨A7,setO f i ⟨(owA f i).k,(owA f i).l,c⟩,av7,.slice (some ⟨g7,0,none⟩) f.ow.length cap7⟩) hF8 hS8
   have b2:=((uh HM6).below hf8.bw).bx.cell 2 rfl
   have HLY:=hide (lay_any hf8.fm 4 c p.r (by
    show (f.ow.set i _).length ≤ 100000
    rw [List.length_set]
    exact Nat.le_trans hol (by omega)))
   have HF8:=hide hf8
   clear hN7 hf7 hM7 hgv7 hF8 hS8 hf8 HCP
   go_upto_region 10 with fail
   rw [← hw8]
   clear hw8 e6 e8 z8 u8
   go_wp2_with fail
   refine (uh HLY).mono ?_
   rintro e w9 ⟨rfl,ov9,hF9,hS9⟩
   have hf9:=(uh HF8).step (x':=⟨A7,meF2 f c i,av7,ov9⟩) (by
    have e9 : meF2 f c i = { setO f i ⟨(owA f i).k,(owA f i).l,c⟩ with ow:=(setO f i ⟨(owA f i).k,(owA f i).l,c⟩).ow ++ [⟨4,c,p.r⟩] }:=by rw [uh HP]; rfl
    rw [e9]; exact hF9) hS9
   have hM9:=(uh HM6).below hf9.bw
   have hfr:=(uh HM6).fresh hf9.ge
   have HR9:=hide hM9.fl.row
   have HM9:=hide hM9
   have HF9:=hide hf9.fm
   have HFR:=hide hfr
   have hsz:=hM9.bw.size
   clear hF9 hS9 hf9 hM9 hfr HLY
   go_wp2_with (at_builtin; refine wpList_app1 _ rfl (.tmp 54) (.tmp 56) 162 rfl w.heap.size 66 i0 _ 1 8 Tryz.underlying162 hi0 hz0 hz1 hz2 rfl (by decide) _ [(⟨A4,meF1 f c i,av4,ov4⟩ : FE)].length ([(⟨A4,meF1 f c i,av4,ov4⟩ : FE)].map FE.p) rfl ((uh HR9).alloc _) ⟨_,0,none⟩ 1 [.pointer (some ⟨A7,0,none⟩)] rfl rfl (new_cells _ _ (by simp) [.pointer (some ⟨A7,0,none⟩)] _) (by intro u hu; simp only [List.mem_singleton] at hu; subst hu; rfl) (by simp) (by omega) (by simp; omega) ?_)
   intro g1 cap1 wa hown1 hgrow1 hblk1
   have HMA:=hide ((uh HM9).app (uh HF9) (uh HFR) hown1 hgrow1 (by simpa using hblk1))
   clear hown1 hgrow1 hblk1
   go_wp2_with fail
   go_ret
   exact ⟨_,_,rfl,(uh HMA).fl,by rw [uh HE4]; rfl,(uh HMA).bw⟩
  ·have d4 : ((p.k : Int) == 4) = false:=by simp; omega
   have HE4 : Hid (meF f c i = [meF1 f c i]):=hide (by unfold meF; rw [if_neg (by rw [uh HDE]; decide),if_neg (show ¬ ((owA f i).k = 4) by show ¬ ((f.ow.getD i pr0).k = 4); rw [← uh HP]; exact hk4),List.append_nil])
   clear hk4
   go_wp2_with fail
   go_ret
   exact ⟨_,_,rfl,(uh HM6).fl,by rw [uh HE4]; rfl,(uh HM6).bw⟩
 ·have HDE : Hid (difB f c (owA f i).l = true):=hide ((uh HDD).trans hdf)
  clear hdf
  have b0:=(uh HM3).bx.cell 0 rfl
  have HI3:=hide ((uh H).below (uh HM3).bw)
  by_cases hk4 : p.k = 4
  ·have d4 : ((p.k : Int) == 4) = true:=by simp [hk4]
   have HCP:=hide (copy_any (uh HI3) (uh HO).c5 ha (Nat.le_trans hol (by omega)))
   have HE4 : Hid (meF f c i = ([] : List CF) ++ [meF2 f c i]):=hide (by unfold meF; rw [if_pos (uh HDE),if_pos (show (owA f i).k = 4 by show (f.ow.getD i pr0).k = 4; rw [← uh HP]; exact hk4)])
   clear hk4
   go_wp2_with fail
   refine (uh HCP).mono ?_
   rintro e w7 ⟨A7,rfl,hN7⟩
   obtain ⟨av7,ov7,hf7⟩:=hN7.frf
   have hM7:=(uh HM3).below hf7.bw
   have hi7 : i < f.ow.length:=by omega
   obtain ⟨g7,cap7,hgv7,-,-⟩:=own_formP hf7.fm.is.ow hi7
   have hgv7' : ov7 = .slice (some ⟨g7,0,none⟩) f.ow.length cap7:=hgv7
   subst hgv7'
   have e6:=hf7.fm.is.c6
   obtain ⟨hF8,hS8,⟨u8,e8⟩,z8⟩:=Fm.putO hf7.fm hi7 c
   obtain ⟨w8,hw8⟩ : ∃ w8,w8 = w7.setCell ⟨g7,i * 3 + 2,none⟩ (.int .i64 (c : Int)):=⟨_,rfl⟩
   rw [← hw8] at hF8 hS8
   have hf8:=hf7.step (x':=⟨A7,setO f i ⟨(owA f i).k,(owA f i).l,c⟩,av7,.slice (some ⟨g7,0,none⟩) f.ow.length cap7⟩) hF8 hS8
   have b2:=((uh HM3).below hf8.bw).bx.cell 2 rfl
   have HLY:=hide (lay_any hf8.fm 4 c p.r (by
    show (f.ow.set i _).length ≤ 100000
    rw [List.length_set]
    exact Nat.le_trans hol (by omega)))
   have HF8:=hide hf8
   clear hN7 hf7 hM7 hgv7 hF8 hS8 hf8 HCP
   go_upto_region 10 with fail
   rw [← hw8]
   clear hw8 e6 e8 z8 u8
   go_wp2_with fail
   refine (uh HLY).mono ?_
   rintro e w9 ⟨rfl,ov9,hF9,hS9⟩
   have hf9:=(uh HF8).step (x':=⟨A7,meF2 f c i,av7,ov9⟩) (by
    have e9 : meF2 f c i = { setO f i ⟨(owA f i).k,(owA f i).l,c⟩ with ow:=(setO f i ⟨(owA f i).k,(owA f i).l,c⟩).ow ++ [⟨4,c,p.r⟩] }:=by rw [uh HP]; rfl
    rw [e9]; exact hF9) hS9
   have hM9:=(uh HM3).below hf9.bw
   have hfr:=(uh HM3).fresh hf9.ge
   have HR9:=hide hM9.fl.row
   have HM9:=hide hM9
   have HF9:=hide hf9.fm
   have HFR:=hide hfr
   have hsz:=hM9.bw.size
   clear hF9 hS9 hf9 hM9 hfr HLY
   go_wp2_with (at_builtin; refine wpList_app1 _ rfl (.tmp 54) (.tmp 56) 162 rfl w.heap.size 66 i0 _ 1 8 Tryz.underlying162 hi0 hz0 hz1 hz2 rfl (by decide) _ ([] : List FE).length (([] : List FE).map FE.p) rfl ((uh HR9).alloc _) ⟨_,0,none⟩ 1 [.pointer (some ⟨A7,0,none⟩)] rfl rfl (new_cells _ _ (by simp) [.pointer (some ⟨A7,0,none⟩)] _) (by intro u hu; simp only [List.mem_singleton] at hu; subst hu; rfl) (by simp) (by omega) (by simp; omega) ?_)
   intro g1 cap1 wa hown1 hgrow1 hblk1
   have HMA:=hide ((uh HM9).app (uh HF9) (uh HFR) hown1 hgrow1 (by simpa using hblk1))
   clear hown1 hgrow1 hblk1
   go_wp2_with fail
   go_ret
   exact ⟨_,_,rfl,(uh HMA).fl,by rw [uh HE4]; rfl,(uh HMA).bw⟩
  ·have d4 : ((p.k : Int) == 4) = false:=by simp; omega
   have HE4 : Hid (meF f c i = ([] : List CF)):=hide (by unfold meF; rw [if_pos (uh HDE),if_neg (show ¬ ((owA f i).k = 4) by show ¬ ((f.ow.getD i pr0).k = 4); rw [← uh HP]; exact hk4),List.append_nil])
   clear hk4
   go_wp2_with fail
   go_ret
   exact ⟨_,_,rfl,(uh HM3).fl,by rw [uh HE4]; rfl,(uh HM3).bw⟩
end
theorem foS1_ok {f : CF} (h : FoOk f) (k : Nat) : FoOk (foS1 f k) ∧ (foS1 f k).ap = f.ap:=by
 refine ⟨FoOk.mk' h.c5 h.cl' ?_ h.ap ?_ h.kd,rfl⟩
 ·intro p hp
  obtain ⟨q,hq,rfl⟩:=List.mem_map.1 ((tkO_sub _ k).subset hp)
  unfold fo1
  split
  ·exact ⟨(h.ow q hq).1,(h.oA k).2⟩
  ·exact h.ow q hq
 ·have hl:=h.lf
  unfold LfN at hl ⊢
  refine List.Nodup.sublist ((tkO_sub _ k).map _) ?_
  rw [List.map_map]
  have e : ((fun x : Pr=>x.l) ∘ fo1 (f.ow.getD k pr0).l (f.ow.getD k pr0).r) = (fun x : Pr=>x.l):=by
   funext x
   simp only [Function.comp,fo1]
   split <;> rfl
  rw [e]
  exact hl
theorem foldN_ok : ∀ (n : Nat) {f : CF},FoOk f → FoOk (foldN n f) ∧ (foldN n f).ap = f.ap
 | 0,_,h=>⟨h,rfl⟩
 | n + 1,f,h=>by
  unfold foldN
  split
  ·exact ⟨h,rfl⟩
  ·rename_i k _
   obtain ⟨h1,h2⟩:=foS1_ok h k
   obtain ⟨g1,g2⟩:=foldN_ok n h1
   exact ⟨g1,g2.trans h2⟩
theorem layN_td {c : Cd} {n : Nat} {f : CF} (h : Td f) : Td (layN c n f):=by
 unfold layN
 split
 ·exact (foldN_ok _ h.ok).1.tidy
 ·exact h
def InS (s : Sr) : Prop:=∀ l ∈ s.kn,∀ e ∈ l,Td e.f
theorem InS.at {s : Sr} (h : InS s) (n : Nat) : ∀ e ∈ knA s n,Td e.f:=by
 unfold knA
 intro e he
 by_cases hn : n < s.kn.length
 ·rw [List.getD_eq_getElem?_getD,List.getElem?_eq_getElem hn] at he
  exact h _ (List.getElem_mem hn) e he
 ·rw [List.getD_eq_getElem?_getD,List.getElem?_eq_none (by omega)] at he
  simp at he
theorem wiO_td {f : CF} (h : FoOk f) : Td (wiO f) :=
 FoOk.tidy (FoOk.mk' h.c5 h.cl' (fun p hp=>h.ow p (List.mem_filter.1 hp).1) h.ap (h.lf.sublist (List.filter_sublist.map _)) h.kd)
def CsOk (cs : List CF) : Prop:=∀ f ∈ cs,Td f
theorem meF_fok {f : CF} (h : FoOk f) {a i : Nat} (ha : a < 24) (hb : bgn f.ow a = none) : ∀ g ∈ meF f a i,FoOk g:=by
 intro g hg
 unfold meF at hg
 rcases List.mem_append.1 hg with hg | hg
 ·split at hg
  ·simp at hg
  ·rename_i hd
   rw [List.mem_singleton] at hg
   subst hg
   exact h.m1 (by simpa using hd)
 ·split at hg
  ·rw [List.mem_singleton] at hg
   subst hg
   exact h.m2 ha hb
  ·simp at hg
theorem fnG_ok {c : Cd} {r : List CF × Sr} {g : CF} (hr : CsOk r.1) (hg : FoOk g) : CsOk (fnG c r g).1 ∧ (fnG c r g).2.kn = r.2.kn ∧ (fnG c r g).2.wr = r.2.wr:=by
 unfold fnG
 split
 ·refine ⟨fun f hf=>?_,rfl,rfl⟩
  rcases List.mem_append.1 hf with hf | hf
  ·exact hr f hf
  ·rw [List.mem_singleton] at hf; subst hf; exact hg.tidy
 ·exact ⟨hr,rfl,rfl⟩
theorem fnGF_ok {c : Cd} : ∀ (l : List CF) {r : List CF × Sr},CsOk r.1 → (∀ g ∈ l,FoOk g) → CsOk (l.foldl (fnG c) r).1 ∧ (l.foldl (fnG c) r).2.kn = r.2.kn ∧ (l.foldl (fnG c) r).2.wr = r.2.wr
 | [],r,hr,_=>⟨hr,rfl,rfl⟩
 | g :: l,r,hr,hl=>by
  obtain ⟨h1,h2,h3⟩:=fnG_ok (c:=c) hr (hl g (by simp))
  obtain ⟨g1,g2,g3⟩:=fnGF_ok l h1 (fun x hx=>hl x (by simp [hx]))
  exact ⟨g1,g2.trans h2,g3.trans h3⟩
theorem fnS_ok {c : Cd} {f : CF} {i a : Nat} {r : List CF × Sr} (ha : a < 24) (hf : FoOk f) (hr : CsOk r.1) : CsOk (fnS c f i r a).1 ∧ (fnS c f i r a).2.kn = r.2.kn ∧ (fnS c f i r a).2.wr = r.2.wr:=by
 unfold fnS
 split
 ·rename_i h
  unfold fnA at h
  simp only [Bool.and_eq_true,Bool.not_eq_true'] at h
  refine fnGF_ok _ hr (meF_fok hf ha ?_)
  have:=h.2
  cases hb : bgn f.ow a with
  | none=>rfl
  | some j=>rw [hb] at this; simp at this
 ·exact ⟨hr,rfl,rfl⟩
theorem fnSF_ok {c : Cd} {f : CF} {i : Nat} (hf : FoOk f) : ∀ (l : List Nat) {r : List CF × Sr},(∀ a ∈ l,a < 24) → CsOk r.1 → CsOk (l.foldl (fnS c f i) r).1 ∧ (l.foldl (fnS c f i) r).2.kn = r.2.kn ∧ (l.foldl (fnS c f i) r).2.wr = r.2.wr
 | [],r,_,hr=>⟨hr,rfl,rfl⟩
 | a :: l,r,hl,hr=>by
  obtain ⟨h1,h2,h3⟩:=fnS_ok (c:=c) (i:=i) (hl a (by simp)) hf hr
  obtain ⟨g1,g2,g3⟩:=fnSF_ok hf l (fun x hx=>hl x (by simp [hx])) h1
  exact ⟨g1,g2.trans h2,g3.trans h3⟩
theorem fndF_ok {c : Cd} {f : CF} (hf : FoOk f) {r : List CF × Sr} (i : Nat) (hr : CsOk r.1) : CsOk (fndF c f r i).1 ∧ (fndF c f r i).2.kn = r.2.kn ∧ (fndF c f r i).2.wr = r.2.wr:=fnSF_ok hf _ (fun a ha=>List.mem_range.1 ha) hr
theorem fndFF_ok {c : Cd} {f : CF} (hf : FoOk f) : ∀ (l : List Nat) {r : List CF × Sr},CsOk r.1 → CsOk (l.foldl (fndF c f) r).1 ∧ (l.foldl (fndF c f) r).2.kn = r.2.kn ∧ (l.foldl (fndF c f) r).2.wr = r.2.wr
 | [],r,hr=>⟨hr,rfl,rfl⟩
 | i :: l,r,hr=>by
  obtain ⟨h1,h2,h3⟩:=fndF_ok (c:=c) hf i hr
  obtain ⟨g1,g2,g3⟩:=fndFF_ok hf l h1
  exact ⟨g1,g2.trans h2,g3.trans h3⟩
theorem fgS_ok {c : Cd} {g : CF} (hg : Td g) {r : List CF × Sr} {res : List CF} (hr : CsOk r.1) (hs : CsOk res) : CsOk (fgS c g r res).1 ∧ CsOk (fgS c g r res).2.1 ∧ (fgS c g r res).2.2.kn = r.2.kn ∧ (fgS c g r res).2.2.wr = r.2.wr:=by
 have app : ∀ {x : CF},Td x → CsOk (res ++ [x]):=fun hx f hf=>by
  rcases List.mem_append.1 hf with hf | hf
  ·exact hs f hf
  ·rw [List.mem_singleton] at hf; subst hf; exact hx
 unfold fgS
 split
 ·exact ⟨app hg,hr,rfl,rfl⟩
 ·exact ⟨app (wiO_td hg.ok),fndFF_ok hg.ok _ hr⟩
theorem fgN_ok {c : Cd} : ∀ (n k : Nat) {res : List CF} {r : List CF × Sr},CsOk r.1 → CsOk res → CsOk (fgN c n k res r).1 ∧ (fgN c n k res r).2.kn = r.2.kn ∧ (fgN c n k res r).2.wr = r.2.wr
 | 0,k,res,r,_,hs=>⟨hs,rfl,rfl⟩
 | n + 1,k,res,r,hr,hs=>by
  unfold fgN
  split
  ·rename_i h
   have hg : Td (r.1.getD k ⟨[],[],[]⟩):=by
    rw [List.getD_eq_getElem?_getD,List.getElem?_eq_getElem h.1]
    exact hr _ (List.getElem_mem h.1)
   obtain ⟨h1,h2,h3,h4⟩:=fgS_ok (c:=c) hg hr hs
   obtain ⟨g1,g2,g3⟩:=fgN_ok (c:=c) n (k + 1) h2 h1
   exact ⟨g1,g2.trans h3,g3.trans h4⟩
  ·exact ⟨hs,rfl,rfl⟩
theorem wrI_kn (b : Bool) (n k : Nat) (s : Sr) : (wrI b n k s).kn = s.kn:=by unfold wrI; split <;> rfl
theorem meF_len (f : CF) (a i : Nat) : (meF f a i).length ≤ 2:=by unfold meF; split <;> split <;> simp
theorem loL_len {f : CF} (h : FoOk f) : (loL f).length ≤ 24:=by
 have h1:=List.length_filter_le (fun i=>!decide ((owA f i).l ∈ rcL f)) (List.range f.ow.length)
 rw [List.length_range] at h1
 exact Nat.le_trans h1 h.owLen
theorem fiF_len (f : CF) (c : Nat) : (fiF f c).1.length ≤ 2:=by
 unfold fiF
 split
 ·simp
 ·unfold fiI
  split
  ·simp
  ·split <;> simp
theorem foldl_len {α β : Type} {d : Nat} (g : List α × Bool → β → List α × Bool) : ∀ (l : List β) (r : List α × Bool),(∀ b ∈ l,∀ r,(g r b).1.length ≤ r.1.length + d) → (l.foldl g r).1.length ≤ r.1.length + d * l.length
 | [],r,_=>by simp
 | b :: l,r,hg=>by
  have h1:=foldl_len g l (g r b) (fun b' hb'=>hg b' (by simp [hb']))
  have h2:=hg b (by simp) r
  rw [List.foldl_cons,List.length_cons,Nat.mul_succ]
  omega
theorem opF_len {f : CF} (h : FoOk f) (v : Nat) : (opF f v).1.length ≤ 96:=by
 unfold opF
 split
 ·simp
 ·split
  ·exact Nat.le_trans (fiF_len _ _) (by omega)
  ·have h1:=foldl_len (d:=4) (fun r i=>opG f v i r) (List.range f.ow.length) (([] : List CF),false) (fun i _ r=>by
    have h2:=foldl_len (d:=2) (fun r g=>fiA r g (g.cl.getD (1 + v) 0)) (meF f (f.cl.getD (1 + v) 0) i) r (fun g _ r=>by
     unfold fiA
     have:=fiF_len g (g.cl.getD (1 + v) 0)
     rw [List.length_append]
     omega)
    have h3:=meF_len f (f.cl.getD (1 + v) 0) i
    exact Nat.le_trans h2 (by omega))
   rw [List.length_range] at h1
   have:=h.owLen
   simp only [List.length_nil] at h1
   exact Nat.le_trans h1 (by omega)
theorem mxP_lt : ∀ (l : List Pr) {m K : Nat},m < K → (∀ p ∈ l,p.l < K ∧ p.r < K) → mxP m l < K
 | [],_,_,h,_=>h
 | p :: r,m,K,h,hl=>by
  have:=hl p (by simp)
  exact mxP_lt r (m:=max (max m p.l) p.r) (by omega) (fun q hq=>hl q (by simp [hq]))
theorem nam_le {f : CF} {K : Nat} (hK : 0 < K) (h1 : ∀ c ∈ clL f,c < K) (h2 : ∀ p ∈ f.ow,p.l < K ∧ p.r < K) (h3 : ∀ p ∈ f.ap,p.l < K ∧ p.r < K) : namF f ≤ K:=by
 unfold namF
 have h0 : mxC f < K:=by
  have a0:=h1 _ (clL_get (f:=f) (i:=0) (by omega))
  have a1:=h1 _ (clL_get (f:=f) (i:=1) (by omega))
  have a2:=h1 _ (clL_get (f:=f) (i:=2) (by omega))
  have a3:=h1 _ (clL_get (f:=f) (i:=3) (by omega))
  have a4:=h1 _ (clL_get (f:=f) (i:=4) (by omega))
  unfold mxC
  omega
 have:=mxP_lt f.ap (mxP_lt f.ow h0 h2) h3
 omega
def K3 (f : CF) : Prop:=∀ p ∈ f.ow,p.k = 3
theorem ow_parL : ∀ (l : List Pr) {g : CF} {c : Nat},(l.foldl (fun h p=>parF h c p.l) g).ow = g.ow
 | [],_,_=>rfl
 | p :: r,g,c=>ow_parL r (g:=parF g c p.l)
structure Fs (B : Nat) (F0 : List Nat) (w W : World) (O : Nat) (cs : List Value) (A : Nat) (f : CF) (av ov : Value) (X : Nat) (p : Pr) (v : Value) (L : List FE) : Prop where
 fl : Fl W B v L
 bo : Bk W O 210 cs
 ff : IsF W A f av ov
 bx : Bk W X 103 [.int .i64 (p.k : Int),.int .i64 (p.l : Int),.int .i64 (p.r : Int)]
 no : ∀ k ∈ flF v L,k ≠ O ∧ k ≠ X ∧ k ∉ bsF A av ov
 ox : O ≠ X
 of : O ∉ bsF A av ov
 st : Stp F0 w (O :: flF v L) W
 bb : B ≤ W.heap.size
section
variable {B : Nat} {F0 : List Nat} {w W W' : World} {O A X : Nat} {cs : List Value} {f : CF} {av ov : Value} {p : Pr} {v : Value} {L : List FE}
theorem Fs.below (h : Fs B F0 w W O cs A f av ov X p v L) (hb : Below W.heap.size W W') : Fs B F0 w W' O cs A f av ov X p v L :=
 ⟨h.fl.below hb,h.bo.below hb,h.ff.below hb,h.bx.below hb,h.no,h.ox,h.of,⟨hb.os.trans h.st.os,hb.tape.trans h.st.tape,hb.output.trans h.st.output,Nat.le_trans h.st.size hb.size,fun k hk hn=>(hb.block k (Nat.lt_of_lt_of_le hk h.st.size)).trans (h.st.block k hk hn),h.st.foot⟩,Nat.le_trans h.bb hb.size⟩
theorem Fs.fresh (h : Fs B F0 w W O cs A f av ov X p v L) {x : FE} (hx : ∀ k ∈ x.bs,W.heap.size ≤ k) : ∀ k ∈ x.bs,k ∉ flF v L ∧ k ≠ O ∧ k ≠ X ∧ k ∉ bsF A av ov ∧ w.heap.size ≤ k ∧ B ≤ k:=fun k hk=>by
 have h1:=hx k hk
 have:=h.bb
 exact ⟨fun hn=>by have:=h.fl.lt k hn; omega,fun e=>by have:=h.bo.lt; omega,fun e=>by have:=h.bx.lt; omega,fun hn=>by have:=h.ff.lt k hn; omega,Nat.le_trans h.st.size h1,by omega⟩
theorem Fs.app {g1 c1 : Nat} {o : Obj} {x : FE} {W1 : World} (h : Fs B F0 w W O cs A f av ov X p v L) (hx : Fm W x.A x.f x.av x.ov) (hd : ∀ k ∈ x.bs,k ∉ flF v L ∧ k ≠ O ∧ k ≠ X ∧ k ∉ bsF A av ov ∧ w.heap.size ≤ k ∧ B ≤ k)
  (hown : W1.ownsRow B 66 1 (.slice (some ⟨g1,0,none⟩) (L.length + 1) c1) (L.length + 1) (L.map FE.p ++ [x.p])) (hg : (W.alloc o).grownBy W1 v.ownBlock) (hblk : some g1 = v.ownBlock ∨ g1 = (W.alloc o).heap.size) :
  Fs B F0 w W1 O cs A f av ov X p (.slice (some ⟨g1,0,none⟩) (L.length + 1) c1) (L ++ [x]):=by
 obtain ⟨a1,a2,a3⟩:=h.fl.app hx (fun k hk=>(hd k hk).2.2.2.2.2) (fun k hk=>(hd k hk).1) h.bb hown hg hblk
 have hv : ∀ k ∈ v.ownBlock.toList,k ∈ flF v L:=fun k hk=>List.mem_append_left _ hk
 refine ⟨a1,h.bo.stp a2 (fun hn=>(h.no O (hv O hn)).1 rfl),h.ff.of_eq (fun k hk=>a2.block k (h.ff.lt k hk) (fun hn=>(h.no k (hv k hn)).2.2 hk)),h.bx.stp a2 (fun hn=>(h.no X (hv X hn)).2.1 rfl),fun k hk=>?_,h.ox,h.of,?_,Nat.le_trans h.bb a2.size⟩
 ·rcases a3 k hk with q | q | q
  ·exact h.no k q
  ·exact ⟨(hd k q).2.1,(hd k q).2.2.1,(hd k q).2.2.2.1⟩
  ·exact ⟨fun e=>by have:=h.bo.lt; omega,fun e=>by have:=h.bx.lt; omega,fun hn=>by have:=h.ff.lt k hn; omega⟩
 ·have h2:=h.st
  refine ⟨a2.os.trans h2.os,a2.tape.trans h2.tape,a2.output.trans h2.output,Nat.le_trans h2.size a2.size,fun k hk hn=>?_,fun k hk=>?_⟩
  ·rw [a2.block k (Nat.lt_of_lt_of_le hk h2.size) (fun hm=>?_)]
   ·exact h2.block k hk hn
   ·rcases h2.foot k (List.mem_cons_of_mem _ (hv k hm)) with q | q
    ·exact hn q
    ·omega
  ·rcases List.mem_cons.1 hk with rfl | hk
   ·exact h2.foot k (by simp)
   ·rcases a3 k hk with q | q | q
    ·exact h2.foot k (List.mem_cons_of_mem _ q)
    ·exact Or.inr (hd k q).2.2.2.2.1
    ·exact Or.inr (Nat.le_trans h2.size q)
theorem Fs.fin {g1 c1 : Nat} {o : Obj} {x : FE} {W1 : World} (h : Fs B F0 w W O cs A f av ov X p v L) (hx : Fm W x.A x.f x.av x.ov) (hd : ∀ k ∈ x.bs,k ∉ flF v L ∧ k ≠ O ∧ (k ∈ F0 ∨ w.heap.size ≤ k) ∧ B ≤ k)
  (hown : W1.ownsRow B 66 1 (.slice (some ⟨g1,0,none⟩) (L.length + 1) c1) (L.length + 1) (L.map FE.p ++ [x.p])) (hg : (W.alloc o).grownBy W1 v.ownBlock) (hblk : some g1 = v.ownBlock ∨ g1 = (W.alloc o).heap.size) :
  Fl W1 B (.slice (some ⟨g1,0,none⟩) (L.length + 1) c1) (L ++ [x]) ∧ Bk W1 O 210 cs ∧ Stp F0 w (O :: flF (.slice (some ⟨g1,0,none⟩) (L.length + 1) c1) (L ++ [x])) W1:=by
 obtain ⟨a1,a2,a3⟩:=h.fl.app hx (fun k hk=>(hd k hk).2.2.2) (fun k hk=>(hd k hk).1) h.bb hown hg hblk
 have hv : ∀ k ∈ v.ownBlock.toList,k ∈ flF v L:=fun k hk=>List.mem_append_left _ hk
 refine ⟨a1,h.bo.stp a2 (fun hn=>(h.no O (hv O hn)).1 rfl),?_⟩
 have h2:=h.st
 refine ⟨a2.os.trans h2.os,a2.tape.trans h2.tape,a2.output.trans h2.output,Nat.le_trans h2.size a2.size,fun k hk hn=>?_,fun k hk=>?_⟩
 ·rw [a2.block k (Nat.lt_of_lt_of_le hk h2.size) (fun hm=>?_)]
  ·exact h2.block k hk hn
  ·rcases h2.foot k (List.mem_cons_of_mem _ (hv k hm)) with q | q
   ·exact hn q
   ·omega
 ·rcases List.mem_cons.1 hk with rfl | hk
  ·exact h2.foot k (by simp)
  ·rcases a3 k hk with q | q | q
   ·exact h2.foot k (List.mem_cons_of_mem _ q)
   ·exact (hd k q).2.2.1
   ·exact Or.inr (Nat.le_trans h2.size q)
theorem Fs.flag (h : Fs B F0 w W O cs A f av ov X p v L) (j : Nat) (u : Value) (hO : O ∈ F0) : Fs B F0 w (W.setCell ⟨O,j,none⟩ u) O (cs.set j u) A f av ov X p v L :=
 ⟨h.fl.of_eq (fun k hk=>Below.heap_setCell _ _ _ _ (h.no k hk).1),h.bo.set j u,h.ff.of_eq (fun k hk=>Below.heap_setCell _ _ _ _ (fun e=>h.of (by have e' : k = O:=e; rw [← e']; exact hk))),h.bx.setO (p:=⟨O,j,none⟩) h.ox u,h.no,h.ox,h.of,h.st.setCell (p:=⟨O,j,none⟩) (Or.inl hO) u,by simpa using h.bb⟩
end
theorem Fm.putW {w : World} {A : Nat} {f : CF} {av : Value} {g cap i : Nat} (h : Fm w A f av (.slice (some ⟨g,0,none⟩) f.ow.length cap)) (hi : i < f.ow.length) (q : Pr) :
  Fm (((w.setCell ⟨g,i * 3,none⟩ (.int .i64 (q.k : Int))).setCell ⟨g,i * 3 + 1,none⟩ (.int .i64 (q.l : Int))).setCell ⟨g,i * 3 + 2,none⟩ (.int .i64 (q.r : Int))) A (setO f i q) av (.slice (some ⟨g,0,none⟩) f.ow.length cap) ∧ Stp (bsF A av (.slice (some ⟨g,0,none⟩) f.ow.length cap)) w (bsF A av (.slice (some ⟨g,0,none⟩) f.ow.length cap)) (((w.setCell ⟨g,i * 3,none⟩ (.int .i64 (q.k : Int))).setCell ⟨g,i * 3 + 1,none⟩ (.int .i64 (q.l : Int))).setCell ⟨g,i * 3 + 2,none⟩ (.int .i64 (q.r : Int))):=by
 obtain ⟨r3,-,-⟩:=put3 h.is.ow rfl hi q
 have hs : Stp (Value.slice (some ⟨g,0,none⟩) f.ow.length cap).ownBlock.toList w (Value.slice (some ⟨g,0,none⟩) f.ow.length cap).ownBlock.toList (((w.setCell ⟨g,i * 3,none⟩ (.int .i64 (q.k : Int))).setCell ⟨g,i * 3 + 1,none⟩ (.int .i64 (q.l : Int))).setCell ⟨g,i * 3 + 2,none⟩ (.int .i64 (q.r : Int))):=(((Stp.refl _ _).setCell (p:=⟨g,i * 3,none⟩) (Or.inl (by simp [Value.ownBlock])) _).setCell (p:=⟨g,i * 3 + 1,none⟩) (Or.inl (by simp [Value.ownBlock])) _).setCell (p:=⟨g,i * 3 + 2,none⟩) (Or.inl (by simp [Value.ownBlock])) _
 exact h.newRow (ow':=f.ow.set i q) (by simp) r3 hs
theorem Fm.putK {w : World} {A : Nat} {f : CF} {av : Value} {g cap i : Nat} (h : Fm w A f av (.slice (some ⟨g,0,none⟩) f.ow.length cap)) (hi : i < f.ow.length) (k : Nat) :
  Fm (w.setCell ⟨g,i * 3,none⟩ (.int .i64 (k : Int))) A (setO f i ⟨k,(owA f i).l,(owA f i).r⟩) av (.slice (some ⟨g,0,none⟩) f.ow.length cap) ∧ Stp (bsF A av (.slice (some ⟨g,0,none⟩) f.ow.length cap)) w (bsF A av (.slice (some ⟨g,0,none⟩) f.ow.length cap)) (w.setCell ⟨g,i * 3,none⟩ (.int .i64 (k : Int))):=by
 have h1:=(h.is.ow.stored (i * 3) (.int .i64 (k : Int))).1
 rw [prCells_set0 hi] at h1
 have hs : Stp (Value.slice (some ⟨g,0,none⟩) f.ow.length cap).ownBlock.toList w (Value.slice (some ⟨g,0,none⟩) f.ow.length cap).ownBlock.toList (w.setCell ⟨g,i * 3,none⟩ (.int .i64 (k : Int))):=(Stp.refl _ _).setCell (p:=⟨g,i * 3,none⟩) (Or.inl (by simp [Value.ownBlock])) _
 exact h.newRow (ow':=f.ow.set i ⟨k,(owA f i).l,(owA f i).r⟩) (by simp) h1 hs
theorem mxP_lt24 {f : CF} (h : FoOk f) : mxP (mxP (mxC f) f.ow) f.ap < 24:=by
 have : namF f ≤ 24:=nam_le (by omega) h.cl h.ow h.ap
 unfold namF at this
 omega
section
variable {B : Nat} {w : World} {O A : Nat} {nv tv : Value} {nu da fu : Bool} {f : CF} {av ov : Value} {v : Value} {L : List FE}
set_option maxRecDepth 100000 in
set_option maxHeartbeats 8000000 in
theorem first_any (hB : Fl w B v L) (hbo : Bk w O 210 [nv,tv,.bool nu,.bool da,.bool fu]) (hx : Fm w A f av ov) (hO : FoOk f) (ha : f.ap.length ≤ 40000) (hd1 : ∀ k ∈ flF v L,k ≠ O ∧ k ∉ bsF A av ov) (hd2 : O ∉ bsF A av ov) (hge : ∀ k ∈ bsF A av ov,B ≤ k) (hB' : B ≤ w.heap.size) {c i : Nat} (hb : bgn f.ow c = some i) (hL : L.length ≤ 900000) :
  Calls Tryz.prog 230 #[.pointer (some ⟨O,0,none⟩),v,.pointer (some ⟨A,0,none⟩),.int .i64 c] w fun e w'=>∃ v' L',e = .returned v' ∧ Fl w' B v' (L ++ L') ∧ L'.map (·.f) = (fiF f c).1 ∧ Bk w' O 210 [nv,tv,.bool nu,.bool da,.bool (fu || (fiF f c).2)] ∧ Stp (O :: (flF v L ++ bsF A av ov)) w (O :: flF v' (L ++ L')) w':=by
 obtain ⟨i0,hi0,hz0,hz1,hz2⟩:=info_parts Tryz.infoPF
 have hol:=hO.owLen
 obtain ⟨hi,hcl⟩:=bgn_lt hb
 obtain ⟨va,vc,hv,-,-⟩:=own_slc hB.row
 subst hv
 have hfi : fiF f c = fiI f c i:=by unfold fiF; rw [hb]
 have HBG:=hide (begins_any c hx.is)
 rw [hb] at HBG
 obtain ⟨oa,oc,hov,-,-⟩:=own_slc hx.is.ow
 subst hov
 have c6:=hx.is.c6
 obtain ⟨g,cap,hgv,-,-⟩:=own_formP hx.is.ow hi
 simp only [Value.slice.injEq,true_and] at hgv
 obtain ⟨rfl,rfl⟩:=hgv
 obtain ⟨x0,x1,x2⟩:=own_cells hx.is.ow hi
 obtain ⟨p,hp⟩ : ∃ p,p = f.ow.getD i pr0:=⟨_,rfl⟩
 rw [← hp] at x0 x1 x2
 obtain ⟨W1,hW1⟩ : ∃ W1,W1 = w.alloc (.cells #[Value.int .i64 p.k,.int .i64 p.l,.int .i64 p.r] 103):=⟨_,rfl⟩
 have hbx : Below w.heap.size w W1:=by rw [hW1]; exact below_boxQ w _
 have hX : Bk W1 w.heap.size 103 [Value.int .i64 p.k,.int .i64 p.l,.int .i64 p.r]:=by rw [hW1]; exact Bk.new w _ _
 obtain ⟨X,hXe⟩ : ∃ X,X = w.heap.size:=⟨_,rfl⟩
 rw [← hXe] at hX
 have hFs : Fs B (O :: (flF (.slice va L.length vc) L ++ bsF A av (.slice (some ⟨g,0,none⟩) f.ow.length oc))) w W1 O [nv,tv,.bool nu,.bool da,.bool fu] A f av (.slice (some ⟨g,0,none⟩) f.ow.length oc) X p (.slice va L.length vc) L:=by
  refine ⟨hB.below hbx,hbo.below hbx,hx.is.below hbx,hX,fun k hk=>⟨(hd1 k hk).1,fun e=>?_,(hd1 k hk).2⟩,fun e=>?_,hd2,(Stp.ofBw (F:=O :: (flF (.slice va L.length vc) L ++ bsF A av (.slice (some ⟨g,0,none⟩) f.ow.length oc))) hbx).foots (fun k hk=>?_),Nat.le_trans hB' hbx.size⟩
  ·have:=hB.lt k hk; omega
  ·have:=hbo.lt; omega
  ·rcases List.mem_cons.1 hk with rfl | hk
   ·exact Or.inl (by simp)
   ·exact Or.inl (List.mem_cons_of_mem _ (List.mem_append_left _ hk))
 have b0:=hX.cell 0 rfl
 have H1:=hide hFs
 have HX1:=hide (hx.below hbx)
 have HGE:=hide hge
 have HD1:=hide hd1
 have HD2:=hide hd2
 have HP : Hid (p = owA f i):=hide hp
 have HFI:=hide hfi
 have HO:=hide hO
 have i1 : (0 : Int) ≤ (i : Int):=by omega
 have i2 : (i : Int) < (f.ow.length : Int):=by omega
 have HCL : Hid ((owA f i).l = c):=hide hcl
 clear hB hbo hO hd1 hd2 hge hbx hX hFs hp hfi hx hb hcl hB'
 rw [show opI (some i) = (i : Int) from rfl] at HBG
 go_enter Tryz.func230,Tryz.ntmps230
 go_wp2_with fail
 refine (uh HBG).mono ?_
 rintro e w1 ⟨rfl,rfl⟩
 clear HBG
 go_upto_region 3 with fail
 rw [← hW1,← hXe]
 clear hW1 hXe
 by_cases hk3 : p.k = 3
 ·have d3 : ((p.k : Int) == 3) = true:=by simp [hk3]
  have HE : Hid (fiF f c = ([f],false)):=hide (by rw [uh HFI]; unfold fiI; rw [if_pos (show (owA f i).k = 3 by rw [← uh HP]; exact hk3)])
  have HR:=hide (uh H1).fl.row
  have hsz:=(uh H1).bb
  clear hk3
  go_wp2_with (at_builtin; refine wpList_app1 _ rfl (.tmp 27) (.tmp 29) 162 rfl B 66 i0 _ 1 8 Tryz.underlying162 hi0 hz0 hz1 hz2 rfl (by decide) _ L.length (L.map FE.p) rfl ((uh HR).alloc _) ⟨_,0,none⟩ 1 [.pointer (some ⟨A,0,none⟩)] rfl rfl (new_cells _ _ (by simp) [.pointer (some ⟨A,0,none⟩)] _) (by intro u hu; simp only [List.mem_singleton] at hu; subst hu; rfl) (by omega) (by omega) (by simp; omega) ?_)
  intro g1 cap1 wa hown1 hgrow1 hblk1
  have HF:=hide ((uh H1).fin (x:=⟨A,f,av,.slice (some ⟨g,0,none⟩) f.ow.length oc⟩) (uh HX1) (fun k hk=>⟨fun hn=>(uh HD1 k hn).2 hk,fun e=>uh HD2 (by rw [← e]; exact hk),Or.inl (List.mem_cons_of_mem _ (List.mem_append_right _ hk)),uh HGE k hk⟩) hown1 hgrow1 (by simpa using hblk1))
  clear hown1 hgrow1 hblk1
  go_wp2_with fail
  go_ret
  refine ⟨_,[⟨A,f,av,.slice (some ⟨g,0,none⟩) f.ow.length oc⟩],rfl,(uh HF).1,by rw [uh HE]; rfl,?_,(uh HF).2.2⟩
  rw [uh HE,Bool.or_false]
  exact (uh HF).2.1
 ·have d3 : ((p.k : Int) == 3) = false:=by simp; omega
  have hfi2 : fiF f c = if 24 ≤ namF f then ([fiF1 f i],true) else ([fiF1 f i,fiF2 f c i],false):=by rw [uh HFI]; unfold fiI; rw [if_neg (show ¬ ((owA f i).k = 3) by rw [← uh HP]; exact hk3)]
  have HF2:=hide hfi2
  have HCP:=hide (copy_any (uh H1).ff (uh HO).c5 ha (Nat.le_trans hol (by omega)))
  clear hk3 hfi2
  go_wp2_with fail
  refine (uh HCP).mono ?_
  rintro e w2 ⟨A2,rfl,hN2⟩
  obtain ⟨av2,ov2,hf2⟩:=hN2.frf
  obtain ⟨g2,cap2,hgv2,-,-⟩:=own_formP hf2.fm.is.ow hi
  have hgv2' : ov2 = .slice (some ⟨g2,0,none⟩) f.ow.length cap2:=hgv2
  subst hgv2'
  have e6:=hf2.fm.is.c6
  obtain ⟨hF3,hS3⟩:=Fm.putK hf2.fm hi 3
  obtain ⟨-,⟨⟨u0,y0⟩,-,-⟩,z0,-,-⟩:=put3 hf2.fm.is.ow rfl hi pr0
  obtain ⟨w3,hw3⟩ : ∃ w3,w3 = w2.setCell ⟨g2,i * 3,none⟩ (.int .i64 3):=⟨_,rfl⟩
  rw [show w2.setCell ⟨g2,i * 3,none⟩ (.int .i64 ((3 : Nat) : Int)) = w3 from hw3.symm] at hF3 hS3
  have hf3:=hf2.step (x':=⟨A2,fiF1 f i,av2,.slice (some ⟨g2,0,none⟩) f.ow.length cap2⟩) hF3 hS3
  have hL3:=(uh H1).below hf3.bw
  have HR:=hide hL3.fl.row
  have HFR:=hide ((uh H1).fresh hf3.ge)
  have HF3:=hide hf3.fm
  have HL3:=hide hL3
  have hsz:=hL3.bb
  clear hN2 hf2 hgv2 hF3 hS3 hf3 hL3 HCP
  go_upto_region 7 with fail
  rw [← hw3]
  clear hw3 e6 y0 z0 u0
  go_wp2_with (at_builtin; refine wpList_app1 _ rfl (.tmp 40) (.tmp 42) 162 rfl B 66 i0 _ 1 8 Tryz.underlying162 hi0 hz0 hz1 hz2 rfl (by decide) _ L.length (L.map FE.p) rfl ((uh HR).alloc _) ⟨_,0,none⟩ 1 [.pointer (some ⟨A2,0,none⟩)] rfl rfl (new_cells _ _ (by simp) [.pointer (some ⟨A2,0,none⟩)] _) (by intro u hu; simp only [List.mem_singleton] at hu; subst hu; rfl) (by omega) (by omega) (by simp; omega) ?_)
  intro g4 cap4 w4 hown4 hgrow4 hblk4
  have hL4:=(uh HL3).app (uh HF3) (uh HFR) hown4 hgrow4 (by simpa using hblk4)
  have hnm : namF f ≤ 100000:=by
   unfold namF
   have h1:=mxP_lt24 (uh HO)
   omega
  have HNM:=hide (fnames_any hL4.ff (Nat.le_trans ha (by omega)) (Nat.le_trans hol (by omega)) hnm)
  have HL4:=hide hL4
  clear hown4 hgrow4 hblk4 hL4 HR HFR HF3 HL3
  go_wp2_with fail
  refine (uh HNM).mono ?_
  rintro e w5 ⟨rfl,hb5⟩
  have hL5:=(uh HL4).below hb5
  have HL5:=hide hL5
  obtain ⟨N,hN⟩ : ∃ N,N = namF f:=⟨_,rfl⟩
  rw [← hN] at hnm HF2 ⊢
  have HNE:=hide hN
  clear hb5 HNM HL4 hN
  by_cases hfull : 24 ≤ N
  ·have d5 : decide ((24 : Int) ≤ (N : Int)) = true:=by simp; omega
   have HE : Hid (fiF f c = ([fiF1 f i],true)):=hide (by rw [uh HF2,if_pos hfull])
   have o4:=hL5.bo.cell 4 rfl
   have z4:=hL5.bo.frz 4
   have HL6:=hide (hL5.flag 4 (.bool true) (by simp))
   clear hfull hL5
   go_wp2_with fail
   go_ret
   refine ⟨_,[⟨A2,fiF1 f i,av2,.slice (some ⟨g2,0,none⟩) f.ow.length cap2⟩],rfl,(uh HL6).fl,by rw [uh HE]; rfl,?_,(uh HL6).st⟩
   rw [uh HE,Bool.or_true]
   exact (uh HL6).bo
  ·have d5 : decide ((24 : Int) ≤ (N : Int)) = false:=by simp; omega
   have HE : Hid (fiF f c = ([fiF1 f i,fiF2 f c i],false)):=hide (by rw [uh HF2,if_neg hfull])
   have HCP:=hide (copy_any hL5.ff (uh HO).c5 ha (Nat.le_trans hol (by omega)))
   clear hfull hL5
   go_wp2_with fail
   refine (uh HCP).mono ?_
   rintro e w6 ⟨A6,rfl,hN6⟩
   obtain ⟨av6,ov6,hf6⟩:=hN6.frf
   obtain ⟨g6,cap6,hgv6,-,-⟩:=own_formP hf6.fm.is.ow hi
   have hgv6' : ov6 = .slice (some ⟨g6,0,none⟩) f.ow.length cap6:=hgv6
   subst hgv6'
   have e6:=hf6.fm.is.c6
   obtain ⟨hF7,hS7⟩:=Fm.putW hf6.fm hi ⟨3,c,N⟩
   obtain ⟨-,⟨⟨u0,y0⟩,⟨u1,y1⟩,⟨u2,y2⟩⟩,z0,z1,z2⟩:=put3 hf6.fm.is.ow rfl hi pr0
   obtain ⟨w7,hw7⟩ : ∃ w7,w7 = ((w6.setCell ⟨g6,i * 3,none⟩ (.int .i64 3)).setCell ⟨g6,i * 3 + 1,none⟩ (.int .i64 (c : Int))).setCell ⟨g6,i * 3 + 2,none⟩ (.int .i64 (N : Int)):=⟨_,rfl⟩
   rw [show ((w6.setCell ⟨g6,i * 3,none⟩ (.int .i64 (((⟨3,c,N⟩ : Pr).k : Nat) : Int))).setCell ⟨g6,i * 3 + 1,none⟩ (.int .i64 (((⟨3,c,N⟩ : Pr).l : Nat) : Int))).setCell ⟨g6,i * 3 + 2,none⟩ (.int .i64 (((⟨3,c,N⟩ : Pr).r : Nat) : Int)) = w7 from hw7.symm] at hF7 hS7
   have hf7:=hf6.step (x':=⟨A6,setO f i ⟨3,c,N⟩,av6,.slice (some ⟨g6,0,none⟩) f.ow.length cap6⟩) hF7 hS7
   have b2:=((uh HL5).below hf7.bw).bx.cell 2 rfl
   have HLY:=hide (lay_any hf7.fm 4 N p.r (by
    show (f.ow.set i _).length ≤ 100000
    rw [List.length_set]
    exact Nat.le_trans hol (by omega)))
   have HF7:=hide hf7
   clear hN6 hf6 hgv6 hF7 hS7 hf7 HCP
   go_upto_region 14 with fail
   rw [← hw7]
   clear hw7 e6 y0 y1 y2 z0 z1 z2 u0 u1 u2
   go_wp2_with fail
   refine (uh HLY).mono ?_
   rintro e w8 ⟨rfl,ov8,hF8,hS8⟩
   have hf8:=(uh HF7).step (x':=⟨A6,fiF2 f c i,av6,ov8⟩) (by
    have e9 : fiF2 f c i = { setO f i ⟨3,c,N⟩ with ow:=(setO f i ⟨3,c,N⟩).ow ++ [⟨4,N,p.r⟩] }:=by rw [uh HP,uh HNE]; rfl
    rw [e9]; exact hF8) hS8
   have hL8:=(uh HL5).below hf8.bw
   have HR : Hid (w8.ownsRow B 66 1 (.slice (some ⟨g4,0,none⟩) (L.length + 1) cap4) (L.length + 1) ((L ++ [(⟨A2,fiF1 f i,av2,.slice (some ⟨g2,0,none⟩) f.ow.length cap2⟩ : FE)]).map FE.p)):=hide (by have:=hL8.fl.row; rwa [List.length_append,List.length_singleton] at this)
   have HFR:=hide ((uh HL5).fresh hf8.ge)
   have HF8:=hide hf8.fm
   have HL8:=hide hL8
   have hsz8:=hL8.bb
   clear hF8 hS8 hf8 hL8 HLY
   go_wp2_with (at_builtin; refine wpList_app1 _ rfl (.tmp 68) (.tmp 70) 162 rfl B 66 i0 _ 1 8 Tryz.underlying162 hi0 hz0 hz1 hz2 rfl (by decide) _ (L.length + 1) ((L ++ [(⟨A2,fiF1 f i,av2,.slice (some ⟨g2,0,none⟩) f.ow.length cap2⟩ : FE)]).map FE.p) rfl ((uh HR).alloc _) ⟨_,0,none⟩ 1 [.pointer (some ⟨A6,0,none⟩)] rfl rfl (new_cells _ _ (by simp) [.pointer (some ⟨A6,0,none⟩)] _) (by intro u hu; simp only [List.mem_singleton] at hu; subst hu; rfl) (by omega) (by omega) (by simp; omega) ?_)
   intro g9 cap9 w9 hown9 hgrow9 hblk9
   have HF:=hide ((uh HL8).fin (x:=⟨A6,fiF2 f c i,av6,ov8⟩) (g1:=g9) (c1:=cap9) (uh HF8) (fun k hk=>⟨(uh HFR k hk).1,(uh HFR k hk).2.1,Or.inr (uh HFR k hk).2.2.2.2.1,(uh HFR k hk).2.2.2.2.2⟩) (by rw [List.length_append,List.length_singleton,List.map_append,List.append_assoc]; exact hown9) hgrow9 (by simpa using hblk9))
   rw [List.append_assoc,List.length_append,List.length_singleton] at HF
   clear hown9 hgrow9 hblk9
   go_wp2_with fail
   go_ret
   refine ⟨_,[⟨A2,fiF1 f i,av2,.slice (some ⟨g2,0,none⟩) f.ow.length cap2⟩,⟨A6,fiF2 f c i,av6,ov8⟩],rfl,(uh HF).1,by rw [uh HE]; rfl,?_,(uh HF).2.2⟩
   rw [uh HE,Bool.or_false]
   exact (uh HF).2.1
end
end Go.Proofs.YtciihepbeacppabGreat
