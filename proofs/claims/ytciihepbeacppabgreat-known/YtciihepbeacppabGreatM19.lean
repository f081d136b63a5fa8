import Derived.Test.YtciihepbeacppabGreatM18
namespace Go.Proofs.YtciihepbeacppabGreat
open Go.RowKit
set_option linter.unusedVariables false
def fpP (v : Value) (L : List FE) (j : Nat) : List Nat:=v.ownBlock.toList ++ (L.drop j).flatMap FE.bs
structure Pend (W : World) (B : Nat) (v : Value) (L : List FE) (j : Nat) : Prop where
 row : W.ownsRow B 66 1 v L.length (L.map FE.p)
 fm : ∀ x ∈ L.drop j,Fm W x.A x.f x.av x.ov
 ge : ∀ x ∈ L.drop j,∀ k ∈ x.bs,B ≤ k
 nd : (fpP v L j).Nodup
section
variable {W W' : World} {B j : Nat} {v : Value} {L : List FE}
theorem Fl.pend (h : Fl W B v L) : Pend W B v L 0:=⟨h.row,by simpa using h.fm,by simpa using h.ge,by simpa [fpP,flF] using h.nd⟩
theorem Pend.lt (h : Pend W B v L j) : ∀ k ∈ fpP v L j,k < W.heap.size:=by
 intro k hk
 rcases List.mem_append.1 hk with hk | hk
 ·exact (h.row.lt k (by simpa using hk)).2
 ·obtain ⟨x,hx,hk⟩:=List.mem_flatMap.1 hk
  exact (h.fm x hx).lt k hk
theorem Pend.geB (h : Pend W B v L j) : ∀ k ∈ fpP v L j,B ≤ k:=by
 intro k hk
 rcases List.mem_append.1 hk with hk | hk
 ·exact (h.row.lt k (by simpa using hk)).1
 ·obtain ⟨x,hx,hk⟩:=List.mem_flatMap.1 hk
  exact h.ge x hx k hk
theorem Pend.of_eq (h : Pend W B v L j) (he : ∀ k ∈ fpP v L j,W'.heap[k]? = W.heap[k]?) : Pend W' B v L j :=
 ⟨ownsRow_of_eq h.row (fun k hk=>he k (List.mem_append_left _ (by simpa using hk))),fun x hx=>(h.fm x hx).of_eq (fun k hk=>he k (List.mem_append_right _ (List.mem_flatMap.2 ⟨x,hx,hk⟩))),h.ge,h.nd⟩
theorem Pend.stp {F F' : List Nat} (h : Pend W B v L j) (hs : Stp F W F' W') (hd : ∀ k ∈ fpP v L j,k ∉ F) : Pend W' B v L j:=h.of_eq (fun k hk=>hs.block k (h.lt k hk) (hd k hk))
theorem Pend.below (h : Pend W B v L j) (hb : Below W.heap.size W W') : Pend W' B v L j:=h.of_eq (fun k hk=>hb.block k (h.lt k hk))
theorem Pend.next (h : Pend W B v L j) (hj : j < L.length) : Fm W L[j].A L[j].f L[j].av L[j].ov ∧ (∀ k ∈ L[j].bs,B ≤ k) ∧ Pend W B v L (j + 1) ∧ (∀ k ∈ fpP v L (j + 1),k ∈ fpP v L j ∧ k ∉ L[j].bs) ∧ (∀ k ∈ L[j].bs,k ∈ fpP v L j):=by
 have e : L.drop j = L[j] :: L.drop (j + 1):=List.drop_eq_getElem_cons hj
 have hm : L[j] ∈ L.drop j:=by rw [e]; exact List.mem_cons_self
 have hsub : ∀ x ∈ L.drop (j + 1),x ∈ L.drop j:=fun x hx=>by rw [e]; exact List.mem_cons_of_mem _ hx
 have hnd:=h.nd
 unfold fpP at hnd
 rw [e,List.flatMap_cons,List.nodup_append,List.nodup_append] at hnd
 obtain ⟨n1,⟨n2,n3,n4⟩,n5⟩:=hnd
 refine ⟨h.fm _ hm,h.ge _ hm,⟨h.row,fun x hx=>h.fm x (hsub x hx),fun x hx=>h.ge x (hsub x hx),?_⟩,fun k hk=>?_,fun k hk=>?_⟩
 ·unfold fpP
  rw [List.nodup_append]
  exact ⟨n1,n3,fun a ha b hb=>n5 a ha b (List.mem_append_right _ hb)⟩
 ·rcases List.mem_append.1 hk with hk | hk
  ·exact ⟨List.mem_append_left _ hk,fun hn=>n5 k hk k (List.mem_append_left _ hn) rfl⟩
  ·refine ⟨List.mem_append_right _ ?_,fun hn=>n4 k hn k hk rfl⟩
   rw [e,List.flatMap_cons]
   exact List.mem_append_right _ hk
 ·refine List.mem_append_right _ ?_
  rw [e,List.flatMap_cons]
  exact List.mem_append_left _ hk
theorem Pend.cell (h : Pend W B v L j) {i : Nat} (hi : i < L.length) : ∃ g cap,v = .slice (some ⟨g,0,none⟩) L.length cap ∧ W.cell? ⟨g,i,none⟩ = some L[i].p:=by
 obtain ⟨g,cap,hv,-,-,-⟩:=own_pos h.row (by omega)
 subst hv
 refine ⟨g,cap,rfl,?_⟩
 have:=h.row.cellAt i (by omega)
 rw [this]
 simp [hi]
end
theorem range_fold {α : Type} (g : α → Nat → α) (a : α) (n : Nat) : (List.range (n + 1)).foldl g a = g ((List.range n).foldl g a) n:=by
 rw [List.range_succ,List.foldl_append]; rfl
theorem take_foldl {α β : Type} (g : α → β → α) (a : α) {l : List β} {j : Nat} (hj : j < l.length) : (l.take (j + 1)).foldl g a = g ((l.take j).foldl g a) l[j]:=by
 rw [List.take_add_one,List.getElem?_eq_getElem hj,List.foldl_append]; rfl
structure Ol (w W : World) (O : Nat) (nv tv : Value) (nu da fu : Bool) (A : Nat) (f : CF) (av ov : Value) (lv : Value) (L : List FE) : Prop where
 fl : Fl W w.heap.size lv L
 bo : Bk W O 210 [nv,tv,.bool nu,.bool da,.bool fu]
 ff : IsF W A f av ov
 st : Stp [O] w (O :: flF lv L) W
 ol : O < w.heap.size
 of : O ∉ bsF A av ov
 fw : ∀ k ∈ bsF A av ov,k < w.heap.size
section
variable {w W W' : World} {O A : Nat} {nv tv : Value} {nu da fu : Bool} {f : CF} {av ov lv : Value} {L : List FE}
theorem Ol.below (h : Ol w W O nv tv nu da fu A f av ov lv L) (hb : Below W.heap.size W W') : Ol w W' O nv tv nu da fu A f av ov lv L :=
 ⟨h.fl.below hb,h.bo.below hb,h.ff.below hb,⟨hb.os.trans h.st.os,hb.tape.trans h.st.tape,hb.output.trans h.st.output,Nat.le_trans h.st.size hb.size,fun k hk hn=>(hb.block k (Nat.lt_of_lt_of_le hk h.st.size)).trans (h.st.block k hk hn),h.st.foot⟩,h.ol,h.of,h.fw⟩
theorem Ol.ne (h : Ol w W O nv tv nu da fu A f av ov lv L) : ∀ k ∈ flF lv L,k ≠ O ∧ k ∉ bsF A av ov:=fun k hk=>⟨fun e=>by have:=h.fl.geB k hk; have:=h.ol; omega,fun hn=>by have:=h.fl.geB k hk; have:=h.fw k hn; omega⟩
theorem Ol.after {x : FE} {lv' : Value} {L' : List FE} {fu' : Bool} (h : Ol w W O nv tv nu da fu A f av ov lv L) (hx : ∀ k ∈ x.bs,w.heap.size ≤ k) (h1 : Fl W' w.heap.size lv' L') (h2 : Bk W' O 210 [nv,tv,.bool nu,.bool da,.bool fu']) (hs : Stp (O :: (flF lv L ++ x.bs)) W (O :: flF lv' L') W') : Ol w W' O nv tv nu da fu' A f av ov lv' L':=by
 refine ⟨h1,h2,h.ff.of_eq (fun k hk=>hs.block k (h.ff.lt k hk) (fun hn=>?_)),?_,h.ol,h.of,h.fw⟩
 ·rcases List.mem_cons.1 hn with rfl | hn
  ·exact h.of hk
  ·rcases List.mem_append.1 hn with hn | hn
   ·exact (h.ne k hn).2 hk
   ·have:=hx k hn; have:=h.fw k hk; omega
 ·refine ⟨hs.os.trans h.st.os,hs.tape.trans h.st.tape,hs.output.trans h.st.output,Nat.le_trans h.st.size hs.size,fun k hk hn=>?_,fun k hk=>?_⟩
  ·rw [hs.block k (Nat.lt_of_lt_of_le hk h.st.size) (fun hm=>?_)]
   ·exact h.st.block k hk hn
   ·rcases List.mem_cons.1 hm with rfl | hm
    ·exact hn (by simp)
    ·rcases List.mem_append.1 hm with hm | hm
     ·have:=h.fl.geB k hm; omega
     ·have:=hx k hm; omega
  ·rcases List.mem_cons.1 hk with rfl | hk
   ·exact Or.inl (by simp)
   ·exact Or.inr (h1.geB k hk)
set_option maxRecDepth 100000 in
set_option maxHeartbeats 8000000 in
theorem oopen_any {v : Nat} (hv : v < 4) (hbo : Bk w O 210 [nv,tv,.bool nu,.bool da,.bool fu]) (h : IsF w A f av ov) (hO : FoOk f) (ha : f.ap.length ≤ 40000) (hof : O ∉ bsF A av ov) :
  Calls Tryz.prog 204 #[.pointer (some ⟨O,0,none⟩),.pointer (some ⟨A,0,none⟩),.int .i64 v] w fun e w'=>∃ lv L,e = .returned lv ∧ Fl w' w.heap.size lv L ∧ L.map (·.f) = (opF f v).1 ∧ Bk w' O 210 [nv,tv,.bool (nu || (opF f v).2.1),.bool (da || (opF f v).2.2.1),.bool (fu || (opF f v).2.2.2)] ∧ Stp [O] w (O :: flF lv L) w':=by
 have hol:=hO.owLen
 have x1:=h.cls (i:=1 + v) (by omega)
 have x0:=h.cls (i:=0) (by omega)
 unfold clV at x0 x1
 have hop : opF f v = if f.cl.getD (1 + v) 0 = f.cl.getD 0 0 then ([],true,false,false) else if (bgn f.ow (f.cl.getD (1 + v) 0)).isSome = true then ((fiF f (f.cl.getD (1 + v) 0)).1,false,false,(fiF f (f.cl.getD (1 + v) 0)).2) else (((List.range f.ow.length).foldl (fun r i=>opG f v i r) ([],false)).1,!difB f (f.cl.getD (1 + v) 0) (f.cl.getD 0 0),true,((List.range f.ow.length).foldl (fun r i=>opG f v i r) ([],false)).2):=rfl
 have hc24:=hO.get (1 + v)
 obtain ⟨c,hc⟩ : ∃ c,c = f.cl.getD (1 + v) 0:=⟨_,rfl⟩
 obtain ⟨n,hn⟩ : ∃ n,n = f.cl.getD 0 0:=⟨_,rfl⟩
 rw [← hc] at x1 hop hc24
 rw [← hn] at x0 hop
 have i1 : (0 : Int) ≤ 1 + (v : Int):=by omega
 have i2 : 1 + (v : Int) < 5:=by omega
 have i3 : (1 + (v : Int)).toNat = 1 + v:=by omega
 have H:=hide h
 have HO:=hide hO
 have HBO:=hide hbo
 have HC:=hide hc
 have HOF:=hide hof
 have o2:=hbo.cell 2 rfl
 have o3:=hbo.cell 3 rfl
 have oz:=hbo.frz
 have HOL:=hide hbo.lt
 have HBG:=hide (begins_any c h)
 by_cases hcn : c = n
 ·have d0 : ((c : Int) == (n : Int)) = true:=by simp [hcn]
  have HE : Hid (opF f v = ([],true,false,false)):=hide (by rw [hop,if_pos hcn])
  have HB2:=hide (hbo.set 2 (.bool true))
  clear hop hcn h hO hbo hc hn hof
  go_enter Tryz.func204,Tryz.ntmps204
  go_wp2_with fail
  go_ret
  refine ⟨_,[],rfl,Fl.nil0 _ _,by rw [uh HE]; rfl,?_,?_⟩
  ·rw [uh HE]
   have:=uh HB2
   simpa using this
  ·exact ((Stp.refl [O] w).setCell (p:=⟨O,2,none⟩) (Or.inl (by simp)) _).foots (fun k hk=>Or.inl (by simpa [flF,Value.ownBlock] using hk))
 ·have d0 : ((c : Int) == (n : Int)) = false:=by simp; omega
  rw [if_neg hcn] at hop
  have HOP:=hide hop
  have hg:=opI_ge (bgn f.ow c)
  cases hb : bgn f.ow c with
  | some i =>
   rw [hb] at hg HBG HOP
   have HE : Hid (opF f v = ((fiF f c).1,false,false,(fiF f c).2)):=hide (by rw [uh HOP]; rfl)
   have HCP:=hide (copy_any h hO.c5 ha (Nat.le_trans hol (by omega)))
   have HB:=hide hb
   clear hop hcn h hO hbo hc hn HOP hb hof
   go_enter Tryz.func204,Tryz.ntmps204
   go_wp2_with fail
   refine (uh HBG).mono ?_
   rintro e w1 ⟨rfl,rfl⟩
   go_wp2_with fail
   refine (uh HCP).mono ?_
   rintro e w2 ⟨A2,rfl,hN2⟩
   obtain ⟨av2,ov2,hf2⟩:=hN2.frf
   have HFI:=hide (first_any (v:=.slice none 0 0) (L:=[]) (B:=w1.heap.size) (Fl.nil0 w2 _) ((uh HBO).below hf2.bw) hf2.fm (uh HO) ha (fun k hk=>by simp [flF,Value.ownBlock] at hk) (fun hn=>by have h1:=hf2.ge _ hn; have h2:=uh HOL; omega) hf2.ge hf2.bw.size (uh HB) (by simp))
   have HF2:=hide hf2
   clear hN2 hf2 HCP
   go_wp2_with fail
   refine (uh HFI).mono ?_
   rintro e w3 ⟨v3,L3,rfl,hfl3,hm3,hbo3,hs3⟩
   have hst : Stp [O] w1 (O :: flF v3 L3) w3:=by
    have hb2:=(uh HF2).bw
    refine ⟨hs3.os.trans hb2.os,hs3.tape.trans hb2.tape,hs3.output.trans hb2.output,Nat.le_trans hb2.size hs3.size,fun k hk hn=>?_,fun k hk=>?_⟩
    ·rw [hs3.block k (Nat.lt_of_lt_of_le hk hb2.size) (fun hm=>?_)]
     ·exact hb2.block k hk
     ·rcases List.mem_cons.1 hm with rfl | hm
      ·exact hn (by simp)
      ·rcases List.mem_append.1 hm with hm | hm
       ·simp [flF,Value.ownBlock] at hm
       ·have:=(uh HF2).ge k hm; omega
    ·rcases List.mem_cons.1 hk with rfl | hk
     ·exact Or.inl (by simp)
     ·exact Or.inr (hfl3.geB k hk)
   rw [List.nil_append] at hfl3
   have HN:=hide (And.intro hfl3 (And.intro hm3 (And.intro hbo3 hst)))
   clear hfl3 hm3 hbo3 hs3 hst HFI HF2
   go_wp2_with fail
   go_ret
   refine ⟨_,L3,rfl,(uh HN).1,by rw [uh HE]; exact (uh HN).2.1,?_,(uh HN).2.2.2⟩
   rw [uh HE]
   have:=(uh HN).2.2.1
   simpa using this
  | none =>
   rw [hb] at hg HBG HOP
   have HOP2 : Hid (opF f v = (((List.range f.ow.length).foldl (fun r i=>opG f v i r) ([],false)).1,!difB f c n,true,((List.range f.ow.length).foldl (fun r i=>opG f v i r) ([],false)).2)):=hide (by rw [uh HOP]; rfl)
   have hbo8:=hbo.set 3 (.bool true)
   have h8 : IsF (w.setCell ⟨O,3,none⟩ (.bool true)) A f av ov:=h.of_eq (fun k hk=>Below.heap_setCell _ _ _ _ (fun e=>hof (by have e' : k = O:=e; rw [← e']; exact hk)))
   obtain ⟨W8,hW8⟩ : ∃ W8,W8 = w.setCell ⟨O,3,none⟩ (.bool true):=⟨_,rfl⟩
   have hs8 : Stp [O] w [O] W8:=by rw [hW8]; exact (Stp.refl [O] w).setCell (p:=⟨O,3,none⟩) (Or.inl (by simp)) _
   rw [← hW8] at hbo8 h8
   have HDF:=hide (differ_any c n h8)
   have HOb:=hide (opF_ok (N:=40000) hv hO ha)
   have HLT:=hide h.lt
   have HBN:=hide hb
   have HB8:=hide hbo8
   have H8:=hide h8
   have HS8:=hide hs8
   clear hop hcn h hO hbo hc hn HOP hb hof hbo8 h8 hs8
   go_enter Tryz.func204,Tryz.ntmps204
   go_wp2_with fail
   refine (uh HBG).mono ?_
   rintro e w1 ⟨rfl,rfl⟩
   go_upto_region 9 with fail
   rw [← hW8]
   clear hW8 o2 o3 oz
   go_wp2_with fail
   refine (uh HDF).mono ?_
   rintro e w9 ⟨rfl,hb9⟩
   have hbo9:=(uh HB8).below hb9
   have h9:=(uh H8).below hb9
   have hs9 : Stp [O] w1 [O] w9:=⟨hb9.os.trans (uh HS8).os,hb9.tape.trans (uh HS8).tape,hb9.output.trans (uh HS8).output,Nat.le_trans (uh HS8).size hb9.size,fun k hk hn=>(hb9.block k (Nat.lt_of_lt_of_le hk (uh HS8).size)).trans ((uh HS8).block k hk hn),(uh HS8).foot⟩
   have HB9:=hide hbo9
   have H9:=hide h9
   have HS9:=hide hs9
   obtain ⟨nb,hnb⟩ : ∃ nb,nb = (nu || !difB f c n):=⟨_,rfl⟩
   have HNB:=hide hnb
   clear hbo9 h9 hs9 hb9 HDF HB8 H8 HS8
   cases hdf : difB f c n
   ·rw [hdf] at hnb
    have o2:=(uh HB9).cell 2 rfl
    have oz:=(uh HB9).frz 2
    obtain ⟨W10,hW10⟩ : ∃ W10,W10 = w9.setCell ⟨O,2,none⟩ (.bool true):=⟨_,rfl⟩
    have HW : Hid (Bk W10 O 210 [nv,tv,.bool nb,.bool true,.bool fu] ∧ IsF W10 A f av ov ∧ Stp [O] w1 [O] W10):=hide ⟨by
     have:=(uh HB9).set 2 (.bool true)
     rw [hW10,hnb]
     simpa using this,by
     rw [hW10]
     exact (uh H9).of_eq (fun k hk=>Below.heap_setCell _ _ _ _ (fun e=>uh HOF (by have e' : k = O:=e; rw [← e']; exact hk))),by rw [hW10]; exact (uh HS9).setCell (p:=⟨O,2,none⟩) (Or.inl (by simp)) _⟩
    clear hnb hdf HB9 H9 HS9
    go_upto_region 11 with fail
    rw [← hW10]
    clear hW10 o2 oz
    have hOl0 : Ol w1 (W10.alloc (.cells #[] 66)) O nv tv nb true fu A f av ov (.slice (some ⟨W10.heap.size,0,none⟩) 0 0) []:=by
     obtain ⟨q1,q2,q3⟩:=uh HW
     have hbx:=below_boxQ W10 (.cells #[] 66)
     refine ⟨⟨?_,fun x hx=>by simp at hx,fun x hx=>by simp at hx,by simp [flF,Value.ownBlock]⟩,q1.below hbx,q2.below hbx,?_,uh HOL,uh HOF,uh HLT⟩
     ·have:=World.ownsRow_lit (base:=W10.heap.size) (e:=66) (size:=1) W10 #[] 0 (Nat.le_refl _) (by simp [maxLen]) rfl
      exact own_le this q3.size
     ·refine (q3.trans (Stp.ofBw hbx)).foots (fun k hk=>?_)
      rcases List.mem_cons.1 hk with rfl | hk
      ·exact Or.inl (by simp)
      ·right
       have e : k = W10.heap.size:=by simpa [flF,Value.ownBlock,eq_comm] using hk
       rw [e]; exact q3.size
    have HI0:=hide hOl0
    have hc6:=hOl0.ff.c6
    clear hOl0 HW
    go_wp2_with fail
    go_loopg [9,10] f.ow.length (fun gn lv iv wx=>∃ (k : Nat) (L : List FE) (fu' : Bool),k + gn = f.ow.length ∧ iv = .int .i64 k ∧ L.length ≤ 4 * k ∧ Hid (Ol w1 wx O nv tv nb true fu' A f av ov lv L ∧ L.map (·.f) = ((List.range k).foldl (fun r i=>opG f v i r) ([],false)).1 ∧ fu' = (fu || ((List.range k).foldl (fun r i=>opG f v i r) ([],false)).2)))
    case atStart=>exact ⟨0,[],fu,by omega,rfl,by simp,hide ⟨uh HI0,rfl,by simp⟩⟩
    case round =>
     clear HI0 hc6
     obtain ⟨k,L,fu',hkn,rfl,hLk,hI⟩:=hrel
     obtain ⟨G,hG⟩ : ∃ G,G = gk:=⟨_,rfl⟩
     obtain ⟨R,hR⟩ : ∃ R,R = (List.range k).foldl (fun r i=>opG f v i r) (([] : List CF),false):=⟨_,rfl⟩
     rw [← hR] at hI
     obtain ⟨la,lc,hlv,-,-⟩:=own_slc (uh hI).1.fl.row
     subst hlv
     have c6:=(uh hI).1.ff.c6
     obtain ⟨oa,oc,hov,-,-⟩:=own_slc (uh hI).1.ff.ow
     rw [hov] at c6
     clear hov
     by_cases hlt : k < f.ow.length
     ·have hd : decide ((k : Int) < (f.ow.length : Int)) = true:=by simp; omega
      have hst : (List.range (k + 1)).foldl (fun r i=>opG f v i r) (([] : List CF),false) = (meF f c k).foldl (fun r g=>fiA r g (g.cl.getD (1 + v) 0)) R:=by
       rw [range_fold,← hR,uh HC]
       rfl
      have HST:=hide hst
      have HME:=hide (meet_f (uh hI).1.ff (uh HO) ha hc24 hlt)
      have hMl:=meF_len f c k
      have HMk:=hide (meF_ok' (N:=40000) hv (uh HO) ha (by rw [← uh HC]; exact uh HBN) hlt)
      rw [← uh HC] at HMk
      have i4 : (0 : Int) ≤ (k : Int):=by omega
      clear hst hR
      go_wp2_with fail
      refine (uh HME).mono ?_
      rintro e w2 ⟨v2,L2,rfl,hfl2,hm2,hb2⟩
      have hOl2:=(uh hI).1.below hb2
      have hP2:=hfl2.pend
      have hL2 : L2.length = (meF f c k).length:=by rw [← hm2,List.length_map]
      have hdj : ∀ x ∈ fpP v2 L2 0,x ∉ flF (.slice la L.length lc) L:=fun x hx hn=>by
       have h1:=hP2.geB x hx
       have h2:=(uh hI).1.fl.lt x hn
       omega
      have hwB : w1.heap.size ≤ wr.heap.size:=(uh hI).1.st.size
      obtain ⟨B2,hB2⟩ : ∃ B2,B2 = wr.heap.size:=⟨_,rfl⟩
      rw [← hB2] at hP2 hwB
      obtain ⟨a2,c2,hv2,-,-⟩:=own_slc hP2.row
      subst hv2
      have HJ0:=hide (And.intro hOl2 (And.intro hP2 (And.intro hdj (And.intro (uh hI).2.1 (uh hI).2.2))))
      have HM2:=hide hm2
      have hL22 : L2.length ≤ 2:=by omega
      clear hfl2 hm2 hb2 hOl2 hP2 hdj hI HME hB2 c6 hL2 hMl
      go_wp2_with fail
      go_loopg [9,66] L2.length (fun gn lv iv wx=>∃ (j : Nat) (La : List FE) (fv : Bool),j + gn = L2.length ∧ iv = .int .i64 j ∧ La.length ≤ 4 * k + 2 * j ∧ Hid (Ol w1 wx O nv tv nb true fv A f av ov lv La ∧ Pend wx B2 (.slice a2 L2.length c2) L2 j ∧ (∀ x ∈ fpP (.slice a2 L2.length c2) L2 j,x ∉ flF lv La) ∧ La.map (·.f) = (((meF f c k).take j).foldl (fun r g=>fiA r g (g.cl.getD (1 + v) 0)) R).1 ∧ fv = (fu || (((meF f c k).take j).foldl (fun r g=>fiA r g (g.cl.getD (1 + v) 0)) R).2)))
      case atStart=>exact ⟨0,L,fu',by omega,rfl,by omega,HJ0⟩
      case round =>
       clear HJ0
       obtain ⟨j,La,fv,hjn,rfl,hLj,hJ⟩:=hrel
       obtain ⟨G2,hG2⟩ : ∃ G2,G2 = gk:=⟨_,rfl⟩
       by_cases hjl : j < L2.length
       ·have hd2 : decide ((j : Int) < (L2.length : Int)) = true:=by simp; omega
        obtain ⟨g2,cap2,hgv2,hcell⟩:=(uh hJ).2.1.cell hjl
        simp only [Value.slice.injEq,true_and] at hgv2
        obtain ⟨rfl,rfl⟩:=hgv2
        obtain ⟨hx,hxB,hPn,hPd,hPm⟩:=(uh hJ).2.1.next hjl
        have hjm : j < (meF f c k).length:=by rw [← uh HM2,List.length_map]; exact hjl
        have hfx : L2[j].f = (meF f c k)[j]:=by
         have:=congrArg (fun l=>l[j]?) (uh HM2)
         simp only [List.getElem?_map,List.getElem?_eq_getElem hjl,List.getElem?_eq_getElem hjm,Option.map_some,Option.some.injEq] at this
         exact this
        have hok:=uh HMk L2[j].f (by rw [hfx]; exact List.getElem_mem hjm)
        have htk:=take_foldl (fun r g=>fiA r g (g.cl.getD (1 + v) 0)) R hjm
        rw [← hfx] at htk
        obtain ⟨x,hxe⟩ : ∃ x,x = L2[j]:=⟨_,rfl⟩
        rw [← hxe] at hcell hx hxB hPd hPm hok htk
        obtain ⟨i',hi'⟩:=Option.isSome_iff_exists.1 hok.bg
        have hOl:=(uh hJ).1
        have hwg : ∀ y ∈ x.bs,w1.heap.size ≤ y:=fun y hy=>Nat.le_trans hwB (hxB y hy)
        obtain ⟨lva,lvc,hlv2,-,-⟩:=own_slc hOl.fl.row
        subst hlv2
        have HFI:=hide (first_any hOl.fl hOl.bo hx hok.ok hok.ln (fun y hy=>⟨(hOl.ne y hy).1,fun hn=>(uh hJ).2.2.1 y (hPm y hn) hy⟩) (fun hn=>by have h1:=hwg _ hn; have h2:=hOl.ol; omega) hwg hOl.st.size hi' (by omega))
        have xc:=hx.is.cls (i:=1 + v) (by omega)
        unfold clV at xc
        obtain ⟨cx,hcx⟩ : ∃ cx,cx = x.f.cl.getD (1 + v) 0:=⟨_,rfl⟩
        rw [← hcx] at xc HFI htk
        have HTK:=hide htk
        have HPN:=hide hPn
        have HPD:=hide hPd
        have HWG:=hide hwg
        have hxp : x.p = .pointer (some ⟨x.A,0,none⟩):=rfl
        rw [hxp] at hcell
        have i5 : (0 : Int) ≤ (j : Int):=by omega
        have i6 : (j : Int) < (L2.length : Int):=by omega
        have HJ:=hide (uh hJ)
        clear hx hxB hPn hPd hPm hjm hfx hok htk hxe hi' hOl hwg hcx hxp hJ
        go_wp2_with fail
        refine (uh HFI).mono ?_
        rintro e w3 ⟨v3,L3,rfl,hfl3,hm3,hbo3,hs3⟩
        have hOl3:=(uh HJ).1.after (uh HWG) hfl3 hbo3 hs3
        have hP3 : Pend w3 B2 (.slice (some ⟨g2,0,none⟩) L2.length c2) L2 (j + 1):=(uh HPN).stp hs3 (fun y hy hn=>by
         rcases List.mem_cons.1 hn with rfl | hn
         ·have h1:=(uh HPN).geB _ hy
          have h2:=(uh HJ).1.ol
          omega
         ·rcases List.mem_append.1 hn with hn | hn
          ·exact (uh HJ).2.2.1 y (uh HPD y hy).1 hn
          ·exact (uh HPD y hy).2 hn)
        have hD3 : ∀ y ∈ fpP (.slice (some ⟨g2,0,none⟩) L2.length c2) L2 (j + 1),y ∉ flF v3 (La ++ L3):=fun y hy hn=>by
         rcases hs3.foot y (List.mem_cons_of_mem _ hn) with q | q
         ·rcases List.mem_cons.1 q with rfl | q
          ·have h1:=(uh HPN).geB _ hy
           have h2:=(uh HJ).1.ol
           omega
          ·rcases List.mem_append.1 q with q | q
           ·exact (uh HJ).2.2.1 y (uh HPD y hy).1 q
           ·exact (uh HPD y hy).2 q
         ·have:=(uh HPN).lt y hy; omega
        have hl3 : L3.length ≤ 2:=by
         have:=fiF_len x.f cx
         rw [← hm3,List.length_map] at this
         exact this
        have hN3 : (La ++ L3).map (·.f) = (((meF f c k).take (j + 1)).foldl (fun r g=>fiA r g (g.cl.getD (1 + v) 0)) R).1:=by
         rw [uh HTK,List.map_append,(uh HJ).2.2.2.1,hm3]
         rfl
        have hN4 : (fv || (fiF x.f cx).2) = (fu || (((meF f c k).take (j + 1)).foldl (fun r g=>fiA r g (g.cl.getD (1 + v) 0)) R).2):=by
         rw [uh HTK,(uh HJ).2.2.2.2,Bool.or_assoc]
         rfl
        obtain ⟨a3,c3,hv3,-,-⟩:=own_slc hfl3.row
        subst hv3
        have HN:=hide (And.intro hOl3 (And.intro hP3 (And.intro hD3 (And.intro hN3 hN4))))
        have hll : (La ++ L3).length ≤ 4 * k + 2 * (j + 1):=by rw [List.length_append]; omega
        clear hfl3 hm3 hbo3 hs3 hOl3 hP3 hD3 hN3 hN4 HFI HJ HPN HPD HWG HTK hcell xc
        go_wp2_with fail
        go_roundg (G2 - 1)
        case rel=>exact ⟨j + 1,La ++ L3,_,by omega,by go_num,hll,hide (by have h:=uh HN; rw [List.length_append] at h; exact h)⟩
        case measure=>omega
       ·have hd2 : decide ((j : Int) < (L2.length : Int)) = false:=by simp; omega
        have hjm : (meF f c k).length ≤ j:=by rw [← uh HM2,List.length_map]; omega
        have hN:=uh hJ
        rw [List.take_of_length_le hjm,← uh HST] at hN
        have HN:=hide (And.intro hN.1 (And.intro hN.2.2.2.1 hN.2.2.2.2))
        have hll : La.length ≤ 4 * (k + 1):=by omega
        obtain ⟨lva,lvc,hlv2,-,-⟩:=own_slc hN.1.fl.row
        subst hlv2
        clear hN hJ hjm
        go_wp2_with fail
        go_roundg (G - 1)
        case rel=>exact ⟨k + 1,La,fv,by omega,by go_num,hll,HN⟩
        case measure=>omega
     ·have hd : decide ((k : Int) < (f.ow.length : Int)) = false:=by simp; omega
      have hke : k = f.ow.length:=by omega
      have HE : Hid (opF f v = (R.1,!difB f c n,true,R.2)):=hide (by rw [uh HOP2,hR,hke])
      clear hke hR
      go_wp2_with fail
      go_ret
      refine ⟨_,L,rfl,(uh hI).1.fl,by rw [uh HE]; exact (uh hI).2.1,?_,(uh hI).1.st⟩
      rw [uh HE]
      have h1:=(uh hI).1.bo
      rw [uh HNB,(uh hI).2.2] at h1
      simpa using h1
   ·rw [hdf] at hnb
    obtain ⟨W10,hW10⟩ : ∃ W10,W10 = w9:=⟨_,rfl⟩
    have HW : Hid (Bk W10 O 210 [nv,tv,.bool nb,.bool true,.bool fu] ∧ IsF W10 A f av ov ∧ Stp [O] w1 [O] W10):=hide ⟨by
     rw [hW10,hnb]
     simpa using uh HB9,by rw [hW10]; exact uh H9,by rw [hW10]; exact uh HS9⟩
    clear hnb hdf HB9 H9 HS9
    go_upto_region 11 with fail
    rw [← hW10]
    clear hW10
    have hOl0 : Ol w1 (W10.alloc (.cells #[] 66)) O nv tv nb true fu A f av ov (.slice (some ⟨W10.heap.size,0,none⟩) 0 0) []:=by
     obtain ⟨q1,q2,q3⟩:=uh HW
     have hbx:=below_boxQ W10 (.cells #[] 66)
     refine ⟨⟨?_,fun x hx=>by simp at hx,fun x hx=>by simp at hx,by simp [flF,Value.ownBlock]⟩,q1.below hbx,q2.below hbx,?_,uh HOL,uh HOF,uh HLT⟩
     ·have:=World.ownsRow_lit (base:=W10.heap.size) (e:=66) (size:=1) W10 #[] 0 (Nat.le_refl _) (by simp [maxLen]) rfl
      exact own_le this q3.size
     ·refine (q3.trans (Stp.ofBw hbx)).foots (fun k hk=>?_)
      rcases List.mem_cons.1 hk with rfl | hk
      ·exact Or.inl (by simp)
      ·right
       have e : k = W10.heap.size:=by simpa [flF,Value.ownBlock,eq_comm] using hk
       rw [e]; exact q3.size
    have HI0:=hide hOl0
    have hc6:=hOl0.ff.c6
    clear hOl0 HW
    go_wp2_with fail
    go_loopg [9,10] f.ow.length (fun gn lv iv wx=>∃ (k : Nat) (L : List FE) (fu' : Bool),k + gn = f.ow.length ∧ iv = .int .i64 k ∧ L.length ≤ 4 * k ∧ Hid (Ol w1 wx O nv tv nb true fu' A f av ov lv L ∧ L.map (·.f) = ((List.range k).foldl (fun r i=>opG f v i r) ([],false)).1 ∧ fu' = (fu || ((List.range k).foldl (fun r i=>opG f v i r) ([],false)).2)))
    case atStart=>exact ⟨0,[],fu,by omega,rfl,by simp,hide ⟨uh HI0,rfl,by simp⟩⟩
    case round =>
     clear HI0 hc6
     obtain ⟨k,L,fu',hkn,rfl,hLk,hI⟩:=hrel
     obtain ⟨G,hG⟩ : ∃ G,G = gk:=⟨_,rfl⟩
     obtain ⟨R,hR⟩ : ∃ R,R = (List.range k).foldl (fun r i=>opG f v i r) (([] : List CF),false):=⟨_,rfl⟩
     rw [← hR] at hI
     obtain ⟨la,lc,hlv,-,-⟩:=own_slc (uh hI).1.fl.row
     subst hlv
     have c6:=(uh hI).1.ff.c6
     obtain ⟨oa,oc,hov,-,-⟩:=own_slc (uh hI).1.ff.ow
     rw [hov] at c6
     clear hov
     by_cases hlt : k < f.ow.length
     ·have hd : decide ((k : Int) < (f.ow.length : Int)) = true:=by simp; omega
      have hst : (List.range (k + 1)).foldl (fun r i=>opG f v i r) (([] : List CF),false) = (meF f c k).foldl (fun r g=>fiA r g (g.cl.getD (1 + v) 0)) R:=by
       rw [range_fold,← hR,uh HC]
       rfl
      have HST:=hide hst
      have HME:=hide (meet_f (uh hI).1.ff (uh HO) ha hc24 hlt)
      have hMl:=meF_len f c k
      have HMk:=hide (meF_ok' (N:=40000) hv (uh HO) ha (by rw [← uh HC]; exact uh HBN) hlt)
      rw [← uh HC] at HMk
      have i4 : (0 : Int) ≤ (k : Int):=by omega
      clear hst hR
      go_wp2_with fail
      refine (uh HME).mono ?_
      rintro e w2 ⟨v2,L2,rfl,hfl2,hm2,hb2⟩
      have hOl2:=(uh hI).1.below hb2
      have hP2:=hfl2.pend
      have hL2 : L2.length = (meF f c k).length:=by rw [← hm2,List.length_map]
      have hdj : ∀ x ∈ fpP v2 L2 0,x ∉ flF (.slice la L.length lc) L:=fun x hx hn=>by
       have h1:=hP2.geB x hx
       have h2:=(uh hI).1.fl.lt x hn
       omega
      have hwB : w1.heap.size ≤ wr.heap.size:=(uh hI).1.st.size
      obtain ⟨B2,hB2⟩ : ∃ B2,B2 = wr.heap.size:=⟨_,rfl⟩
      rw [← hB2] at hP2 hwB
      obtain ⟨a2,c2,hv2,-,-⟩:=own_slc hP2.row
      subst hv2
      have HJ0:=hide (And.intro hOl2 (And.intro hP2 (And.intro hdj (And.intro (uh hI).2.1 (uh hI).2.2))))
      have HM2:=hide hm2
      have hL22 : L2.length ≤ 2:=by omega
      clear hfl2 hm2 hb2 hOl2 hP2 hdj hI HME hB2 c6 hL2 hMl
      go_wp2_with fail
      go_loopg [9,66] L2.length (fun gn lv iv wx=>∃ (j : Nat) (La : List FE) (fv : Bool),j + gn = L2.length ∧ iv = .int .i64 j ∧ La.length ≤ 4 * k + 2 * j ∧ Hid (Ol w1 wx O nv tv nb true fv A f av ov lv La ∧ Pend wx B2 (.slice a2 L2.length c2) L2 j ∧ (∀ x ∈ fpP (.slice a2 L2.length c2) L2 j,x ∉ flF lv La) ∧ La.map (·.f) = (((meF f c k).take j).foldl (fun r g=>fiA r g (g.cl.getD (1 + v) 0)) R).1 ∧ fv = (fu || (((meF f c k).take j).foldl (fun r g=>fiA r g (g.cl.getD (1 + v) 0)) R).2)))
      case atStart=>exact ⟨0,L,fu',by omega,rfl,by omega,HJ0⟩
      case round =>
       clear HJ0
       obtain ⟨j,La,fv,hjn,rfl,hLj,hJ⟩:=hrel
       obtain ⟨G2,hG2⟩ : ∃ G2,G2 = gk:=⟨_,rfl⟩
       by_cases hjl : j < L2.length
       ·have hd2 : decide ((j : Int) < (L2.length : Int)) = true:=by simp; omega
        obtain ⟨g2,cap2,hgv2,hcell⟩:=(uh hJ).2.1.cell hjl
        simp only [Value.slice.injEq,true_and] at hgv2
        obtain ⟨rfl,rfl⟩:=hgv2
        obtain ⟨hx,hxB,hPn,hPd,hPm⟩:=(uh hJ).2.1.next hjl
        have hjm : j < (meF f c k).length:=by rw [← uh HM2,List.length_map]; exact hjl
        have hfx : L2[j].f = (meF f c k)[j]:=by
         have:=congrArg (fun l=>l[j]?) (uh HM2)
         simp only [List.getElem?_map,List.getElem?_eq_getElem hjl,List.getElem?_eq_getElem hjm,Option.map_some,Option.some.injEq] at this
         exact this
        have hok:=uh HMk L2[j].f (by rw [hfx]; exact List.getElem_mem hjm)
        have htk:=take_foldl (fun r g=>fiA r g (g.cl.getD (1 + v) 0)) R hjm
        rw [← hfx] at htk
        obtain ⟨x,hxe⟩ : ∃ x,x = L2[j]:=⟨_,rfl⟩
        rw [← hxe] at hcell hx hxB hPd hPm hok htk
        obtain ⟨i',hi'⟩:=Option.isSome_iff_exists.1 hok.bg
        have hOl:=(uh hJ).1
        have hwg : ∀ y ∈ x.bs,w1.heap.size ≤ y:=fun y hy=>Nat.le_trans hwB (hxB y hy)
        obtain ⟨lva,lvc,hlv2,-,-⟩:=own_slc hOl.fl.row
        subst hlv2
        have HFI:=hide (first_any hOl.fl hOl.bo hx hok.ok hok.ln (fun y hy=>⟨(hOl.ne y hy).1,fun hn=>(uh hJ).2.2.1 y (hPm y hn) hy⟩) (fun hn=>by have h1:=hwg _ hn; have h2:=hOl.ol; omega) hwg hOl.st.size hi' (by omega))
        have xc:=hx.is.cls (i:=1 + v) (by omega)
        unfold clV at xc
        obtain ⟨cx,hcx⟩ : ∃ cx,cx = x.f.cl.getD (1 + v) 0:=⟨_,rfl⟩
        rw [← hcx] at xc HFI htk
        have HTK:=hide htk
        have HPN:=hide hPn
        have HPD:=hide hPd
        have HWG:=hide hwg
        have hxp : x.p = .pointer (some ⟨x.A,0,none⟩):=rfl
        rw [hxp] at hcell
        have i5 : (0 : Int) ≤ (j : Int):=by omega
        have i6 : (j : Int) < (L2.length : Int):=by omega
        have HJ:=hide (uh hJ)
        clear hx hxB hPn hPd hPm hjm hfx hok htk hxe hi' hOl hwg hcx hxp hJ
        go_wp2_with fail
        refine (uh HFI).mono ?_
        rintro e w3 ⟨v3,L3,rfl,hfl3,hm3,hbo3,hs3⟩
        have hOl3:=(uh HJ).1.after (uh HWG) hfl3 hbo3 hs3
        have hP3 : Pend w3 B2 (.slice (some ⟨g2,0,none⟩) L2.length c2) L2 (j + 1):=(uh HPN).stp hs3 (fun y hy hn=>by
         rcases List.mem_cons.1 hn with rfl | hn
         ·have h1:=(uh HPN).geB _ hy
          have h2:=(uh HJ).1.ol
          omega
         ·rcases List.mem_append.1 hn with hn | hn
          ·exact (uh HJ).2.2.1 y (uh HPD y hy).1 hn
          ·exact (uh HPD y hy).2 hn)
        have hD3 : ∀ y ∈ fpP (.slice (some ⟨g2,0,none⟩) L2.length c2) L2 (j + 1),y ∉ flF v3 (La ++ L3):=fun y hy hn=>by
         rcases hs3.foot y (List.mem_cons_of_mem _ hn) with q | q
         ·rcases List.mem_cons.1 q with rfl | q
          ·have h1:=(uh HPN).geB _ hy
           have h2:=(uh HJ).1.ol
           omega
          ·rcases List.mem_append.1 q with q | q
           ·exact (uh HJ).2.2.1 y (uh HPD y hy).1 q
           ·exact (uh HPD y hy).2 q
         ·have:=(uh HPN).lt y hy; omega
        have hl3 : L3.length ≤ 2:=by
         have:=fiF_len x.f cx
         rw [← hm3,List.length_map] at this
         exact this
        have hN3 : (La ++ L3).map (·.f) = (((meF f c k).take (j + 1)).foldl (fun r g=>fiA r g (g.cl.getD (1 + v) 0)) R).1:=by
         rw [uh HTK,List.map_append,(uh HJ).2.2.2.1,hm3]
         rfl
        have hN4 : (fv || (fiF x.f cx).2) = (fu || (((meF f c k).take (j + 1)).foldl (fun r g=>fiA r g (g.cl.getD (1 + v) 0)) R).2):=by
         rw [uh HTK,(uh HJ).2.2.2.2,Bool.or_assoc]
         rfl
        obtain ⟨a3,c3,hv3,-,-⟩:=own_slc hfl3.row
        subst hv3
        have HN:=hide (And.intro hOl3 (And.intro hP3 (And.intro hD3 (And.intro hN3 hN4))))
        have hll : (La ++ L3).length ≤ 4 * k + 2 * (j + 1):=by rw [List.length_append]; omega
        clear hfl3 hm3 hbo3 hs3 hOl3 hP3 hD3 hN3 hN4 HFI HJ HPN HPD HWG HTK hcell xc
        go_wp2_with fail
        go_roundg (G2 - 1)
        case rel=>exact ⟨j + 1,La ++ L3,_,by omega,by go_num,hll,hide (by have h:=uh HN; rw [List.length_append] at h; exact h)⟩
        case measure=>omega
       ·have hd2 : decide ((j : Int) < (L2.length : Int)) = false:=by simp; omega
        have hjm : (meF f c k).length ≤ j:=by rw [← uh HM2,List.length_map]; omega
        have hN:=uh hJ
        rw [List.take_of_length_le hjm,← uh HST] at hN
        have HN:=hide (And.intro hN.1 (And.intro hN.2.2.2.1 hN.2.2.2.2))
        have hll : La.length ≤ 4 * (k + 1):=by omega
        obtain ⟨lva,lvc,hlv2,-,-⟩:=own_slc hN.1.fl.row
        subst hlv2
        clear hN hJ hjm
        go_wp2_with fail
        go_roundg (G - 1)
        case rel=>exact ⟨k + 1,La,fv,by omega,by go_num,hll,HN⟩
        case measure=>omega
     ·have hd : decide ((k : Int) < (f.ow.length : Int)) = false:=by simp; omega
      have hke : k = f.ow.length:=by omega
      have HE : Hid (opF f v = (R.1,!difB f c n,true,R.2)):=hide (by rw [uh HOP2,hR,hke])
      clear hke hR
      go_wp2_with fail
      go_ret
      refine ⟨_,L,rfl,(uh hI).1.fl,by rw [uh HE]; exact (uh hI).2.1,?_,(uh hI).1.st⟩
      rw [uh HE]
      have h1:=(uh hI).1.bo
      rw [uh HNB,(uh hI).2.2] at h1
      simpa using h1
end
structure Os (w W : World) (O A : Nat) (f : CF) (av ov : Value) (nu da fu : Bool) (nv tv : Value) (Ln Lt : List FE) : Prop where
 oo : Oo W O nu da fu nv tv Ln Lt
 ff : IsF W A f av ov
 st : Stp [O] w (fpO O nv tv Ln Lt) W
 ol : O < w.heap.size
 of : O ∉ bsF A av ov
 fw : ∀ k ∈ bsF A av ov,k < w.heap.size
def OutP (w : World) (O : Nat) (o : Out) (w' : World) : Prop:=∃ nv tv Ln Lt,Oo w' O o.nu o.da o.fu nv tv Ln Lt ∧ Ln.map (·.f) = o.nx ∧ Lt.map (·.f) = o.ot ∧ Stp [O] w (fpO O nv tv Ln Lt) w'
section
variable {w W W' : World} {O A : Nat} {f : CF} {av ov nv tv : Value} {nu da fu : Bool} {Ln Lt : List FE}
theorem Os.start (h : Oo w O nu da fu nv tv Ln Lt) (hf : IsF w A f av ov) (hn : fpO O nv tv Ln Lt = [O]) (hof : O ∉ bsF A av ov) : Os w w O A f av ov nu da fu nv tv Ln Lt:=⟨h,hf,(Stp.refl [O] w).foots (fun k hk=>by rw [hn] at hk; exact Or.inl hk),h.bk.lt,hof,hf.lt⟩
theorem Os.ge (h : Os w W O A f av ov nu da fu nv tv Ln Lt) : ∀ k ∈ fpO O nv tv Ln Lt,k = O ∨ w.heap.size ≤ k:=fun k hk=>by
 rcases h.st.foot k hk with q | q
 ·exact Or.inl (by simpa using q)
 ·exact Or.inr q
theorem Os.below (h : Os w W O A f av ov nu da fu nv tv Ln Lt) (hb : Below W.heap.size W W') : Os w W' O A f av ov nu da fu nv tv Ln Lt :=
 ⟨h.oo.below hb,h.ff.below hb,⟨hb.os.trans h.st.os,hb.tape.trans h.st.tape,hb.output.trans h.st.output,Nat.le_trans h.st.size hb.size,fun k hk hn=>(hb.block k (Nat.lt_of_lt_of_le hk h.st.size)).trans (h.st.block k hk hn),h.st.foot⟩,h.ol,h.of,h.fw⟩
theorem Os.fresh (h : Os w W O A f av ov nu da fu nv tv Ln Lt) {x : FE} (hx : ∀ k ∈ x.bs,W.heap.size ≤ k) : ∀ k ∈ x.bs,k ∉ fpO O nv tv Ln Lt:=fun k hk hn=>by have:=hx k hk; have:=h.oo.lt k hn; omega
theorem Os.next {B : List Nat} {nv' tv' : Value} {Ln' Lt' : List FE} {nu' da' fu' : Bool} (h : Os w W O A f av ov nu da fu nv tv Ln Lt) (hB : ∀ k ∈ B,w.heap.size ≤ k) (h1 : Oo W' O nu' da' fu' nv' tv' Ln' Lt') (hs : Stp (fpO O nv tv Ln Lt ++ B) W (fpO O nv' tv' Ln' Lt') W') : Os w W' O A f av ov nu' da' fu' nv' tv' Ln' Lt':=by
 have key : ∀ k,k < w.heap.size → k ≠ O → k ∉ fpO O nv tv Ln Lt ++ B:=fun k hk hne hn=>by
  rcases List.mem_append.1 hn with hn | hn
  ·rcases h.ge k hn with q | q
   ·exact hne q
   ·omega
  ·have:=hB k hn; omega
 refine ⟨h1,h.ff.of_eq (fun k hk=>hs.block k (h.ff.lt k hk) (key k (h.fw k hk) (fun e=>h.of (by rw [← e]; exact hk)))),⟨hs.os.trans h.st.os,hs.tape.trans h.st.tape,hs.output.trans h.st.output,Nat.le_trans h.st.size hs.size,fun k hk hn=>?_,fun k hk=>?_⟩,h.ol,h.of,h.fw⟩
 ·exact (hs.block k (Nat.lt_of_lt_of_le hk h.st.size) (key k hk (by simpa using hn))).trans (h.st.block k hk hn)
 ·rcases hs.foot k hk with q | q
  ·rcases List.mem_append.1 q with q | q
   ·exact h.st.foot k q
   ·exact Or.inr (hB k q)
  ·exact Or.inr (Nat.le_trans h.st.size q)
theorem Os.out {o : Out} (h : Os w W O A f av ov o.nu o.da o.fu nv tv Ln Lt) (h1 : Ln.map (·.f) = o.nx) (h2 : Lt.map (·.f) = o.ot) : OutP w O o W:=⟨nv,tv,Ln,Lt,h.oo,h1,h2,h.st⟩
set_option maxRecDepth 100000 in
set_option maxHeartbeats 4000000 in
theorem assign_any {v c : Nat} (h : Os w w O A f av ov false false false (.slice none 0 0) (.slice none 0 0) [] []) (hO : FoOk f) (ha : f.ap.length ≤ 40000) (hv : v < 4) (hc : c < 24) :
  Calls Tryz.prog 160 #[.pointer (some ⟨O,0,none⟩),.pointer (some ⟨A,0,none⟩),.int .i64 v,.int .i64 c] w fun e w'=>e = .returned (.tuple #[]) ∧ OutP w O ⟨[tdF (setC f (1 + v) c)],[],false,false,false⟩ w':=by
 have hol:=hO.owLen
 have HCP:=hide (copy_any h.ff hO.c5 ha (Nat.le_trans hol (by omega)))
 have H:=hide h
 have HO:=hide hO
 have i1 : (0 : Int) ≤ 1 + (v : Int):=by omega
 have i2 : 1 + (v : Int) < 5:=by omega
 have i3 : (1 + (v : Int)).toNat = 1 + v:=by omega
 clear h hO
 go_enter Tryz.func160,Tryz.ntmps160
 go_wp2_with fail
 refine (uh HCP).mono ?_
 rintro e w1 ⟨A1,rfl,hN1⟩
 obtain ⟨av1,ov1,hf1⟩:=hN1.frf
 have x1:=hf1.fm.is.cls (i:=1 + v) (by omega)
 have z1:=World.ownsRow.frozenAt hf1.fm.is.ob (1 + v)
 have hF2:=hf1.fm.setCl (1 + v) c (by omega)
 obtain ⟨w2,hw2⟩ : ∃ w2,w2 = w1.setCell ⟨A1,1 + v,none⟩ (.int .i64 (c : Int)):=⟨_,rfl⟩
 rw [← hw2] at hF2
 have hs2 : Stp (bsF A1 av1 ov1) w1 (bsF A1 av1 ov1) w2:=by rw [hw2]; exact (Stp.refl _ _).setCell (p:=⟨A1,1 + v,none⟩) (Or.inl (by simp [bsF])) _
 have hf2:=hf1.step (x':=⟨A1,setC f (1 + v) c,av1,ov1⟩) hF2 hs2
 have hO2:=(uh H).below hf2.bw
 have HGO:=hide (goOn_any hO2.oo hf2.fm ((uh HO).sC (1 + v) hc) (Nat.le_trans ha (by omega)) ((uh H).fresh hf2.ge) (by simp))
 have HO2:=hide hO2
 have HGE:=hide hf2.ge
 clear hN1 hf1 hF2 hs2 hf2 hO2 HCP
 go_upto_region 2 with fail
 rw [← hw2]
 clear hw2 x1 z1
 go_wp2_with fail
 refine (uh HGO).mono ?_
 rintro e w3 ⟨rfl,nv3,x3,-,hx3,hoo3,hs3⟩
 have HN:=hide ((uh HO2).next (uh HGE) hoo3 hs3)
 have HX:=hide hx3
 clear hoo3 hs3 hx3 HGO
 go_wp2_with fail
 go_end0
 exact ⟨rfl,(uh HN).out (o:=⟨[tdF (setC f (1 + v) c)],[],false,false,false⟩) (by simp [uh HX]) rfl⟩
set_option maxRecDepth 100000 in
set_option maxHeartbeats 4000000 in
theorem create_any {v : Nat} (h : Os w w O A f av ov false false false (.slice none 0 0) (.slice none 0 0) [] []) (hO : FoOk f) (ha : f.ap.length ≤ 40000) (hv : v < 4) :
  Calls Tryz.prog 164 #[.pointer (some ⟨O,0,none⟩),.pointer (some ⟨A,0,none⟩),.int .i64 v] w fun e w'=>e = .returned (.tuple #[]) ∧ OutP w O (if 24 ≤ namF f then ⟨[],[],false,false,true⟩ else ⟨[tdF (crG f v)],[],false,false,false⟩) w':=by
 have hol:=hO.owLen
 have hnm : namF f ≤ 100000:=by
  unfold namF
  have h1:=mxP_lt24 hO
  omega
 have HNM:=hide (fnames_any h.ff (Nat.le_trans ha (by omega)) (Nat.le_trans hol (by omega)) hnm)
 obtain ⟨N,hN⟩ : ∃ N,N = namF f:=⟨_,rfl⟩
 have HNE:=hide hN
 rw [← hN] at HNM hnm ⊢
 obtain ⟨oR,hoR⟩ : ∃ oR : Out,oR = if 24 ≤ N then ⟨[],[],false,false,true⟩ else ⟨[tdF (crG f v)],[],false,false,false⟩:=⟨_,rfl⟩
 rw [← hoR]
 have HOR:=hide hoR
 clear hoR
 have H:=hide h
 have HO:=hide hO
 have i1 : (0 : Int) ≤ 1 + (v : Int):=by omega
 have i2 : 1 + (v : Int) < 5:=by omega
 have i3 : (1 + (v : Int)).toNat = 1 + v:=by omega
 clear h hO hN
 go_enter Tryz.func164,Tryz.ntmps164
 go_wp2_with fail
 refine (uh HNM).mono ?_
 rintro e w1 ⟨rfl,hb1⟩
 have hO1:=(uh H).below hb1
 have HO1:=hide hO1
 clear hb1 HNM
 by_cases hfull : 24 ≤ N
 ·have d5 : decide ((24 : Int) ≤ (N : Int)) = true:=by simp; omega
  have o4:=hO1.oo.bk.cell 4 rfl
  have z4:=hO1.oo.bk.frz 4
  have HN:=hide (hO1.next (B:=[]) (fun k hk=>by simp at hk) (hO1.oo.flag (nu':=false) (da':=false) (fu':=true) 4 (by omega) rfl) (((Stp.refl (fpO O (.slice none 0 0) (.slice none 0 0) [] []) w1).setCell (p:=⟨O,4,none⟩) (Or.inl (by simp [fpO])) (.bool true)).wide (by simp) |>.foots (fun k hk=>Or.inl (by simpa using hk))))
  have HOE : Hid (oR = ⟨[],[],false,false,true⟩):=hide (by rw [uh HOR,if_pos hfull])
  clear hO1 hfull
  go_wp2_with fail
  refine bodyPost_ret (v:=.tuple #[]) (by simp [results,Tryz.results164]) rfl ?_
  exact ⟨rfl,by rw [uh HOE]; exact (uh HN).out (o:=⟨[],[],false,false,true⟩) rfl rfl⟩
 ·have d5 : decide ((24 : Int) ≤ (N : Int)) = false:=by simp; omega
  have HOE : Hid (oR = ⟨[tdF (crG f v)],[],false,false,false⟩):=hide (by rw [uh HOR,if_neg hfull])
  have HCP:=hide (copy_any hO1.ff (uh HO).c5 ha (Nat.le_trans hol (by omega)))
  have hN24 : N < 24:=by omega
  clear hfull hO1
  go_wp2_with fail
  refine (uh HCP).mono ?_
  rintro e w2 ⟨A2,rfl,hN2⟩
  obtain ⟨av2,ov2,hf2⟩:=hN2.frf
  have x0:=hf2.fm.is.cls (i:=0) (by omega)
  unfold clV at x0
  obtain ⟨n0,hn0⟩ : ∃ n0,n0 = f.cl.getD 0 0:=⟨_,rfl⟩
  rw [show (({ A:=A2,f:=f,av:=av2,ov:=ov2 } : FE).f.cl.getD 0 0 : Nat) = n0 from hn0.symm] at x0
  have HLY:=hide (lay_any hf2.fm 3 N n0 (Nat.le_trans hol (by omega)))
  have HF2:=hide hf2
  have HN0:=hide hn0
  clear hN2 hf2 HCP hn0
  go_wp2_with fail
  refine (uh HLY).mono ?_
  rintro e w3 ⟨rfl,ov3,hF3,hS3⟩
  have hf3:=(uh HF2).step (x':=⟨A2,layF f ⟨3,N,n0⟩,av2,ov3⟩) hF3 hS3
  have x1:=hf3.fm.is.cls (i:=1 + v) (by omega)
  have z1:=World.ownsRow.frozenAt hf3.fm.is.ob (1 + v)
  have hF4:=hf3.fm.setCl (1 + v) N (by omega)
  obtain ⟨w4,hw4⟩ : ∃ w4,w4 = w3.setCell ⟨A2,1 + v,none⟩ (.int .i64 (N : Int)):=⟨_,rfl⟩
  rw [← hw4] at hF4
  have hs4 : Stp (bsF A2 av2 ov3) w3 (bsF A2 av2 ov3) w4:=by rw [hw4]; exact (Stp.refl _ _).setCell (p:=⟨A2,1 + v,none⟩) (Or.inl (by simp [bsF])) _
  have hcr : setC (layF f ⟨3,N,n0⟩) (1 + v) N = crG f v:=by unfold crG; rw [← uh HNE,← uh HN0]
  have hf4:=hf3.step (x':=⟨A2,crG f v,av2,ov3⟩) (by rw [← hcr]; exact hF4) hs4
  have hO4:=(uh HO1).below hf4.bw
  have HGO:=hide (goOn_any hO4.oo hf4.fm (crG_ok (uh HO) (by rw [← uh HNE]; exact hN24)) (Nat.le_trans ha (by omega)) ((uh HO1).fresh hf4.ge) (by simp))
  have HO4:=hide hO4
  have HGE:=hide (fun k hk=>Nat.le_trans (uh HO1).st.size (hf4.ge k hk))
  clear hf3 hF3 hS3 hF4 hs4 hf4 hO4 HLY hcr
  go_upto_region 6 with fail
  rw [← hw4]
  clear hw4 x1 z1 x0
  go_wp2_with fail
  refine (uh HGO).mono ?_
  rintro e w5 ⟨rfl,nv5,x5,-,hx5,hoo5,hs5⟩
  have HN:=hide ((uh HO4).next (uh HGE) hoo5 hs5)
  have HX:=hide hx5
  clear hoo5 hs5 hx5 HGO
  go_wp2_with fail
  go_end0
  exact ⟨rfl,by rw [uh HOE]; exact (uh HN).out (o:=⟨[tdF (crG f v)],[],false,false,false⟩) (by simp [uh HX]) rfl⟩
end
def ndV (n : Nd) : Value:=.agg #[.int .i64 (n.op : Int),.int .i64 (n.v : Int),.int .i64 (n.ak : Int),.int .i64 (n.ai : Int),.int .i64 (n.nx : Int),.int .i64 (n.ot : Int)]
theorem bw_drewN (w : World) (n : Nat) : Below w.heap.size w (w.drewN n):=⟨rfl,rfl,rfl,Nat.le_refl _,fun _ _=>rfl⟩
section
variable {w W W' : World} {O A : Nat} {f : CF} {av ov nv tv : Value} {nu da fu : Bool} {Ln Lt : List FE}
set_option maxRecDepth 100000 in
set_option maxHeartbeats 8000000 in
theorem compare_any {n : Nd} (h : Os w w O A f av ov false false false (.slice none 0 0) (.slice none 0 0) [] []) (hO : FoOk f) (ha : f.ap.length ≤ 40000) (hv : n.v < 4) (hi : n.ai < 4) :
  Calls Tryz.prog 169 #[.pointer (some ⟨O,0,none⟩),.pointer (some ⟨A,0,none⟩),ndV n] w fun e w'=>e = .returned (.tuple #[]) ∧ OutP w O ⟨(cmO f n).1,(cmO f n).2,false,false,false⟩ w':=by
 have hol:=hO.owLen
 have hcm : cmO f n = (if difB f (f.cl.getD (1 + n.v) 0) (clT f n.ak n.ai) = true then [] else [tdF (joF f (f.cl.getD (1 + n.v) 0) (clT f n.ak n.ai))],if f.cl.getD (1 + n.v) 0 = clT f n.ak n.ai then [] else [tdF (parF f (f.cl.getD (1 + n.v) 0) (clT f n.ak n.ai))]):=rfl
 obtain ⟨op,v,ak,ai,nx,ot⟩:=n
 simp only at hv hi hcm
 unfold ndV
 simp only
 obtain ⟨W1,hW1⟩ : ∃ W1,W1 = w.alloc (.cells #[Value.int .i64 (op : Int),.int .i64 (v : Int),.int .i64 (ak : Int),.int .i64 (ai : Int),.int .i64 (nx : Int),.int .i64 (ot : Int)] 113):=⟨_,rfl⟩
 have hbx : Below w.heap.size w W1:=by rw [hW1]; exact below_boxQ w _
 have hX : Bk W1 w.heap.size 113 [Value.int .i64 (op : Int),.int .i64 (v : Int),.int .i64 (ak : Int),.int .i64 (ai : Int),.int .i64 (nx : Int),.int .i64 (ot : Int)]:=by rw [hW1]; exact Bk.new w _ _
 obtain ⟨X,hXe⟩ : ∃ X,X = w.heap.size:=⟨_,rfl⟩
 rw [← hXe] at hX
 have hO1:=h.below hbx
 have b1:=hX.cell 1 rfl
 have b2:=hX.cell 2 rfl
 have b3:=hX.cell 3 rfl
 have x1:=hO1.ff.cls (i:=1 + v) (by omega)
 unfold clV at x1
 obtain ⟨a,haE⟩ : ∃ a,a = f.cl.getD (1 + v) 0:=⟨_,rfl⟩
 obtain ⟨b,hbE⟩ : ∃ b,b = clT f ak ai:=⟨_,rfl⟩
 rw [← haE] at x1
 rw [← haE,← hbE] at hcm
 have ha24 : a < 24:=by rw [haE]; exact hO.get _
 have hb24 : b < 24:=by rw [hbE]; exact hO.cT _ _
 have i1 : (0 : Int) ≤ 1 + (v : Int):=by omega
 have i2 : 1 + (v : Int) < 5:=by omega
 have i3 : (1 + (v : Int)).toNat = 1 + v:=by omega
 obtain ⟨oR,hoR⟩ : ∃ oR : Out,oR = ⟨(cmO f ⟨op,v,ak,ai,nx,ot⟩).1,(cmO f ⟨op,v,ak,ai,nx,ot⟩).2,false,false,false⟩:=⟨_,rfl⟩
 rw [← hoR]
 rw [hcm] at hoR
 have HOR:=hide hoR
 have HO:=hide hO
 have H1:=hide hO1
 have HBE:=hide hbE
 clear h hO hO1 hoR hcm hbx hX haE hbE
 go_enter Tryz.func169,Tryz.ntmps169
 go_upto_region 1 with fail
 rw [← hW1,← hXe]
 clear hW1 hXe
 go_quiet (fail)
 obtain ⟨W2,hW2⟩ : ∃ W2,W2 = W1.drewN nq:=⟨_,rfl⟩
 rw [← hW2]
 have hb2 : Below W1.heap.size W1 W2:=by rw [hW2]; exact bw_drewN W1 nq
 have d2 : W2.cell? ⟨X,2,none⟩ = some (.int .i64 (ak : Int)):=by rw [hW2]; exact b2
 have d3 : W2.cell? ⟨X,3,none⟩ = some (.int .i64 (ai : Int)):=by rw [hW2]; exact b3
 have hO2:=(uh H1).below hb2
 have HCL:=hide (class_any hO2.ff ak ai hi)
 rw [← uh HBE] at HCL
 have H2:=hide hO2
 clear hW2 hb2 hO2 b1 b2 b3 x1 H1
 go_wp2_with fail
 refine (uh HCL).mono ?_
 rintro e W3 ⟨rfl,hb3⟩
 have hO3:=(uh H2).below hb3
 have HDF:=hide (differ_any a b hO3.ff)
 have H3:=hide hO3
 clear hb3 hO3 H2 HCL d2 d3
 go_wp2_with fail
 refine (uh HDF).mono ?_
 rintro e W4 ⟨rfl,hb4⟩
 have hO4:=(uh H3).below hb4
 have H4:=hide hO4
 clear hb4 H3 HDF
 cases hdf : difB f a b
 ·
  rw [hdf] at HOR
  have HCP:=hide (copy_any hO4.ff (uh HO).c5 ha (Nat.le_trans hol (by omega)))
  have HDD:=hide (dif_apart hdf)
  clear hO4 hdf
  go_wp2_with fail
  refine (uh HCP).mono ?_
  rintro e W5 ⟨A5,rfl,hN5⟩
  obtain ⟨av5,ov5,hf5⟩:=hN5.frf
  have HJO:=hide (fjoin_any hf5.fm (Nat.le_trans ha (by omega)) (Nat.le_trans hol (by omega)) a b)
  have HF5:=hide hf5
  clear hN5 hf5 HCP
  go_wp2_with fail
  refine (uh HJO).mono ?_
  rintro e W6 ⟨rfl,hF6,hS6⟩
  have hf6:=(uh HF5).step (x':=⟨A5,joF f a b,av5,ov5⟩) hF6 hS6
  have hO6:=(uh H4).below hf6.bw
  have HGO:=hide (goOn_any hO6.oo hf6.fm ((uh HO).jo ha24 (uh HDD)) (by
   show (f.ap.map _).length ≤ 100000
   rw [List.length_map]; omega) ((uh H4).fresh hf6.ge) (by simp))
  have H6:=hide hO6
  have HGE:=hide (fun k hk=>Nat.le_trans (uh H4).st.size (hf6.ge k hk))
  clear hF6 hS6 hf6 hO6 HJO
  go_wp2_with fail
  refine (uh HGO).mono ?_
  rintro e W7 ⟨rfl,nv7,x7,-,hx7,hoo7,hs7⟩
  have hO7:=(uh H6).next (uh HGE) hoo7 hs7
  have H7:=hide hO7
  have HX7:=hide hx7
  clear hoo7 hs7 hx7 HGO
  by_cases hab : a = b
  ·have d1 : ((a : Int) != (b : Int)) = false:=by simp [hab]
   have HOE : Hid (oR = ⟨[tdF (joF f a b)],[],false,false,false⟩):=hide (by rw [uh HOR,if_neg (by decide),if_pos hab])
   clear hab hO7
   go_wp2_with fail
   go_end0
   exact ⟨rfl,by rw [uh HOE]; exact (uh H7).out (o:=⟨[tdF (joF f a b)],[],false,false,false⟩) (by simp [uh HX7]) rfl⟩
  ·have d1 : ((a : Int) != (b : Int)) = true:=by rw [bne_iff_ne]; omega
   have HOE : Hid (oR = ⟨[tdF (joF f a b)],[tdF (parF f a b)],false,false,false⟩):=hide (by rw [uh HOR,if_neg (by decide),if_neg hab])
   have HCP:=hide (copy_any hO7.ff (uh HO).c5 ha (Nat.le_trans hol (by omega)))
   clear hab hO7
   go_wp2_with fail
   refine (uh HCP).mono ?_
   rintro e W8 ⟨A8,rfl,hN8⟩
   obtain ⟨av8,ov8,hf8⟩:=hN8.frf
   have HPA:=hide (part_any hf8.fm a b (Nat.le_trans ha (by omega)))
   have HF8:=hide hf8
   clear hN8 hf8 HCP
   go_wp2_with fail
   refine (uh HPA).mono ?_
   rintro e W9 ⟨rfl,av9,hF9,hS9⟩
   have hf9:=(uh HF8).step (x':=⟨A8,parF f a b,av9,ov8⟩) hF9 hS9
   have hO9:=(uh H7).below hf9.bw
   have HTU:=hide (turn_any hO9.oo hf9.fm ((uh HO).pa ha24 hb24) (by
    show (f.ap ++ [_]).length ≤ 100000
    rw [List.length_append,List.length_singleton]; omega) ((uh H7).fresh hf9.ge) (by simp))
   have H9:=hide hO9
   have HGE9:=hide (fun k hk=>Nat.le_trans (uh H7).st.size (hf9.ge k hk))
   clear hF9 hS9 hf9 hO9 HPA
   go_wp2_with fail
   refine (uh HTU).mono ?_
   rintro e Wa ⟨rfl,tva,xa,-,hxa,hooa,hsa⟩
   have HN:=hide ((uh H9).next (uh HGE9) hooa hsa)
   have HXA:=hide hxa
   clear hooa hsa hxa HTU
   go_wp2_with fail
   go_end0
   exact ⟨rfl,by rw [uh HOE]; exact (uh HN).out (o:=⟨[tdF (joF f a b)],[tdF (parF f a b)],false,false,false⟩) (by simp [uh HX7]) (by simp [uh HXA])⟩
 ·rw [hdf] at HOR
  have hab : a ≠ b:=fun e=>by rw [e] at hdf; unfold difB at hdf; simp at hdf
  have d1 : ((a : Int) != (b : Int)) = true:=by rw [bne_iff_ne]; omega
  have HOE : Hid (oR = ⟨[],[tdF (parF f a b)],false,false,false⟩):=hide (by rw [uh HOR,if_pos rfl,if_neg hab])
  have HCP:=hide (copy_any hO4.ff (uh HO).c5 ha (Nat.le_trans hol (by omega)))
  clear hab hO4 hdf
  go_wp2_with fail
  refine (uh HCP).mono ?_
  rintro e W8 ⟨A8,rfl,hN8⟩
  obtain ⟨av8,ov8,hf8⟩:=hN8.frf
  have HPA:=hide (part_any hf8.fm a b (Nat.le_trans ha (by omega)))
  have HF8:=hide hf8
  clear hN8 hf8 HCP
  go_wp2_with fail
  refine (uh HPA).mono ?_
  rintro e W9 ⟨rfl,av9,hF9,hS9⟩
  have hf9:=(uh HF8).step (x':=⟨A8,parF f a b,av9,ov8⟩) hF9 hS9
  have hO9:=(uh H4).below hf9.bw
  have HTU:=hide (turn_any hO9.oo hf9.fm ((uh HO).pa ha24 hb24) (by
   show (f.ap ++ [_]).length ≤ 100000
   rw [List.length_append,List.length_singleton]; omega) ((uh H4).fresh hf9.ge) (by simp))
  have H9:=hide hO9
  have HGE9:=hide (fun k hk=>Nat.le_trans (uh H4).st.size (hf9.ge k hk))
  clear hF9 hS9 hf9 hO9 HPA
  go_wp2_with fail
  refine (uh HTU).mono ?_
  rintro e Wa ⟨rfl,tva,xa,-,hxa,hooa,hsa⟩
  have HN:=hide ((uh H9).next (uh HGE9) hooa hsa)
  have HXA:=hide hxa
  clear hooa hsa hxa HTU
  go_wp2_with fail
  go_end0
  exact ⟨rfl,by rw [uh HOE]; exact (uh HN).out (o:=⟨[],[tdF (parF f a b)],false,false,false⟩) rfl (by simp [uh HXA])⟩
end
def nilS : Value:=.slice none 0 0
structure Lo (w W : World) (O A : Nat) (f : CF) (av ov : Value) (nu da fu : Bool) (nv : Value) (Ln : List FE) (B : Nat) (lv : Value) (L : List FE) (j : Nat) : Prop where
 os : Os w W O A f av ov nu da fu nv nilS Ln []
 pe : Pend W B lv L j
 dj : ∀ k ∈ fpP lv L j,k ∉ fpO O nv nilS Ln []
 wB : w.heap.size ≤ B
section
variable {w W W' : World} {O A : Nat} {f : CF} {av ov nv lv : Value} {nu da fu : Bool} {Ln L : List FE} {B j : Nat}
theorem Lo.mid {x' : FE} (h : Lo w W O A f av ov nu da fu nv Ln B lv L j) (hj : j < L.length) (hs : Stp L[j].bs W x'.bs W') :
  Os w W' O A f av ov nu da fu nv nilS Ln [] ∧ (∀ k ∈ x'.bs,k ∉ fpO O nv nilS Ln []) ∧ (∀ k ∈ x'.bs,w.heap.size ≤ k) ∧ Pend W' B lv L (j + 1) ∧ (∀ k ∈ fpP lv L (j + 1),k ∉ fpO O nv nilS Ln [] ∧ k ∉ x'.bs):=by
 obtain ⟨h1,h2,h3,h4,h5⟩:=h.pe.next hj
 have hno : ∀ k ∈ L[j].bs,k ∉ fpO O nv nilS Ln []:=fun k hk=>h.dj k (h5 k hk)
 have hoo : Oo W' O nu da fu nv nilS Ln []:=h.os.oo.stp hs (fun k hk hn=>hno k hn hk)
 refine ⟨h.os.next (B:=L[j].bs) (fun k hk=>Nat.le_trans h.wB (h2 k hk)) hoo ((hs.wide (fun k hk=>List.mem_append_right _ hk)).foots (fun k hk=>Or.inl (List.mem_append_left _ hk))),fun k hk hn=>?_,fun k hk=>?_,h3.stp hs (fun k hk hn=>(h4 k hk).2 hn),fun k hk=>⟨h.dj k (h4 k hk).1,fun hn=>?_⟩⟩
 ·rcases hs.foot k hk with q | q
  ·exact hno k q hn
  ·have:=h.os.oo.lt k hn; omega
 ·rcases hs.foot k hk with q | q
  ·exact Nat.le_trans h.wB (h2 k q)
  ·exact Nat.le_trans h.os.st.size q
 ·rcases hs.foot k hn with q | q
  ·exact (h4 k hk).2 q
  ·have:=h3.lt k hk; omega
theorem Lo.fin {x' y : FE} {nv' : Value} {W'' : World} (hO : Os w W' O A f av ov nu da fu nv nilS Ln []) (hge : ∀ k ∈ x'.bs,w.heap.size ≤ k) (hP : Pend W' B lv L (j + 1)) (hd : ∀ k ∈ fpP lv L (j + 1),k ∉ fpO O nv nilS Ln [] ∧ k ∉ x'.bs) (hw : w.heap.size ≤ B)
  (hoo : Oo W'' O nu da fu nv' nilS (Ln ++ [y]) []) (hs : Stp (fpO O nv nilS Ln [] ++ x'.bs) W' (fpO O nv' nilS (Ln ++ [y]) []) W'') : Lo w W'' O A f av ov nu da fu nv' (Ln ++ [y]) B lv L (j + 1):=by
 have hn : ∀ k ∈ fpP lv L (j + 1),k ∉ fpO O nv nilS Ln [] ++ x'.bs:=fun k hk hm=>by
  rcases List.mem_append.1 hm with q | q
  ·exact (hd k hk).1 q
  ·exact (hd k hk).2 q
 refine ⟨hO.next hge hoo hs,hP.stp hs hn,fun k hk hm=>?_,hw⟩
 rcases hs.foot k hm with q | q
 ·exact hn k hk q
 ·have:=hP.lt k hk; omega
theorem Lo.start {w2 : World} {nu' da' fu' : Bool} (h : Os w W O A f av ov nu da fu nilS nilS [] []) (hfl : Fl w2 W.heap.size lv L) (hbo : Bk w2 O 210 [nilS,nilS,.bool nu',.bool da',.bool fu']) (hs : Stp [O] W (O :: flF lv L) w2) : Lo w w2 O A f av ov nu' da' fu' nilS [] W.heap.size lv L 0:=by
 have hfp : fpO O nilS nilS [] [] = [O]:=rfl
 have hnil : Fl w2 0 nilS []:=Fl.nil0 w2 0
 refine ⟨⟨⟨hbo,hnil,hnil,by simp [flF,nilS,Value.ownBlock]⟩,h.ff.of_eq (fun k hk=>hs.block k (h.ff.lt k hk) (fun hn=>h.of (by rw [List.mem_singleton] at hn; rw [← hn]; exact hk))),?_,h.ol,h.of,h.fw⟩,hfl.pend,fun k hk hn=>?_,h.st.size⟩
 ·rw [hfp]
  have h0:=h.st
  rw [hfp] at h0
  exact (h0.trans (hs.foots (F'':=[O]) (fun k hk=>Or.inl hk)))
 ·rw [hfp,List.mem_singleton] at hn
  have h1:=hfl.pend.geB k hk
  have h2:=h.ol
  have h3:=h.st.size
  omega
end
end Go.Proofs.YtciihepbeacppabGreat
