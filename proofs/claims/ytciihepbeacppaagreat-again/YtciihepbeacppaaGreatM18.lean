import Derived.Test.YtciihepbeacppaaGreatM17
import Derived.Deep.RegionHeld3
namespace Go.Proofs.YtciihepbeacppaaGreat
open Go.RowKit
set_option linter.unusedVariables false
def ndV (n:Nd):Value:=.agg #[.int .i64 (n.op:Int),.int .i64 (n.v:Int),.int .i64 (n.ak:Int),.int .i64 (n.ai:Int),.int .i64 (n.nx:Int),.int .i64 (n.ot:Int)]
theorem bw_drewN (w:World) (n:Nat):Below w.heap.size w (w.drewN n):=⟨rfl,rfl,rfl,Nat.le_refl _,fun _ _=>rfl⟩
section
variable {w W W':World} {O A:Nat} {f:CF} {av ov nv tv:Value} {nu da fu:Bool} {Ln Lt:List FE}
set_option maxRecDepth 100000 in
set_option maxHeartbeats 8000000 in
theorem compare_any {n:Nd} (h:Os w w O A f av ov false false false (.slice none 0 0) (.slice none 0 0) [] []) (hO:FoOk f) (ha:f.ap.length≤40000) (hv:n.v < 4) (hi:n.ai < 4) :
  Calls Tryz.prog 244 #[.pointer (some ⟨O,0,none⟩),.pointer (some ⟨A,0,none⟩),ndV n] w fun e w'=>e = .returned (.tuple #[])∧OutP w O ⟨(cmO f n).1,(cmO f n).2,false,false,false⟩ w':=by
 have hol:=hO.owLen
 have hcm:cmO f n = (if difB f (f.cl.getD (1 + n.v) 0) (clT f n.ak n.ai) = true then [] else [tdF (joF f (f.cl.getD (1 + n.v) 0) (clT f n.ak n.ai))],if f.cl.getD (1 + n.v) 0 = clT f n.ak n.ai then [] else [tdF (parF f (f.cl.getD (1 + n.v) 0) (clT f n.ak n.ai))]):=rfl
 obtain ⟨op,v,ak,ai,nx,ot⟩:=n
 simp only at hv hi hcm
 unfold ndV
 simp only
 obtain ⟨W1,hW1⟩:∃ W1,W1 = w.alloc (.cells #[Value.int .i64 (op:Int),.int .i64 (v:Int),.int .i64 (ak:Int),.int .i64 (ai:Int),.int .i64 (nx:Int),.int .i64 (ot:Int)] 186):=⟨_,rfl⟩
 have hbx:Below w.heap.size w W1:=by rw [hW1];exact below_boxQ w _
 have hX:Bk W1 w.heap.size 186 [Value.int .i64 (op:Int),.int .i64 (v:Int),.int .i64 (ak:Int),.int .i64 (ai:Int),.int .i64 (nx:Int),.int .i64 (ot:Int)]:=by rw [hW1];exact Bk.new w _ _
 obtain ⟨X,hXe⟩:∃ X,X = w.heap.size:=⟨_,rfl⟩
 rw [← hXe] at hX
 have hO1:=h.below hbx
 have b1:=hX.cell 1 rfl
 have b2:=hX.cell 2 rfl
 have b3:=hX.cell 3 rfl
 have x1:=hO1.ff.cls (i:=1 + v) (by omega)
 unfold clV at x1
 obtain ⟨a,haE⟩:∃ a,a = f.cl.getD (1 + v) 0:=⟨_,rfl⟩
 obtain ⟨b,hbE⟩:∃ b,b = clT f ak ai:=⟨_,rfl⟩
 rw [← haE] at x1
 rw [← haE,← hbE] at hcm
 have ha24:a < 24:=by rw [haE];exact hO.get _
 have hb24:b < 24:=by rw [hbE];exact hO.cT _ _
 have i1:(0:Int)≤1 + (v:Int):=by omega
 have i2:1 + (v:Int) < 5:=by omega
 have i3:(1 + (v:Int)).toNat = 1 + v:=by omega
 obtain ⟨oR,hoR⟩:∃ oR:Out,oR = ⟨(cmO f ⟨op,v,ak,ai,nx,ot⟩).1,(cmO f ⟨op,v,ak,ai,nx,ot⟩).2,false,false,false⟩:=⟨_,rfl⟩
 rw [← hoR]
 rw [hcm] at hoR
 have HOR:=hide hoR
 have HO:=hide hO
 have H1:=hide hO1
 have HBE:=hide hbE
 clear h hO hO1 hoR hcm hbx hX haE hbE
 go_enter Tryz.func244,Tryz.ntmps244
 go_upto_region 1 with fail
 rw [← hW1,← hXe]
 clear hW1 hXe
 go_quiet (fail)
 obtain ⟨W2,hW2⟩:∃ W2,W2 = W1.drewN nq:=⟨_,rfl⟩
 rw [← hW2]
 have hb2:Below W1.heap.size W1 W2:=by rw [hW2];exact bw_drewN W1 nq
 have d2:W2.cell? ⟨X,2,none⟩ = some (.int .i64 (ak:Int)):=by rw [hW2];exact b2
 have d3:W2.cell? ⟨X,3,none⟩ = some (.int .i64 (ai:Int)):=by rw [hW2];exact b3
 have hO2:=(uh H1).below hb2
 have HCL:=hide (class_any hO2.ff ak ai hi)
 rw [← uh HBE] at HCL
 have H2:=hide hO2
 clear hW2 hb2 hO2 b1 b2 b3 x1 H1
 go_wp2_with fail
 refine (uh HCL).mono ?_
 rintro e W3 ⟨rfl,hb3⟩
 have hO3:=(uh H2).below hb3
 have HDF:=hide (differ_any a b hO3.ff)
 have H3:=hide hO3
 clear hb3 hO3 H2 HCL d2 d3
 go_wp2_with fail
 refine (uh HDF).mono ?_
 rintro e W4 ⟨rfl,hb4⟩
 have hO4:=(uh H3).below hb4
 have H4:=hide hO4
 clear hb4 H3 HDF
 cases hdf:difB f a b
 ·
  rw [hdf] at HOR
  have HCP:=hide (copy_any hO4.ff (uh HO).c5 ha (Nat.le_trans hol (by omega)))
  have HDD:=hide (dif_apart hdf)
  clear hO4 hdf
  go_wp2_with fail
  refine (uh HCP).mono ?_
  rintro e W5 ⟨A5,rfl,hN5⟩
  obtain ⟨av5,ov5,hf5⟩:=hN5.frf
  have HJO:=hide (fjoin_any hf5.fm (Nat.le_trans ha (by omega)) (Nat.le_trans hol (by omega)) a b)
  have HF5:=hide hf5
  clear hN5 hf5 HCP
  go_wp2_with fail
  refine (uh HJO).mono ?_
  rintro e W6 ⟨rfl,hF6,hS6⟩
  have hf6:=(uh HF5).step (x':=⟨A5,joF f a b,av5,ov5⟩) hF6 hS6
  have hO6:=(uh H4).below hf6.bw
  have HGO:=hide (goOn_any hO6.oo hf6.fm ((uh HO).jo ha24 (uh HDD)) (by
   show (f.ap.map _).length≤100000
   rw [List.length_map];omega) ((uh H4).fresh hf6.ge) (by simp))
  have H6:=hide hO6
  have HGE:=hide (fun k hk=>Nat.le_trans (uh H4).st.size (hf6.ge k hk))
  clear hF6 hS6 hf6 hO6 HJO
  go_wp2_with fail
  refine (uh HGO).mono ?_
  rintro e W7 ⟨rfl,nv7,x7,-,hx7,hoo7,hs7⟩
  have hO7:=(uh H6).next (uh HGE) hoo7 hs7
  have H7:=hide hO7
  have HX7:=hide hx7
  clear hoo7 hs7 hx7 HGO
  by_cases hab:a = b
  ·have d1:((a:Int) != (b:Int)) = false:=by simp [hab]
   have HOE:Hid (oR = ⟨[tdF (joF f a b)],[],false,false,false⟩):=hide (by rw [uh HOR,if_neg (by decide),if_pos hab])
   clear hab hO7
   go_wp2_with fail
   go_end0
   exact ⟨rfl,by rw [uh HOE];exact (uh H7).out (o:=⟨[tdF (joF f a b)],[],false,false,false⟩) (by simp [uh HX7]) rfl⟩
  ·have d1:((a:Int) != (b:Int)) = true:=by rw [bne_iff_ne];omega
   have HOE:Hid (oR = ⟨[tdF (joF f a b)],[tdF (parF f a b)],false,false,false⟩):=hide (by rw [uh HOR,if_neg (by decide),if_neg hab])
   have HCP:=hide (copy_any hO7.ff (uh HO).c5 ha (Nat.le_trans hol (by omega)))
   clear hab hO7
   go_wp2_with fail
   refine (uh HCP).mono ?_
   rintro e W8 ⟨A8,rfl,hN8⟩
   obtain ⟨av8,ov8,hf8⟩:=hN8.frf
   have HPA:=hide (part_any hf8.fm a b (Nat.le_trans ha (by omega)))
   have HF8:=hide hf8
   clear hN8 hf8 HCP
   go_wp2_with fail
   refine (uh HPA).mono ?_
   rintro e W9 ⟨rfl,av9,hF9,hS9⟩
   have hf9:=(uh HF8).step (x':=⟨A8,parF f a b,av9,ov8⟩) hF9 hS9
   have hO9:=(uh H7).below hf9.bw
   have HTU:=hide (turn_any hO9.oo hf9.fm ((uh HO).pa ha24 hb24) (by
    show (f.ap ++ [_]).length≤100000
    rw [List.length_append,List.length_singleton];omega) ((uh H7).fresh hf9.ge) (by simp))
   have H9:=hide hO9
   have HGE9:=hide (fun k hk=>Nat.le_trans (uh H7).st.size (hf9.ge k hk))
   clear hF9 hS9 hf9 hO9 HPA
   go_wp2_with fail
   refine (uh HTU).mono ?_
   rintro e Wa ⟨rfl,tva,xa,-,hxa,hooa,hsa⟩
   have HN:=hide ((uh H9).next (uh HGE9) hooa hsa)
   have HXA:=hide hxa
   clear hooa hsa hxa HTU
   go_wp2_with fail
   go_end0
   exact ⟨rfl,by rw [uh HOE];exact (uh HN).out (o:=⟨[tdF (joF f a b)],[tdF (parF f a b)],false,false,false⟩) (by simp [uh HX7]) (by simp [uh HXA])⟩
 ·rw [hdf] at HOR
  have hab:a≠b:=fun e=>by rw [e] at hdf;unfold difB at hdf;simp at hdf
  have d1:((a:Int) != (b:Int)) = true:=by rw [bne_iff_ne];omega
  have HOE:Hid (oR = ⟨[],[tdF (parF f a b)],false,false,false⟩):=hide (by rw [uh HOR,if_pos rfl,if_neg hab])
  have HCP:=hide (copy_any hO4.ff (uh HO).c5 ha (Nat.le_trans hol (by omega)))
  clear hab hO4 hdf
  go_wp2_with fail
  refine (uh HCP).mono ?_
  rintro e W8 ⟨A8,rfl,hN8⟩
  obtain ⟨av8,ov8,hf8⟩:=hN8.frf
  have HPA:=hide (part_any hf8.fm a b (Nat.le_trans ha (by omega)))
  have HF8:=hide hf8
  clear hN8 hf8 HCP
  go_wp2_with fail
  refine (uh HPA).mono ?_
  rintro e W9 ⟨rfl,av9,hF9,hS9⟩
  have hf9:=(uh HF8).step (x':=⟨A8,parF f a b,av9,ov8⟩) hF9 hS9
  have hO9:=(uh H4).below hf9.bw
  have HTU:=hide (turn_any hO9.oo hf9.fm ((uh HO).pa ha24 hb24) (by
   show (f.ap ++ [_]).length≤100000
   rw [List.length_append,List.length_singleton];omega) ((uh H4).fresh hf9.ge) (by simp))
  have H9:=hide hO9
  have HGE9:=hide (fun k hk=>Nat.le_trans (uh H4).st.size (hf9.ge k hk))
  clear hF9 hS9 hf9 hO9 HPA
  go_wp2_with fail
  refine (uh HTU).mono ?_
  rintro e Wa ⟨rfl,tva,xa,-,hxa,hooa,hsa⟩
  have HN:=hide ((uh H9).next (uh HGE9) hooa hsa)
  have HXA:=hide hxa
  clear hooa hsa hxa HTU
  go_wp2_with fail
  go_end0
  exact ⟨rfl,by rw [uh HOE];exact (uh HN).out (o:=⟨[],[tdF (parF f a b)],false,false,false⟩) rfl (by simp [uh HXA])⟩
end
def nilS:Value:=.slice none 0 0
structure Lo (w W:World) (O A:Nat) (f:CF) (av ov:Value) (nu da fu:Bool) (nv:Value) (Ln:List FE) (B:Nat) (lv:Value) (L:List FE) (j:Nat):Prop where
 os:Os w W O A f av ov nu da fu nv nilS Ln []
 pe:Pend W B lv L j
 dj:∀ k∈fpP lv L j,k ∉ fpO O nv nilS Ln []
 wB:w.heap.size≤B
section
variable {w W W':World} {O A:Nat} {f:CF} {av ov nv lv:Value} {nu da fu:Bool} {Ln L:List FE} {B j:Nat}
theorem Lo.mid {x':FE} (h:Lo w W O A f av ov nu da fu nv Ln B lv L j) (hj:j < L.length) (hs:Stp L[j].bs W x'.bs W') :
  Os w W' O A f av ov nu da fu nv nilS Ln []∧(∀ k∈x'.bs,k ∉ fpO O nv nilS Ln [])∧(∀ k∈x'.bs,w.heap.size≤k)∧Pend W' B lv L (j + 1)∧(∀ k∈fpP lv L (j + 1),k ∉ fpO O nv nilS Ln []∧k ∉ x'.bs):=by
 obtain ⟨h1,h2,h3,h4,h5⟩:=h.pe.next hj
 have hno:∀ k∈L[j].bs,k ∉ fpO O nv nilS Ln []:=fun k hk=>h.dj k (h5 k hk)
 have hoo:Oo W' O nu da fu nv nilS Ln []:=h.os.oo.stp hs (fun k hk hn=>hno k hn hk)
 refine ⟨h.os.next (B:=L[j].bs) (fun k hk=>Nat.le_trans h.wB (h2 k hk)) hoo ((hs.wide (fun k hk=>List.mem_append_right _ hk)).foots (fun k hk=>Or.inl (List.mem_append_left _ hk))),fun k hk hn=>?_,fun k hk=>?_,h3.stp hs (fun k hk hn=>(h4 k hk).2 hn),fun k hk=>⟨h.dj k (h4 k hk).1,fun hn=>?_⟩⟩
 ·rcases hs.foot k hk with q | q
  ·exact hno k q hn
  ·have:=h.os.oo.lt k hn;omega
 ·rcases hs.foot k hk with q | q
  ·exact Nat.le_trans h.wB (h2 k q)
  ·exact Nat.le_trans h.os.st.size q
 ·rcases hs.foot k hn with q | q
  ·exact (h4 k hk).2 q
  ·have:=h3.lt k hk;omega
theorem Lo.fin {x' y:FE} {nv':Value} {W'':World} (hO:Os w W' O A f av ov nu da fu nv nilS Ln []) (hge:∀ k∈x'.bs,w.heap.size≤k) (hP:Pend W' B lv L (j + 1)) (hd:∀ k∈fpP lv L (j + 1),k ∉ fpO O nv nilS Ln []∧k ∉ x'.bs) (hw:w.heap.size≤B)
  (hoo:Oo W'' O nu da fu nv' nilS (Ln ++ [y]) []) (hs:Stp (fpO O nv nilS Ln [] ++ x'.bs) W' (fpO O nv' nilS (Ln ++ [y]) []) W''):Lo w W'' O A f av ov nu da fu nv' (Ln ++ [y]) B lv L (j + 1):=by
 have hn:∀ k∈fpP lv L (j + 1),k ∉ fpO O nv nilS Ln [] ++ x'.bs:=fun k hk hm=>by
  rcases List.mem_append.1 hm with q | q
  ·exact (hd k hk).1 q
  ·exact (hd k hk).2 q
 refine ⟨hO.next hge hoo hs,hP.stp hs hn,fun k hk hm=>?_,hw⟩
 rcases hs.foot k hm with q | q
 ·exact hn k hk q
 ·have:=hP.lt k hk;omega
theorem Lo.start {w2:World} {nu' da' fu':Bool} (h:Os w W O A f av ov nu da fu nilS nilS [] []) (hfl:Fl w2 W.heap.size lv L) (hbo:Bk w2 O 280 [nilS,nilS,.bool nu',.bool da',.bool fu']) (hs:Stp [O] W (O :: flF lv L) w2):Lo w w2 O A f av ov nu' da' fu' nilS [] W.heap.size lv L 0:=by
 have hfp:fpO O nilS nilS [] [] = [O]:=rfl
 have hnil:Fl w2 0 nilS []:=Fl.nil0 w2 0
 refine ⟨⟨⟨hbo,hnil,hnil,by simp [flF,nilS,Value.ownBlock]⟩,h.ff.of_eq (fun k hk=>hs.block k (h.ff.lt k hk) (fun hn=>h.of (by rw [List.mem_singleton] at hn;rw [← hn];exact hk))),?_,h.ol,h.of,h.fw⟩,hfl.pend,fun k hk hn=>?_,h.st.size⟩
 ·rw [hfp]
  have h0:=h.st
  rw [hfp] at h0
  exact (h0.trans (hs.foots (F'':=[O]) (fun k hk=>Or.inl hk)))
 ·rw [hfp,List.mem_singleton] at hn
  have h1:=hfl.pend.geB k hk
  have h2:=h.ol
  have h3:=h.st.size
  omega
end
theorem OutP.pre {w W w':World} {O:Nat} {o:Out} (h:OutP W O o w') (hb:Below w.heap.size w W):OutP w O o w':=by
 obtain ⟨nv,tv,Ln,Lt,h1,h2,h3,h4⟩:=h
 refine ⟨nv,tv,Ln,Lt,h1,h2,h3,⟨h4.os.trans hb.os,h4.tape.trans hb.tape,h4.output.trans hb.output,Nat.le_trans hb.size h4.size,fun k hk hn=>(h4.block k (Nat.lt_of_lt_of_le hk hb.size) hn).trans (hb.block k hk),fun k hk=>?_⟩⟩
 rcases h4.foot k hk with q | q
 ·exact Or.inl q
 ·exact Or.inr (Nat.le_trans hb.size q)
theorem Os.rebase {w W:World} {O A:Nat} {f:CF} {av ov:Value} (h:Os w w O A f av ov false false false nilS nilS [] []) (hb:Below w.heap.size w W):Os W W O A f av ov false false false nilS nilS [] [] :=
 Os.start (h.oo.below hb) (h.ff.below hb) rfl h.of
section
variable {w:World} {O A:Nat} {f:CF} {av ov:Value}
set_option maxRecDepth 100000 in
set_option maxHeartbeats 8000000 in
theorem follow_any {n:Nd} (h:Os w w O A f av ov false false false nilS nilS [] []) (hO:FoOk f) (ha:f.ap.length≤40000) (hv:n.v < 4) (hi:n.ai < 4) :
  Calls Tryz.prog 237 #[.pointer (some ⟨O,0,none⟩),.pointer (some ⟨A,0,none⟩),ndV n] w fun e w'=>e = .returned (.tuple #[])∧OutP w O (ofOpen (opF f n.ai) (fun g=>folG g n)) w':=by
 have hol:=hO.owLen
 obtain ⟨N,hN⟩:∃ N,N = n:=⟨_,rfl⟩
 obtain ⟨op,v,ak,ai,nx,ot⟩:=n
 simp only at hv hi
 unfold ndV
 simp only
 rw [← hN]
 have hNv:N.v = v:=by rw [hN]
 have hNa:N.ai = ai:=by rw [hN]
 obtain ⟨W1,hW1⟩:∃ W1,W1 = w.alloc (.cells #[Value.int .i64 (op:Int),.int .i64 (v:Int),.int .i64 (ak:Int),.int .i64 (ai:Int),.int .i64 (nx:Int),.int .i64 (ot:Int)] 186):=⟨_,rfl⟩
 have hbx:Below w.heap.size w W1:=by rw [hW1];exact below_boxQ w _
 have hX:Bk W1 w.heap.size 186 [Value.int .i64 (op:Int),.int .i64 (v:Int),.int .i64 (ak:Int),.int .i64 (ai:Int),.int .i64 (nx:Int),.int .i64 (ot:Int)]:=by rw [hW1];exact Bk.new w _ _
 obtain ⟨X,hXe⟩:∃ X,X = w.heap.size:=⟨_,rfl⟩
 rw [← hXe] at hX
 have hXO:X≠O:=by have:=h.ol;omega
 have hO1:=h.rebase hbx
 have b3:=hX.cell 3 rfl
 have HOK:=hide (opF_ok (N:=40000) hi hO ha)
 have HOP:=hide (oopen_any hi hO1.oo.bk hO1.ff hO ha hO1.of)
 obtain ⟨r,hr⟩:∃ r,r = opF f ai:=⟨_,rfl⟩
 rw [← hr] at HOP HOK
 have HRL:Hid (r.1.length≤96):=hide (by rw [hr];exact opF_len hO ai)
 rw [← hr]
 have H1:=hide hO1
 have HX:=hide hX
 have HBX:=hide hbx
 have HNv:=hide hNv
 have HNa:=hide hNa
 clear h hO hO1 hbx hX hr hN hNv hNa
 go_enter Tryz.func237,Tryz.ntmps237
 go_upto_region 1 with fail
 rw [← hW1,← hXe]
 clear hW1 hXe
 go_wp2_with fail
 refine (uh HOP).mono ?_
 rintro e w2 ⟨lv,L,rfl,hfl,hLm,hbo2,hs2⟩
 have hLo:=Lo.start (uh H1) hfl (by simpa using hbo2) hs2
 obtain ⟨la,lc,hlv,-,-⟩:=own_slc hfl.row
 subst hlv
 have HLM:=hide hLm
 have hLL:L.length≤96:=by
  have h1:=congrArg List.length hLm
  rw [List.length_map] at h1
  have:=uh HRL
  omega
 have HI0:Hid (Lo W1 w2 O A f av ov r.2.1 r.2.2.1 r.2.2.2 nilS [] W1.heap.size (.slice la L.length lc) L 0):=hide (by simpa using hLo)
 clear hfl hLm hbo2 hs2 hLo HOP b3
 obtain ⟨B,hB⟩:∃ B,B = W1.heap.size:=⟨_,rfl⟩
 rw [← hB] at HI0
 clear hB
 go_wp2_with fail
 go_loopg [16] L.length (fun gn iv wx=>∃ (j:Nat) (nv:Value) (Ln:List FE),j + gn = L.length∧iv = .int .i64 j∧Ln.length = j∧Hid (Lo W1 wx O A f av ov r.2.1 r.2.2.1 r.2.2.2 nv Ln B (.slice la L.length lc) L j∧Ln.map (·.f) = (L.take j).map (fun x=>tdF (folG x.f N))))
 case atStart=>exact ⟨0,nilS,[],by omega,rfl,rfl,hide ⟨uh HI0,rfl⟩⟩
 case round =>
  clear HI0
  obtain ⟨j,nv,Ln,hjn,rfl,hLj,hI⟩:=hrel
  obtain ⟨G,hG⟩:∃ G,G = gk:=⟨_,rfl⟩
  by_cases hjl:j < L.length
  ·have hd:decide ((j:Int) < (L.length:Int)) = true:=by simp;omega
   obtain ⟨g2,cap2,hgv2,hcell⟩:=(uh hI).1.pe.cell hjl
   simp only [Value.slice.injEq,true_and] at hgv2
   obtain ⟨rfl,rfl⟩:=hgv2
   obtain ⟨hx,-,-,-,-⟩:=(uh hI).1.pe.next hjl
   have hok:=uh HOK L[j].f (by rw [← uh HLM];exact List.mem_map_of_mem (List.getElem_mem hjl))
   have hXr:=(uh HX).stp (uh hI).1.os.st (by simpa using hXO)
   have b1:=hXr.cell 1 rfl
   have b3:=hXr.cell 3 rfl
   have htk:(L.take (j + 1)).map (fun x=>tdF (folG x.f N)) = (L.take j).map (fun x=>tdF (folG x.f N)) ++ [tdF (folG L[j].f N)]:=by
    rw [List.take_add_one,List.getElem?_eq_getElem hjl,List.map_append];rfl
   have HLOm:Hid (∀ (x':FE) (W':World),Stp L[j].bs wr x'.bs W'→_):=hide (fun x' W' hs=>(uh hI).1.mid (x':=x') hjl hs)
   obtain ⟨x,hxe⟩:∃ x,x = L[j]:=⟨_,rfl⟩
   rw [← hxe] at hcell hx hok htk HLOm
   obtain ⟨i',hi'⟩:=Option.isSome_iff_exists.1 hok.bg
   obtain ⟨hil,-⟩:=bgn_lt hi'
   have xc:=hx.is.cls (i:=1 + ai) (by omega)
   have xv:=hx.is.cls (i:=1 + v) (by omega)
   have zv:=World.ownsRow.frozenAt hx.is.ob (1 + v)
   unfold clV at xc
   obtain ⟨xa,xf,xav,xov⟩:=x
   simp only at hcell hx hok htk hi' hil xc xv zv
   obtain ⟨oa,oc,hov,-,-⟩:=own_slc hx.is.ow
   subst hov
   have c6:=hx.is.c6
   obtain ⟨go,gc,hgo,-,-⟩:=own_formP hx.is.ow hil
   simp only [Value.slice.injEq,true_and] at hgo
   obtain ⟨rfl,rfl⟩:=hgo
   obtain ⟨-,-,y2⟩:=own_cells hx.is.ow hil
   obtain ⟨rr,hrr⟩:∃ rr,rr = (xf.ow.getD i' pr0).r:=⟨_,rfl⟩
   rw [← hrr] at y2
   obtain ⟨cx,hcx⟩:∃ cx,cx = xf.cl.getD (1 + ai) 0:=⟨_,rfl⟩
   rw [← hcx] at xc
   have HBG:Hid (∀ m:Nat,Calls Tryz.prog 208 #[.pointer (some ⟨xa,0,none⟩),.int .i64 cx] (wr.drewN m) fun e w''=>e = .returned (.int .i64 (i':Int))∧∃ q,w'' = wr.drewN q):=hide (fun m=>(begins_any (w:=wr.drewN m) cx (hx.is.of_eq (fun _ _=>rfl))).mono (fun e w'' hw=>by
    have h1:=hw.1
    rw [hcx,hi'] at h1
    exact ⟨h1,m,hw.2⟩))
   have hfg:setC xf (1 + v) rr = folG xf N:=by
    unfold folG
    rw [uh HNv,uh HNa]
    show setC xf (1 + v) rr = setC xf (1 + v) (owA xf (bgI xf (xf.cl.getD (1 + ai) 0))).r
    unfold bgI
    rw [hi',hrr]
    rfl
   have hF2:=hx.setCl (1 + v) rr (by omega)
   have hS2:Stp (bsF xa xav (.slice (some ⟨go,0,none⟩) xf.ow.length oc)) wr (bsF xa xav (.slice (some ⟨go,0,none⟩) xf.ow.length oc)) (wr.setCell ⟨xa,1 + v,none⟩ (.int .i64 (rr:Int))):=(Stp.refl _ _).setCell (p:=⟨xa,1 + v,none⟩) (Or.inl (by simp [bsF])) _
   have HF2:=hide hF2
   have HS2:=hide hS2
   have HFG:=hide hfg
   have HTK:=hide htk
   have hfok:=folG_ok (n:=N) (by rw [uh HNa];exact hok)
   have HFOK:=hide hfok
   have HGO:Hid (∀ W':World,Fm W' xa (folG xf N) xav (.slice (some ⟨go,0,none⟩) xf.ow.length oc)→Stp (bsF xa xav (.slice (some ⟨go,0,none⟩) xf.ow.length oc)) wr (bsF xa xav (.slice (some ⟨go,0,none⟩) xf.ow.length oc)) W'→Calls Tryz.prog 242 #[.pointer (some ⟨O,0,none⟩),.pointer (some ⟨xa,0,none⟩)] W' fun e w''=>e = .returned (.tuple #[])∧∃ nv' y,y.f = tdF (folG xf N)∧Lo W1 w'' O A f av ov r.2.1 r.2.2.1 r.2.2.2 nv' (Ln ++ [y]) B (.slice (some ⟨g2,0,none⟩) L.length lc) L (j + 1)):=hide (fun W' hf hs=>by
    have hwB:=(uh hI).1.wB
    obtain ⟨m1,m2,m3,m4,m5⟩:=uh HLOm ⟨xa,folG xf N,xav,.slice (some ⟨go,0,none⟩) xf.ow.length oc⟩ W' hs
    refine (goOn_any m1.oo hf hfok.1 (Nat.le_trans hfok.2 (by omega)) m2 (by omega)).mono ?_
    rintro e w'' ⟨rfl,nv',y,-,hy,hoo,hst⟩
    exact ⟨rfl,nv',y,hy,Lo.fin m1 m3 m4 m5 hwB hoo hst⟩)
   have hxp:(FE.p ⟨xa,xf,xav,.slice (some ⟨go,0,none⟩) xf.ow.length oc⟩) = .pointer (some ⟨xa,0,none⟩):=rfl
   rw [hxp] at hcell
   have i1:(0:Int)≤1 + (ai:Int):=by omega
   have i2:1 + (ai:Int) < 5:=by omega
   have i3:(1 + (ai:Int)).toNat = 1 + ai:=by omega
   have i4:(0:Int)≤1 + (v:Int):=by omega
   have i5:1 + (v:Int) < 5:=by omega
   have i6:(1 + (v:Int)).toNat = 1 + v:=by omega
   have i7:(0:Int)≤(j:Int):=by omega
   have i8:(j:Int) < (L.length:Int):=by omega
   have i9:(0:Int)≤(i':Int):=by omega
   have ia:(i':Int) < (xf.ow.length:Int):=by omega
   have HIm:Hid (Ln.map (·.f) = (L.take j).map (fun x=>tdF (folG x.f N))):=hide (uh hI).2
   have HwB:=hide (uh hI).1.wB
   clear hx hok htk hXr hrr hcx hfg hF2 hS2 hfok hxp hxe hi' hI
   go_wp2_with fail
   go_quiet ((go_at_call 208;exact uh HBG _))
   go_wp2_with fail
   go_region
   go_wp2_with fail
   refine (uh HGO ((wr.drewN (nq + 1)).setCell ⟨xa,1 + v,none⟩ (.int .i64 (rr:Int))) (by rw [← uh HFG];exact (uh HF2).of_eq (fun _ _=>rfl)) ⟨(uh HS2).os,(uh HS2).tape,(uh HS2).output,(uh HS2).size,(uh HS2).block,(uh HS2).foot⟩).mono ?_
   rintro e w5 ⟨rfl,nv5,y5,hy5,hLo5⟩
   have HN:Hid (Lo W1 w5 O A f av ov r.2.1 r.2.2.1 r.2.2.2 nv5 (Ln ++ [y5]) B (.slice (some ⟨g2,0,none⟩) L.length lc) L (j + 1)∧(Ln ++ [y5]).map (·.f) = (L.take (j + 1)).map (fun x=>tdF (folG x.f N))):=hide ⟨hLo5,by rw [uh HTK,List.map_append,uh HIm];simp [hy5]⟩
   have hl5:(Ln ++ [y5]).length = j + 1:=by rw [List.length_append,List.length_singleton,hLj]
   have HL5:=hide hl5
   clear hy5 hLo5 hl5 HGO HF2 HS2 HFG HTK HFOK HIm HLOm
   go_wp2_with fail
   go_roundg (G - 1)
   case rel=>exact ⟨j + 1,nv5,Ln ++ [y5],by omega,by go_num,uh HL5,HN⟩
   case measure=>omega
  ·have hd:decide ((j:Int) < (L.length:Int)) = false:=by simp;omega
   have hN:Ln.map (·.f) = r.1.map (fun g=>tdF (folG g N)):=by
    rw [(uh hI).2,List.take_of_length_le (by omega),← uh HLM,List.map_map]
    rfl
   have HNN:=hide hN
   clear hN
   go_wp2_with fail
   go_end0
   exact ⟨rfl,((uh hI).1.os.out (o:=ofOpen r (fun g=>folG g N)) (uh HNN) rfl).pre (uh HBX)⟩
end
section
variable {w:World} {O A:Nat} {f:CF} {av ov:Value}
set_option maxRecDepth 100000 in
set_option maxHeartbeats 8000000 in
theorem link_any {n:Nd} (h:Os w w O A f av ov false false false nilS nilS [] []) (hO:FoOk f) (ha:f.ap.length≤40000) (hv:n.v < 4) (hi:n.ai < 4) :
  Calls Tryz.prog 238 #[.pointer (some ⟨O,0,none⟩),.pointer (some ⟨A,0,none⟩),ndV n] w fun e w'=>e = .returned (.tuple #[])∧OutP w O (ofOpen (opF f n.v) (fun g=>liG g n)) w':=by
 have hol:=hO.owLen
 obtain ⟨N,hN⟩:∃ N,N = n:=⟨_,rfl⟩
 obtain ⟨op,v,ak,ai,nx,ot⟩:=n
 simp only at hv hi
 unfold ndV
 simp only
 rw [← hN]
 have hNv:N.v = v:=by rw [hN]
 have hNa:N.ai = ai:=by rw [hN]
 have hNk:N.ak = ak:=by rw [hN]
 obtain ⟨W1,hW1⟩:∃ W1,W1 = w.alloc (.cells #[Value.int .i64 (op:Int),.int .i64 (v:Int),.int .i64 (ak:Int),.int .i64 (ai:Int),.int .i64 (nx:Int),.int .i64 (ot:Int)] 186):=⟨_,rfl⟩
 have hbx:Below w.heap.size w W1:=by rw [hW1];exact below_boxQ w _
 have hX:Bk W1 w.heap.size 186 [Value.int .i64 (op:Int),.int .i64 (v:Int),.int .i64 (ak:Int),.int .i64 (ai:Int),.int .i64 (nx:Int),.int .i64 (ot:Int)]:=by rw [hW1];exact Bk.new w _ _
 obtain ⟨X,hXe⟩:∃ X,X = w.heap.size:=⟨_,rfl⟩
 rw [← hXe] at hX
 have hXO:X≠O:=by have:=h.ol;omega
 have hO1:=h.rebase hbx
 have b1:=hX.cell 1 rfl
 have HOK:=hide (opF_ok (N:=40000) hv hO ha)
 have HOP:=hide (oopen_any hv hO1.oo.bk hO1.ff hO ha hO1.of)
 obtain ⟨r,hr⟩:∃ r,r = opF f v:=⟨_,rfl⟩
 rw [← hr] at HOP HOK
 have HRL:Hid (r.1.length≤96):=hide (by rw [hr];exact opF_len hO v)
 rw [← hr]
 have H1:=hide hO1
 have HX:=hide hX
 have HBX:=hide hbx
 have HNv:=hide hNv
 have HNa:=hide hNa
 have HNk:=hide hNk
 clear h hO hO1 hbx hX hr hN hNv hNa hNk
 go_enter Tryz.func238,Tryz.ntmps238
 go_upto_region 1 with fail
 rw [← hW1,← hXe]
 clear hW1 hXe
 go_wp2_with fail
 refine (uh HOP).mono ?_
 rintro e w2 ⟨lv,L,rfl,hfl,hLm,hbo2,hs2⟩
 have hLo:=Lo.start (uh H1) hfl (by simpa using hbo2) hs2
 obtain ⟨la,lc,hlv,-,-⟩:=own_slc hfl.row
 subst hlv
 have HLM:=hide hLm
 have hLL:L.length≤96:=by
  have h1:=congrArg List.length hLm
  rw [List.length_map] at h1
  have:=uh HRL
  omega
 have HI0:Hid (Lo W1 w2 O A f av ov r.2.1 r.2.2.1 r.2.2.2 nilS [] W1.heap.size (.slice la L.length lc) L 0):=hide (by simpa using hLo)
 clear hfl hLm hbo2 hs2 hLo HOP b1
 obtain ⟨B,hB⟩:∃ B,B = W1.heap.size:=⟨_,rfl⟩
 rw [← hB] at HI0
 clear hB
 go_wp2_with fail
 go_loopg [15] L.length (fun gn iv wx=>∃ (j:Nat) (nv:Value) (Ln:List FE),j + gn = L.length∧iv = .int .i64 j∧Ln.length = j∧Hid (Lo W1 wx O A f av ov r.2.1 r.2.2.1 r.2.2.2 nv Ln B (.slice la L.length lc) L j∧Ln.map (·.f) = (L.take j).map (fun x=>tdF (liG x.f N))))
 case atStart=>exact ⟨0,nilS,[],by omega,rfl,rfl,hide ⟨uh HI0,rfl⟩⟩
 case round =>
  clear HI0
  obtain ⟨j,nv,Ln,hjn,rfl,hLj,hI⟩:=hrel
  obtain ⟨G,hG⟩:∃ G,G = gk:=⟨_,rfl⟩
  by_cases hjl:j < L.length
  ·have hd:decide ((j:Int) < (L.length:Int)) = true:=by simp;omega
   obtain ⟨g2,cap2,hgv2,hcell⟩:=(uh hI).1.pe.cell hjl
   simp only [Value.slice.injEq,true_and] at hgv2
   obtain ⟨rfl,rfl⟩:=hgv2
   obtain ⟨hx,-,-,-,-⟩:=(uh hI).1.pe.next hjl
   have hok:=uh HOK L[j].f (by rw [← uh HLM];exact List.mem_map_of_mem (List.getElem_mem hjl))
   have hXr:=(uh HX).stp (uh hI).1.os.st (by simpa using hXO)
   have b1:=hXr.cell 1 rfl
   have b2:=hXr.cell 2 rfl
   have b3:=hXr.cell 3 rfl
   have htk:(L.take (j + 1)).map (fun x=>tdF (liG x.f N)) = (L.take j).map (fun x=>tdF (liG x.f N)) ++ [tdF (liG L[j].f N)]:=by
    rw [List.take_add_one,List.getElem?_eq_getElem hjl,List.map_append];rfl
   have HLOm:Hid (∀ (x':FE) (W':World),Stp L[j].bs wr x'.bs W'→_):=hide (fun x' W' hs=>(uh hI).1.mid (x':=x') hjl hs)
   obtain ⟨x,hxe⟩:∃ x,x = L[j]:=⟨_,rfl⟩
   rw [← hxe] at hcell hx hok htk HLOm
   obtain ⟨i',hi'⟩:=Option.isSome_iff_exists.1 hok.bg
   obtain ⟨hil,-⟩:=bgn_lt hi'
   have xc:=hx.is.cls (i:=1 + v) (by omega)
   unfold clV at xc
   obtain ⟨xa,xf,xav,xov⟩:=x
   simp only at hcell hx hok htk hi' hil xc
   obtain ⟨oa,oc,hov,-,-⟩:=own_slc hx.is.ow
   subst hov
   have c6:=hx.is.c6
   obtain ⟨go,gc,hgo,-,-⟩:=own_formP hx.is.ow hil
   simp only [Value.slice.injEq,true_and] at hgo
   obtain ⟨rfl,rfl⟩:=hgo
   obtain ⟨-,-,y2⟩:=own_cells hx.is.ow hil
   obtain ⟨cx,hcx⟩:∃ cx,cx = xf.cl.getD (1 + v) 0:=⟨_,rfl⟩
   rw [← hcx] at xc
   have HBG:Hid (∀ m:Nat,Calls Tryz.prog 208 #[.pointer (some ⟨xa,0,none⟩),.int .i64 cx] (wr.drewN m) fun e w''=>e = .returned (.int .i64 (i':Int))∧∃ q,w'' = wr.drewN q):=hide (fun m=>(begins_any (w:=wr.drewN m) cx (hx.is.of_eq (fun _ _=>rfl))).mono (fun e w'' hw=>by
    have h1:=hw.1
    rw [hcx,hi'] at h1
    exact ⟨h1,m,hw.2⟩))
   obtain ⟨b,hbE⟩:∃ b,b = clT xf ak ai:=⟨_,rfl⟩
   have hfg:setO xf i' ⟨(owA xf i').k,(owA xf i').l,b⟩ = liG xf N:=by
    unfold liG
    rw [uh HNv,uh HNa,uh HNk]
    unfold bgI
    rw [hi',hbE]
    rfl
   have HPO:Hid (∀ W':World,Below wr.heap.size wr W'→Fm W' xa xf xav (.slice (some ⟨go,0,none⟩) xf.ow.length oc)):=hide (fun W' hb=>hx.below hb)
   have hgl:=(hx.is.ow.lt go rfl).2
   have hxl:=hx.lt xa (by simp [bsF])
   have hXl:=hXr.lt
   have hgx:go≠xa:=fun e=>hx.nds.2.1 (by rw [e];rfl)
   have hgX:go≠X:=fun e=>by
    have h1:=(uh hI).1.pe.next hjl
    have h2:=h1.2.1 go (by rw [← hxe];simp [FE.bs,bsF,Value.ownBlock])
    have h3:=(uh HX).lt
    have h4:=(uh hI).1.wB
    omega
   have HFG:=hide hfg
   have HBE:=hide hbE
   have HTK:=hide htk
   have hfok:=liG_ok (n:=N) (by rw [uh HNv];exact hok)
   have HFOK:=hide hfok
   have HGO:Hid (∀ W':World,Fm W' xa (liG xf N) xav (.slice (some ⟨go,0,none⟩) xf.ow.length oc)→Stp (bsF xa xav (.slice (some ⟨go,0,none⟩) xf.ow.length oc)) wr (bsF xa xav (.slice (some ⟨go,0,none⟩) xf.ow.length oc)) W'→Calls Tryz.prog 242 #[.pointer (some ⟨O,0,none⟩),.pointer (some ⟨xa,0,none⟩)] W' fun e w''=>e = .returned (.tuple #[])∧∃ nv' y,y.f = tdF (liG xf N)∧Lo W1 w'' O A f av ov r.2.1 r.2.2.1 r.2.2.2 nv' (Ln ++ [y]) B (.slice (some ⟨g2,0,none⟩) L.length lc) L (j + 1)):=hide (fun W' hf hs=>by
    have hwB:=(uh hI).1.wB
    obtain ⟨m1,m2,m3,m4,m5⟩:=uh HLOm ⟨xa,liG xf N,xav,.slice (some ⟨go,0,none⟩) xf.ow.length oc⟩ W' hs
    refine (goOn_any m1.oo hf hfok.1 (Nat.le_trans hfok.2 (by omega)) m2 (by omega)).mono ?_
    rintro e w'' ⟨rfl,nv',y,-,hy,hoo,hst⟩
    exact ⟨rfl,nv',y,hy,Lo.fin m1 m3 m4 m5 hwB hoo hst⟩)
   have hxp:(FE.p ⟨xa,xf,xav,.slice (some ⟨go,0,none⟩) xf.ow.length oc⟩) = .pointer (some ⟨xa,0,none⟩):=rfl
   rw [hxp] at hcell
   have i1:(0:Int)≤1 + (ai:Int):=by omega
   have i2:1 + (ai:Int) < 5:=by omega
   have i3:(1 + (ai:Int)).toNat = 1 + ai:=by omega
   have i4:(0:Int)≤1 + (v:Int):=by omega
   have i5:1 + (v:Int) < 5:=by omega
   have i6:(1 + (v:Int)).toNat = 1 + v:=by omega
   have i7:(0:Int)≤(j:Int):=by omega
   have i8:(j:Int) < (L.length:Int):=by omega
   have i9:(0:Int)≤(i':Int):=by omega
   have ia:(i':Int) < (xf.ow.length:Int):=by omega
   have HIm:Hid (Ln.map (·.f) = (L.take j).map (fun x=>tdF (liG x.f N))):=hide (uh hI).2
   have HwB:=hide (uh hI).1.wB
   clear hx hok htk hXr hcx hfg hfok hxp hxe hi' hI hbE
   go_wp2_with fail
   go_quiet ((go_at_call 208;exact uh HBG _))
   obtain ⟨W4,hW4⟩:∃ W4,W4 = wr.drewN nq:=⟨_,rfl⟩
   rw [← hW4]
   have hb4:Below wr.heap.size wr W4:=by rw [hW4];exact bw_drewN wr nq
   have p6:=(hb4.cell hxl).trans c6
   have p2:=(hb4.cell hXl).trans b2
   have p3:=(hb4.cell hXl).trans b3
   have HB4:=hide hb4
   have HCL:Hid (∀ W':World,Below wr.heap.size wr W'→Calls Tryz.prog 236 #[.pointer (some ⟨xa,0,none⟩),.agg #[.int .i64 (ak:Int),.int .i64 (ai:Int)]] W' fun e w''=>e = .returned (.int .i64 (b:Int))∧Below wr.heap.size wr w''):=hide (fun W' hb=>(class_any (uh HPO W' hb).is ak ai hi).mono (fun e w'' hw=>⟨by rw [uh HBE];exact hw.1,hb.trans (hw.2.mono hb.size)⟩))
   clear hW4 hb4
   have hgx':¬ (go = xa):=hgx
   have hgX':¬ (go = X):=hgX
   have hxg':¬ (xa = go):=fun e=>hgx e.symm
   have hXg':¬ (X = go):=fun e=>hgX e.symm
   go_wp2_with fail
   go_region_held3 (fun W=>W.cell? ⟨xa,6,none⟩ = some (.slice (some ⟨go,0,none⟩) xf.ow.length oc)∧W.cell? ⟨X,2,none⟩ = some (.int .i64 (ak:Int))∧W.cell? ⟨X,3,none⟩ = some (.int .i64 (ai:Int))) (first | (simp only [World.cell?_drew,p6,p2,p3,and_self];done) | (simp only [q6,q2,q3,and_self];done) | (simp [World.cell?_setCell_far,q6,q2,q3,hgx',hgX'];done))
    (first
     | (go_at_call 236;refine (uh HCL _ (by first | exact (uh HB4).drew | exact uh HB4)).mono ?_;rintro e w6 ⟨rfl,hb6⟩;have q6:=(hb6.cell hxl).trans c6;have q2:=(hb6.cell hXl).trans b2;have q3:=(hb6.cell hXl).trans b3;have hF6:=uh HPO w6 hb6;have y6:=(hb6.cell hgl).trans y2;have z6:=hF6.is.ow.frozenAt (i' * 3 + 2);have HB6:=hide hb6;have HF6:=hide hF6;clear hb6 hF6))
   have HPU:=hide (Fm.putO (uh HF6) hil b)
   go_wp2_with fail
   refine (uh HGO (w6.setCell ⟨go,i' * 3 + 2,none⟩ (.int .i64 (b:Int))) (by rw [← uh HFG];exact (uh HPU).1) ((Stp.ofBw (F:=bsF xa xav (.slice (some ⟨go,0,none⟩) xf.ow.length oc)) (uh HB6)).trans (uh HPU).2.1)).mono ?_
   rintro e w5 ⟨rfl,nv5,y5,hy5,hLo5⟩
   have HN:Hid (Lo W1 w5 O A f av ov r.2.1 r.2.2.1 r.2.2.2 nv5 (Ln ++ [y5]) B (.slice (some ⟨g2,0,none⟩) L.length lc) L (j + 1)∧(Ln ++ [y5]).map (·.f) = (L.take (j + 1)).map (fun x=>tdF (liG x.f N))):=hide ⟨hLo5,by rw [uh HTK,List.map_append,uh HIm];simp [hy5]⟩
   have hl5:(Ln ++ [y5]).length = j + 1:=by rw [List.length_append,List.length_singleton,hLj]
   have HL5:=hide hl5
   clear hy5 hLo5 hl5 HGO HFG HTK HFOK HIm HLOm HPO HCL HB4 HB6 HF6 HPU
   go_wp2_with fail
   go_roundg (G - 1)
   case rel=>exact ⟨j + 1,nv5,Ln ++ [y5],by omega,by go_num,uh HL5,HN⟩
   case measure=>omega
  ·have hd:decide ((j:Int) < (L.length:Int)) = false:=by simp;omega
   have hN:Ln.map (·.f) = r.1.map (fun g=>tdF (liG g N)):=by
    rw [(uh hI).2,List.take_of_length_le (by omega),← uh HLM,List.map_map]
    rfl
   have HNN:=hide hN
   clear hN
   go_wp2_with fail
   go_end0
   exact ⟨rfl,((uh hI).1.os.out (o:=ofOpen r (fun g=>liG g N)) (uh HNN) rfl).pre (uh HBX)⟩
end
theorem parL_ap:∀ (l:List Pr) {g:CF} {c:Nat},(l.foldl (fun h p=>parF h c p.l) g).ap.length = g.ap.length + l.length
 | [],_,_=>rfl
 | p :: r,g,c=>by
  rw [List.foldl_cons,parL_ap r (g:=parF g c p.l),List.length_cons]
  show (g.ap ++ [_]).length + _ = _
  rw [List.length_append,List.length_singleton]
  omega
section
variable {w:World} {O A:Nat} {f:CF} {av ov:Value}
set_option maxRecDepth 100000 in
set_option maxHeartbeats 8000000 in
theorem free_any {v:Nat} (h:Os w w O A f av ov false false false nilS nilS [] []) (hO:FoOk f) (ha:f.ap.length≤40000) (hv:v < 4) :
  Calls Tryz.prog 240 #[.pointer (some ⟨O,0,none⟩),.pointer (some ⟨A,0,none⟩),.int .i64 v] w fun e w'=>e = .returned (.tuple #[])∧OutP w O (ofOpen (opF f v) (fun g=>frG g v)) w':=by
 have hol:=hO.owLen
 have HOK:=hide (opF_ok (N:=40000) hv hO ha)
 have HOP:=hide (oopen_any hv h.oo.bk h.ff hO ha h.of)
 obtain ⟨r,hr⟩:∃ r,r = opF f v:=⟨_,rfl⟩
 rw [← hr] at HOP HOK
 have HRL:Hid (r.1.length≤96):=hide (by rw [hr];exact opF_len hO v)
 rw [← hr]
 have H1:=hide h
 have i1:(0:Int)≤1 + (v:Int):=by omega
 have i2:1 + (v:Int) < 5:=by omega
 have i3:(1 + (v:Int)).toNat = 1 + v:=by omega
 clear h hO hr
 go_enter Tryz.func240,Tryz.ntmps240
 go_wp2_with fail
 refine (uh HOP).mono ?_
 rintro e w2 ⟨lv,L,rfl,hfl,hLm,hbo2,hs2⟩
 have hLo:=Lo.start (uh H1) hfl (by simpa using hbo2) hs2
 obtain ⟨la,lc,hlv,-,-⟩:=own_slc hfl.row
 subst hlv
 have HLM:=hide hLm
 have hLL:L.length≤96:=by
  have h1:=congrArg List.length hLm
  rw [List.length_map] at h1
  have:=uh HRL
  omega
 have HI0:Hid (Lo w w2 O A f av ov r.2.1 r.2.2.1 r.2.2.2 nilS [] w.heap.size (.slice la L.length lc) L 0):=hide (by simpa using hLo)
 clear hfl hLm hbo2 hs2 hLo HOP
 obtain ⟨B,hB⟩:∃ B,B = w.heap.size:=⟨_,rfl⟩
 rw [← hB] at HI0
 clear hB
 go_wp2_with fail
 go_loopg [17] L.length (fun gn iv wx=>∃ (j:Nat) (nv:Value) (Ln:List FE),j + gn = L.length∧iv = .int .i64 j∧Ln.length = j∧Hid (Lo w wx O A f av ov r.2.1 r.2.2.1 r.2.2.2 nv Ln B (.slice la L.length lc) L j∧Ln.map (·.f) = (L.take j).map (fun x=>tdF (frG x.f v))))
 case atStart=>exact ⟨0,nilS,[],by omega,rfl,rfl,hide ⟨uh HI0,rfl⟩⟩
 case round =>
  clear HI0
  obtain ⟨j,nv,Ln,hjn,rfl,hLj,hI⟩:=hrel
  obtain ⟨G,hG⟩:∃ G,G = gk:=⟨_,rfl⟩
  by_cases hjl:j < L.length
  ·have hd:decide ((j:Int) < (L.length:Int)) = true:=by simp;omega
   obtain ⟨g2,cap2,hgv2,hcell⟩:=(uh hI).1.pe.cell hjl
   simp only [Value.slice.injEq,true_and] at hgv2
   obtain ⟨rfl,rfl⟩:=hgv2
   obtain ⟨hx,-,-,-,-⟩:=(uh hI).1.pe.next hjl
   have hok:=uh HOK L[j].f (by rw [← uh HLM];exact List.mem_map_of_mem (List.getElem_mem hjl))
   have htk:(L.take (j + 1)).map (fun x=>tdF (frG x.f v)) = (L.take j).map (fun x=>tdF (frG x.f v)) ++ [tdF (frG L[j].f v)]:=by
    rw [List.take_add_one,List.getElem?_eq_getElem hjl,List.map_append];rfl
   have HLOm:Hid (∀ (x':FE) (W':World),Stp L[j].bs wr x'.bs W'→_):=hide (fun x' W' hs=>(uh hI).1.mid (x':=x') hjl hs)
   obtain ⟨x,hxe⟩:∃ x,x = L[j]:=⟨_,rfl⟩
   rw [← hxe] at hcell hx hok htk HLOm
   obtain ⟨i',hi'⟩:=Option.isSome_iff_exists.1 hok.bg
   obtain ⟨hil,-⟩:=bgn_lt hi'
   obtain ⟨xa,xf,xav,xov⟩:=x
   simp only at hcell hx hok htk hi' hil
   have xc:=hx.is.cls (i:=1 + v) (by omega)
   unfold clV at xc
   have hfrE:frG xf v = (takF xf i').ow.foldl (fun h p=>parF h (xf.cl.getD (1 + v) 0) p.l) (parF (takF xf i') (xf.cl.getD (1 + v) 0) ((takF xf i').cl.getD 0 0)):=by
    have e:bgI xf (xf.cl.getD (1 + v) 0) = i':=by unfold bgI;rw [hi'];rfl
    show (takF xf (bgI xf (xf.cl.getD (1 + v) 0))).ow.foldl _ (parF (takF xf (bgI xf (xf.cl.getD (1 + v) 0))) _ _) = _
    rw [e]
   obtain ⟨cx,hcx⟩:∃ cx,cx = xf.cl.getD (1 + v) 0:=⟨_,rfl⟩
   rw [← hcx] at xc hi' hfrE
   have hxol:=hok.ok.owLen
   have HBG:=hide (begins_any cx hx.is)
   rw [hi',show opI (some i') = (i':Int) from rfl] at HBG
   have HTA:=hide (ftake_any hx (Nat.le_trans hxol (by omega)) i')
   have hfok:=frG_ok hok
   have HGO:Hid (∀ (W':World) (av' ov':Value),Fm W' xa (frG xf v) av' ov'→Stp (bsF xa xav xov) wr (bsF xa av' ov') W'→Calls Tryz.prog 242 #[.pointer (some ⟨O,0,none⟩),.pointer (some ⟨xa,0,none⟩)] W' fun e w''=>e = .returned (.tuple #[])∧∃ nv' y,y.f = tdF (frG xf v)∧Lo w w'' O A f av ov r.2.1 r.2.2.1 r.2.2.2 nv' (Ln ++ [y]) B (.slice (some ⟨g2,0,none⟩) L.length lc) L (j + 1)):=hide (fun W' av' ov' hf hs=>by
    have hwB:=(uh hI).1.wB
    obtain ⟨m1,m2,m3,m4,m5⟩:=uh HLOm ⟨xa,frG xf v,av',ov'⟩ W' hs
    refine (goOn_any m1.oo hf hfok.1 (Nat.le_trans hfok.2 (by omega)) m2 (by omega)).mono ?_
    rintro e w'' ⟨rfl,nv',y,-,hy,hoo,hst⟩
    exact ⟨rfl,nv',y,hy,Lo.fin m1 m3 m4 m5 hwB hoo hst⟩)
   have hxp:(FE.p ⟨xa,xf,xav,xov⟩) = .pointer (some ⟨xa,0,none⟩):=rfl
   rw [hxp] at hcell
   have hxal:=hok.ln
   have htl:(takF xf i').ow.length≤24:=(hok.ok.tk i').owLen
   have hta:(takF xf i').ap.length≤40000:=hok.ln
   have HTK:=hide htk
   have HFE:=hide hfrE
   have HIm:Hid (Ln.map (·.f) = (L.take j).map (fun x=>tdF (frG x.f v))):=hide (uh hI).2
   have i7:(0:Int)≤(j:Int):=by omega
   have i8:(j:Int) < (L.length:Int):=by omega
   clear hx hok htk hcx hfrE hfok hxp hxe hi' hI
   go_wp2_with fail
   refine (uh HBG).mono ?_
   rintro e w3 ⟨rfl,rfl⟩
   go_wp2_with fail
   refine (uh HTA).mono ?_
   rintro e w4 ⟨rfl,ov4,hF4,hS4⟩
   obtain ⟨T,hT⟩:∃ T,T = takF xf i':=⟨_,rfl⟩
   have hF4':Fm w4 xa T xav ov4:=by rw [hT];exact hF4
   rw [← hT] at HFE htl hta
   have x0:=hF4'.is.cls (i:=0) (by omega)
   unfold clV at x0
   obtain ⟨n0,hn0⟩:∃ n0,n0 = T.cl.getD 0 0:=⟨_,rfl⟩
   rw [← hn0] at x0 HFE
   have HPA:=hide (part_any hF4' cx n0 (Nat.le_trans hta (by omega)))
   have HS4:=hide hS4
   clear hF4 hF4' hS4 hn0 hT HTA HBG xc hcell
   go_wp2_with fail
   refine (uh HPA).mono ?_
   rintro e w5 ⟨rfl,av5,hF5,hS5⟩
   have c6:=hF5.is.c6
   obtain ⟨oa,oc,hov,-,-⟩:=own_slc hF5.is.ow
   have hov':ov4 = .slice oa T.ow.length oc:=hov
   subst hov'
   have HJ0:Hid (Fm w5 xa ((T.ow.take 0).foldl (fun h p=>parF h cx p.l) (parF T cx n0)) av5 (.slice oa T.ow.length oc)∧Stp (bsF xa xav xov) w3 (bsF xa av5 (.slice oa T.ow.length oc)) w5):=hide ⟨hF5,(uh HS4).trans hS5⟩
   clear hF5 hS5 HPA x0 hov
   go_wp2_with fail
   go_loopg [47] T.ow.length (fun gn iv wx=>∃ (m:Nat) (av6:Value),m + gn = T.ow.length∧iv = .int .i64 m∧Hid (Fm wx xa ((T.ow.take m).foldl (fun h p=>parF h cx p.l) (parF T cx n0)) av6 (.slice oa T.ow.length oc)∧Stp (bsF xa xav xov) w3 (bsF xa av6 (.slice oa T.ow.length oc)) wx))
   case atStart=>exact ⟨0,av5,by omega,rfl,HJ0⟩
   case round =>
    clear HJ0 c6
    obtain ⟨m,av6,hmn,rfl,hJ⟩:=hrel
    obtain ⟨G2,hG2⟩:∃ G2,G2 = gk:=⟨_,rfl⟩
    have howE:((T.ow.take m).foldl (fun h p=>parF h cx p.l) (parF T cx n0)).ow = T.ow:=ow_parL _
    have hapE:((T.ow.take m).foldl (fun h p=>parF h cx p.l) (parF T cx n0)).ap.length≤100000:=by
     rw [parL_ap]
     show (T.ap ++ [_]).length + (T.ow.take m).length≤_
     rw [List.length_append,List.length_singleton,List.length_take]
     omega
    by_cases hml:m < T.ow.length
    ·have hd2:decide ((m:Int) < (T.ow.length:Int)) = true:=by simp;omega
     have hrow:wr.ownsRow 0 182 3 (.slice oa T.ow.length oc) T.ow.length (prCells T.ow):=by
      have:=(uh hJ).1.is.ow
      rwa [howE] at this
     obtain ⟨go,gc,hgo,-,-⟩:=own_formP hrow hml
     simp only [Value.slice.injEq,true_and] at hgo
     obtain ⟨rfl,rfl⟩:=hgo
     obtain ⟨y0,y1,y2⟩:=own_cells hrow hml
     have hfs:=foldl_step (g:=fun h p=>parF h cx p.l) (a:=parF T cx n0) hml
     obtain ⟨p,hp⟩:∃ p,p = T.ow.getD m pr0:=⟨_,rfl⟩
     rw [← hp] at y0 y1 y2 hfs
     obtain ⟨W1,hW1⟩:∃ W1,W1 = wr.alloc (.cells #[Value.int .i64 p.k,.int .i64 p.l,.int .i64 p.r] 182):=⟨_,rfl⟩
     have hbx:Below wr.heap.size wr W1:=by rw [hW1];exact below_boxQ wr _
     have hXb:Bk W1 wr.heap.size 182 [Value.int .i64 p.k,.int .i64 p.l,.int .i64 p.r]:=by rw [hW1];exact Bk.new wr _ _
     obtain ⟨X,hXe⟩:∃ X,X = wr.heap.size:=⟨_,rfl⟩
     rw [← hXe] at hXb
     have b1:=hXb.cell 1 rfl
     have HPB:=hide (part_any ((uh hJ).1.below hbx) cx p.l hapE)
     have HSB:=hide ((uh hJ).2.trans (Stp.ofBw hbx))
     have HFSm:=hide hfs
     have k1:(0:Int)≤(m:Int):=by omega
     have k2:(m:Int) < (T.ow.length:Int):=by omega
     clear hrow hfs hp hbx hXb hJ howE hapE
     go_upto_region 10 with fail
     rw [← hW1,← hXe]
     clear hW1 hXe
     go_wp2_with fail
     refine (uh HPB).mono ?_
     rintro e w7 ⟨rfl,av7,hF7,hS7⟩
     have HN:Hid (Fm w7 xa ((T.ow.take (m + 1)).foldl (fun h p=>parF h cx p.l) (parF T cx n0)) av7 (.slice (some ⟨go,0,none⟩) T.ow.length oc)∧Stp (bsF xa xav xov) w3 (bsF xa av7 (.slice (some ⟨go,0,none⟩) T.ow.length oc)) w7):=hide ⟨by rw [uh HFSm];exact hF7,(uh HSB).trans hS7⟩
     clear hF7 hS7 HPB HSB
     go_wp2_with fail
     go_roundg (G2 - 1)
     case rel=>exact ⟨m + 1,av7,by omega,by go_num,HN⟩
     case measure=>omega
    ·have hd2:decide ((m:Int) < (T.ow.length:Int)) = false:=by simp;omega
     have hfe:(T.ow.take m).foldl (fun h p=>parF h cx p.l) (parF T cx n0) = frG xf v:=by rw [List.take_of_length_le (by omega)];exact (uh HFE).symm
     rw [hfe] at hJ
     clear hfe howE hapE
     go_wp2_with fail
     refine (uh HGO _ _ _ (uh hJ).1 (uh hJ).2).mono ?_
     rintro e w8 ⟨rfl,nv8,y8,hy8,hLo8⟩
     have HN:Hid (Lo w w8 O A f av ov r.2.1 r.2.2.1 r.2.2.2 nv8 (Ln ++ [y8]) B (.slice (some ⟨g2,0,none⟩) L.length lc) L (j + 1)∧(Ln ++ [y8]).map (·.f) = (L.take (j + 1)).map (fun x=>tdF (frG x.f v))):=hide ⟨hLo8,by rw [uh HTK,List.map_append,uh HIm];simp [hy8]⟩
     have hl8:(Ln ++ [y8]).length = j + 1:=by rw [List.length_append,List.length_singleton,hLj]
     have HL8:=hide hl8
     clear hy8 hLo8 hl8 HGO HTK HIm HLOm hJ
     go_wp2_with fail
     go_roundg (G - 1)
     case rel=>exact ⟨j + 1,nv8,Ln ++ [y8],by omega,by go_num,uh HL8,HN⟩
     case measure=>omega
  ·have hd:decide ((j:Int) < (L.length:Int)) = false:=by simp;omega
   have hN:Ln.map (·.f) = r.1.map (fun g=>tdF (frG g v)):=by
    rw [(uh hI).2,List.take_of_length_le (by omega),← uh HLM,List.map_map]
    rfl
   have HNN:=hide hN
   clear hN
   go_wp2_with fail
   go_end0
   exact ⟨rfl,(uh hI).1.os.out (o:=ofOpen r (fun g=>frG g v)) (uh HNN) rfl⟩
end
def NewO (w:World) (o:Out) (O:Nat) (w':World):Prop:=∃ nv tv Ln Lt,Oo w' O o.nu o.da o.fu nv tv Ln Lt∧Ln.map (·.f) = o.nx∧Lt.map (·.f) = o.ot∧(∀ k∈fpO O nv tv Ln Lt,w.heap.size≤k)∧Below w.heap.size w w'
theorem OutP.own {w W w':World} {O:Nat} {o:Out} (h:OutP W O o w') (hb:Below w.heap.size w W) (hO:w.heap.size≤O):NewO w o O w':=by
 obtain ⟨nv,tv,Ln,Lt,h1,h2,h3,h4⟩:=h
 refine ⟨nv,tv,Ln,Lt,h1,h2,h3,fun k hk=>?_,⟨h4.os.trans hb.os,h4.tape.trans hb.tape,h4.output.trans hb.output,Nat.le_trans hb.size h4.size,fun k hk=>(h4.block k (Nat.lt_of_lt_of_le hk hb.size) (fun hn=>by rw [List.mem_singleton] at hn;omega)).trans (hb.block k hk)⟩⟩
 rcases h4.foot k hk with q | q
 ·rw [List.mem_singleton] at q;omega
 ·exact Nat.le_trans hb.size q
theorem Oo.swap {w:World} {O:Nat} {nu da fu:Bool} {nv tv:Value} {Ln Lt:List FE} (h:Oo w O nu da fu nv tv Ln Lt):Oo ((w.setCell ⟨O,0,none⟩ tv).setCell ⟨O,1,none⟩ nv) O nu da fu tv nv Lt Ln:=by
 have hnd:=List.nodup_cons.1 h.nd
 have hnd2:=List.nodup_append.1 hnd.2
 have e:∀ k,k≠O→((w.setCell ⟨O,0,none⟩ tv).setCell ⟨O,1,none⟩ nv).heap[k]? = w.heap[k]?:=fun k hk=>(Below.heap_setCell _ _ _ _ hk).trans (Below.heap_setCell _ _ _ _ hk)
 refine ⟨(h.bk.set 0 tv).set 1 nv,h.ot.of_eq (fun k hk=>e k (fun q=>hnd.1 (by rw [← q];exact List.mem_append_right _ hk))),h.nx.of_eq (fun k hk=>e k (fun q=>hnd.1 (by rw [← q];exact List.mem_append_left _ hk))),?_⟩
 rw [List.nodup_cons,List.nodup_append]
 refine ⟨fun hm=>hnd.1 ?_,hnd2.2.1,hnd2.1,fun a ha b hb q=>hnd2.2.2 b hb a ha q.symm⟩
 rcases List.mem_append.1 hm with q | q
 ·exact List.mem_append_right _ q
 ·exact List.mem_append_left _ q
section
variable {w:World} {A:Nat} {f:CF} {av ov:Value}
set_option maxRecDepth 100000 in
set_option maxHeartbeats 8000000 in
theorem efOf_any {n:Nd} (h:IsF w A f av ov) (hT:Td f) (hv:n.v < 4) (hi:n.ai < 4) (hop:n.op≤1000) :
  Calls Tryz.prog 203 #[ndV n,.pointer (some ⟨A,0,none⟩)] w fun e w'=>∃ O,e = .returned (.pointer (some ⟨O,0,none⟩))∧NewO w (efO n f) O w':=by
 have hO:=hT.ok
 have ha:f.ap.length≤40000:=Nat.le_trans hT.ln (by omega)
 have hol:=hO.owLen
 obtain ⟨oR,hoR⟩:∃ oR,oR = efO n f:=⟨_,rfl⟩
 obtain ⟨W1,hW1⟩:∃ W1,W1 = w.alloc (.cells #[Value.int .i64 (n.op:Int),.int .i64 (n.v:Int),.int .i64 (n.ak:Int),.int .i64 (n.ai:Int),.int .i64 (n.nx:Int),.int .i64 (n.ot:Int)] 186):=⟨_,rfl⟩
 obtain ⟨W2,hW2⟩:∃ W2,W2 = W1.alloc (.cells #[Value.slice none 0 0,.slice none 0 0,.bool false,.bool false,.bool false] 280):=⟨_,rfl⟩
 have hb1:Below w.heap.size w W1:=by rw [hW1];exact below_boxQ w _
 have hb2:Below W1.heap.size W1 W2:=by rw [hW2];exact below_boxQ W1 _
 have hX:Bk W2 w.heap.size 186 [Value.int .i64 (n.op:Int),.int .i64 (n.v:Int),.int .i64 (n.ak:Int),.int .i64 (n.ai:Int),.int .i64 (n.nx:Int),.int .i64 (n.ot:Int)]:=by
  refine Bk.below ?_ hb2
  rw [hW1];exact Bk.new w _ _
 have hOb:Bk W2 W1.heap.size 280 [nilS,nilS,.bool false,.bool false,.bool false]:=by rw [hW2];exact Bk.new W1 _ _
 have hsz:W1.heap.size = w.heap.size + 1:=by rw [hW1];simp
 obtain ⟨X,hXe⟩:∃ X,X = w.heap.size:=⟨_,rfl⟩
 obtain ⟨O,hOe⟩:∃ O,O = W1.heap.size:=⟨_,rfl⟩
 rw [← hXe] at hX
 rw [← hOe] at hOb
 have hb:=hb1.trans (hb2.mono hb1.size)
 have hwO:w.heap.size≤O:=by omega
 have hOs:Os W2 W2 O A f av ov false false false nilS nilS [] []:=Os.start ⟨hOb,Fl.nil0 _ _,Fl.nil0 _ _,by simp [flF,nilS,Value.ownBlock]⟩ (h.below hb) rfl (fun hn=>by have:=h.lt O hn;omega)
 have hOe':O = w.heap.size + 1:=by omega
 have hXO:X≠O:=by omega
 have b0:=hX.cell 0 rfl
 have b1:=hX.cell 1 rfl
 have b2:=hX.cell 2 rfl
 have b3:=hX.cell 3 rfl
 have b4:=hX.cell 4 rfl
 have b5:=hX.cell 5 rfl
 have HS:=hide hOs
 have HO:=hide hO
 have HB:=hide hb
 have HWO:=hide hwO
 have HX:=hide hX
 have HOE:=hide hoR
 obtain ⟨z,hz⟩:∃ z,z = (n.op:Int):=⟨_,rfl⟩
 have HZ:=hide hz
 rw [← hoR]
 have hefo:oR = efO n f:=hoR
 unfold efO at hefo
 have HEF:=hide hefo
 have HFN:Hid (∀ w':World,OutP W2 O oR w'→∃ O',(Ending.returned (.pointer (some ⟨O,0,none⟩)):Ending) = .returned (.pointer (some ⟨O',0,none⟩))∧NewO w oR O' w'):=hide (fun w' hp=>⟨O,rfl,hp.own hb hwO⟩)
 have hnd:ndV n = .agg #[.int .i64 z,.int .i64 (n.v:Int),.int .i64 (n.ak:Int),.int .i64 (n.ai:Int),.int .i64 (n.nx:Int),.int .i64 (n.ot:Int)]:=by rw [hz];rfl
 rw [← hz] at hW1 b0
 clear h hT hO hb1 hb2 hX hOb hsz hb hOs hoR hz hefo
 rw [hnd]
 have HND:Hid (ndV n = .agg #[.int .i64 z,.int .i64 (n.v:Int),.int .i64 (n.ak:Int),.int .i64 (n.ai:Int),.int .i64 (n.nx:Int),.int .i64 (n.ot:Int)]):=hide hnd
 clear hnd
 go_enter Tryz.func203,Tryz.ntmps203
 go_upto_region 2 with fail
 rw [← hW1,← hW2,← hOe',← hXe]
 clear hW1 hW2 hXe hOe hOe'
 by_cases h0:n.op = 0
 ·have z0:z = 0:=by rw [uh HZ,h0];rfl
  have HE:Hid (oR = out0):=hide (by rw [uh HEF,if_pos h0])
  subst z0
  clear h0
  go_wp2_with fail
  go_ret
  exact uh HFN _ (by rw [uh HE];exact (uh HS).out (o:=out0) rfl rfl)
 ·have z0:(z == 0) = false:=by rw [uh HZ];simp;omega
  by_cases h4:n.op = 4
  ·have z4:z = 4:=by rw [uh HZ,h4];rfl
   have HE:Hid (oR = if 24≤namF f then ⟨[],[],false,false,true⟩ else ⟨[tdF (crG f n.v)],[],false,false,false⟩):=hide (by rw [uh HEF,if_neg h0,if_neg (by omega),if_neg (by omega),if_neg (by omega),if_pos h4])
   have HCR:=hide (create_any (v:=n.v) (uh HS) (uh HO) ha hv)
   rw [← uh HE] at HCR
   subst z4
   clear h0 h4 z0
   go_wp2_with fail
   refine (uh HCR).mono ?_
   rintro e w3 ⟨rfl,hP⟩
   have HP:=hide hP
   clear hP HCR
   go_wp2_with fail
   go_ret
   exact uh HFN _ (uh HP)
  ·have z4:(z == 4) = false:=by rw [uh HZ];simp;omega
   by_cases h5:n.op = 5
   ·have z5:z = 5:=by rw [uh HZ,h5];rfl
    have HE:Hid (oR = ofOpen (opF f n.v) (fun g=>frG g n.v)):=hide (by rw [uh HEF,if_neg h0,if_neg (by omega),if_neg (by omega),if_neg (by omega),if_neg (by omega),if_pos h5])
    have HCR:=hide (free_any (v:=n.v) (uh HS) (uh HO) ha hv)
    rw [← uh HE] at HCR
    subst z5
    clear h0 h4 h5 z0 z4
    go_wp2_with fail
    refine (uh HCR).mono ?_
    rintro e w3 ⟨rfl,hP⟩
    have HP:=hide hP
    clear hP HCR
    go_wp2_with fail
    go_ret
    exact uh HFN _ (uh HP)
   ·have z5:(z == 5) = false:=by rw [uh HZ];simp;omega
    by_cases h2:n.op = 2
    ·have z2:z = 2:=by rw [uh HZ,h2];rfl
     have HE:Hid (oR = ofOpen (opF f n.ai) (fun g=>folG g n)):=hide (by rw [uh HEF,if_neg h0,if_neg (by omega),if_pos h2])
     have HCR:=hide (follow_any (uh HS) (uh HO) ha hv hi)
     rw [← uh HE,uh HND] at HCR
     subst z2
     clear h0 h4 h5 h2 z0 z4 z5
     go_wp2_with fail
     refine (uh HCR).mono ?_
     rintro e w3 ⟨rfl,hP⟩
     have HP:=hide hP
     clear hP HCR
     go_wp2_with fail
     go_ret
     exact uh HFN _ (uh HP)
    ·have z2:(z == 2) = false:=by rw [uh HZ];simp;omega
     by_cases h3:n.op = 3
     ·have z3:z = 3:=by rw [uh HZ,h3];rfl
      have HE:Hid (oR = ofOpen (opF f n.v) (fun g=>liG g n)):=hide (by rw [uh HEF,if_neg h0,if_neg (by omega),if_neg (by omega),if_pos h3])
      have HCR:=hide (link_any (uh HS) (uh HO) ha hv hi)
      rw [← uh HE,uh HND] at HCR
      subst z3
      clear h0 h4 h5 h2 h3 z0 z4 z5 z2
      go_wp2_with fail
      refine (uh HCR).mono ?_
      rintro e w3 ⟨rfl,hP⟩
      have HP:=hide hP
      clear hP HCR
      go_wp2_with fail
      go_ret
      exact uh HFN _ (uh HP)
     ·have z3:(z == 3) = false:=by rw [uh HZ];simp;omega
      by_cases h8:n.op = 8
      ·have z8:z = 8:=by rw [uh HZ,h8];rfl
       have HE:Hid (oR = ⟨(cmO f n).1,(cmO f n).2,false,false,false⟩):=hide (by rw [uh HEF,if_neg h0,if_neg (by omega),if_neg (by omega),if_neg (by omega),if_neg (by omega),if_neg (by omega),if_neg (by omega),if_pos h8])
       have HCR:=hide (compare_any (uh HS) (uh HO) ha hv hi)
       rw [← uh HE,uh HND] at HCR
       subst z8
       clear h0 h4 h5 h2 h3 h8 z0 z4 z5 z2 z3
       go_wp2_with fail
       refine (uh HCR).mono ?_
       rintro e w3 ⟨rfl,hP⟩
       have HP:=hide hP
       clear hP HCR
       go_wp2_with fail
       go_ret
       exact uh HFN _ (uh HP)
      ·have z8:(z == 8) = false:=by rw [uh HZ];simp;omega
       by_cases h9:n.op = 9
       ·have z9:z = 9:=by rw [uh HZ,h9];rfl
        have HE:Hid (oR = ⟨(cmO f n).2,(cmO f n).1,false,false,false⟩):=hide (by rw [uh HEF,if_neg h0,if_neg (by omega),if_neg (by omega),if_neg (by omega),if_neg (by omega),if_neg (by omega),if_neg (by omega),if_neg (by omega),if_pos h9])
        have HCR:=hide (compare_any (n:=n) (uh HS) (uh HO) ha hv hi)
        rw [uh HND] at HCR
        subst z9
        clear h0 h4 h5 h2 h3 h8 h9 z0 z4 z5 z2 z3 z8
        go_wp2_with fail
        refine (uh HCR).mono ?_
        rintro e w3 ⟨rfl,nv,tv,Ln,Lt,hoo,hm1,hm2,hst⟩
        obtain ⟨na,nc,hnv,-,-⟩:=own_slc hoo.nx.row
        subst hnv
        obtain ⟨ta,tc,htv,-,-⟩:=own_slc hoo.ot.row
        subst htv
        have o0:=hoo.bk.cell 0 rfl
        have o1:=hoo.bk.cell 1 rfl
        have oz:=hoo.bk.frz 0
        have hbk1:=hoo.bk.set 0 (.slice ta Lt.length tc)
        have o1':=hbk1.cell 1 rfl
        have oz':=hbk1.frz 1
        have hsw:=hoo.swap
        have hP:OutP W2 O oR ((w3.setCell ⟨O,0,none⟩ (.slice ta Lt.length tc)).setCell ⟨O,1,none⟩ (.slice na Ln.length nc)):=by
         rw [uh HE]
         refine ⟨_,_,Lt,Ln,hsw,hm2,hm1,((hst.setCell (p:=⟨O,0,none⟩) (Or.inl (by simp)) _).setCell (p:=⟨O,1,none⟩) (Or.inl (by simp)) _).foots (fun k hk=>hst.foot k ?_)⟩
         simp only [fpO,List.mem_cons,List.mem_append] at hk ⊢
         rcases hk with q | q | q
         ·exact Or.inl q
         ·exact Or.inr (Or.inr q)
         ·exact Or.inr (Or.inl q)
        have HP:=hide hP
        clear hoo hm1 hm2 hst hbk1 hsw hP HCR
        go_wp2_with fail
        go_ret
        exact uh HFN _ (uh HP)
       ·have z9:(z == 9) = false:=by rw [uh HZ];simp;omega
        by_cases h7:n.op = 7
        ·have z7:z = 7:=by rw [uh HZ,h7];rfl
         have HE:Hid (oR = ⟨[tdF f],[tdF f],false,false,false⟩):=hide (by rw [uh HEF,if_neg h0,if_neg (by omega),if_neg (by omega),if_neg (by omega),if_neg (by omega),if_neg (by omega),if_pos h7])
         have HCP:=hide (copy_any (uh HS).ff (uh HO).c5 ha (Nat.le_trans hol (by omega)))
         subst z7
         clear h0 h4 h5 h2 h3 h8 h9 h7 z0 z4 z5 z2 z3 z8 z9
         go_wp2_with fail
         refine (uh HCP).mono ?_
         rintro e w3 ⟨A3,rfl,hN3⟩
         obtain ⟨av3,ov3,hf3⟩:=hN3.frf
         have hO3:=(uh HS).below hf3.bw
         have HGO:=hide (goOn_any hO3.oo hf3.fm (uh HO) (Nat.le_trans ha (by omega)) ((uh HS).fresh hf3.ge) (by simp))
         have H3:=hide hO3
         have HG3:=hide hf3.ge
         clear hN3 hf3 hO3 HCP
         go_wp2_with fail
         refine (uh HGO).mono ?_
         rintro e w4 ⟨rfl,nv4,x4,-,hx4,hoo4,hs4⟩
         have hO4:=(uh H3).next (uh HG3) hoo4 hs4
         have HCP2:=hide (copy_any hO4.ff (uh HO).c5 ha (Nat.le_trans hol (by omega)))
         have H4:=hide hO4
         have HX4:=hide hx4
         clear hoo4 hs4 hx4 hO4 HGO
         go_wp2_with fail
         refine (uh HCP2).mono ?_
         rintro e w5 ⟨A5,rfl,hN5⟩
         obtain ⟨av5,ov5,hf5⟩:=hN5.frf
         have hO5:=(uh H4).below hf5.bw
         have HTU:=hide (turn_any hO5.oo hf5.fm (uh HO) (Nat.le_trans ha (by omega)) ((uh H4).fresh hf5.ge) (by simp))
         have H5:=hide hO5
         have HG5:=hide (fun k hk=>Nat.le_trans (uh H4).st.size (hf5.ge k hk))
         clear hN5 hf5 hO5 HCP2
         go_wp2_with fail
         refine (uh HTU).mono ?_
         rintro e w6 ⟨rfl,tv6,x6,-,hx6,hoo6,hs6⟩
         have HN:=hide ((uh H5).next (uh HG5) hoo6 hs6)
         have HX6:=hide hx6
         clear hoo6 hs6 hx6 HTU
         go_wp2_with fail
         go_ret
         exact uh HFN _ (by rw [uh HE];exact (uh HN).out (o:=⟨[tdF f],[tdF f],false,false,false⟩) (by simp [uh HX4]) (by simp [uh HX6]))
        ·have z7:(z == 7) = false:=by rw [uh HZ];simp;omega
         by_cases h1:n.op = 1
         ·have z1:z = 1:=by rw [uh HZ,h1];rfl
          have HE:Hid (oR = ⟨[tdF (setC f (1 + n.v) (clT f n.ak n.ai))],[],false,false,false⟩):=hide (by rw [uh HEF,if_neg h0,if_pos h1])
          have HCL:Hid (∀ W':World,Below W2.heap.size W2 W'→Calls Tryz.prog 236 #[.pointer (some ⟨A,0,none⟩),.agg #[.int .i64 (n.ak:Int),.int .i64 (n.ai:Int)]] W' fun e w''=>e = .returned (.int .i64 (clT f n.ak n.ai:Nat))∧Below W2.heap.size W2 w''):=hide (fun W' hb=>(class_any ((uh HS).ff.below hb) n.ak n.ai hi).mono (fun e w'' hw=>⟨hw.1,hb.trans (hw.2.mono hb.size)⟩))
          have HAS:Hid (∀ W':World,Below W2.heap.size W2 W'→Calls Tryz.prog 235 #[.pointer (some ⟨O,0,none⟩),.pointer (some ⟨A,0,none⟩),.int .i64 (n.v:Int),.int .i64 (clT f n.ak n.ai:Nat)] W' fun e w''=>e = .returned (.tuple #[])∧OutP W2 O oR w''∧Bk w'' X 186 [Value.int .i64 (n.op:Int),.int .i64 (n.v:Int),.int .i64 (n.ak:Int),.int .i64 (n.ai:Int),.int .i64 (n.nx:Int),.int .i64 (n.ot:Int)]):=hide (fun W' hb=>(assign_any ((uh HS).rebase hb) (uh HO) ha hv ((uh HO).cT _ _)).mono (fun e w'' hw=>⟨hw.1,by rw [uh HE];exact hw.2.pre hb,by
           obtain ⟨nv,tv,Ln,Lt,-,-,-,hst⟩:=hw.2
           exact ((uh HX).below hb).stp hst (by simpa using hXO)⟩))
          have hXl:=(uh HX).lt
          obtain ⟨cc,hcc⟩:∃ cc,cc = clT f n.ak n.ai:=⟨_,rfl⟩
          rw [← hcc] at HCL HAS
          obtain ⟨nv',hnv'⟩:∃ q,q = n.v:=⟨_,rfl⟩
          obtain ⟨nk',hnk'⟩:∃ q,q = n.ak:=⟨_,rfl⟩
          obtain ⟨ni',hni'⟩:∃ q,q = n.ai:=⟨_,rfl⟩
          rw [← hnv',← hnk',← hni'] at HAS
          rw [← hnk',← hni'] at HCL
          rw [← hnv'] at b1
          rw [← hnk'] at b2
          rw [← hni'] at b3
          rw [← hnv',← hnk',← hni']
          subst z1
          clear h0 h4 h5 h2 h3 h8 h9 h7 h1 z0 z4 z5 z2 z3 z8 z9 z7 hcc hnv' hnk' hni'
          go_upto_region 7 with fail
          go_region_held3 (fun W=>W.cell? ⟨X,1,none⟩ = some (.int .i64 (nv':Int))∧W.cell? ⟨X,2,none⟩ = some (.int .i64 (nk':Int))∧W.cell? ⟨X,3,none⟩ = some (.int .i64 (ni':Int))) (first | (simp only [World.cell?_drew,b1,b2,b3,and_self];done) | (simp only [q1,q2,q3,and_self];done) | (simp only [r1,r2,r3,and_self];done))
           (first
            | (go_at_call 235;refine (uh HAS _ (uh HB3)).mono ?_;rintro e w4 ⟨rfl,hP,hX4⟩;have r1:=hX4.cell 1 rfl;have r2:=hX4.cell 2 rfl;have r3:=hX4.cell 3 rfl;have HP:=hide hP;clear hP hX4)
            | (go_at_call 236;refine (uh HCL _ (Below.refl _ _).drew).mono ?_;rintro e w3 ⟨rfl,hb3⟩;have q1:=(hb3.cell hXl).trans b1;have q2:=(hb3.cell hXl).trans b2;have q3:=(hb3.cell hXl).trans b3;have HB3:=hide hb3;clear hb3))
          go_wp2_with fail
          go_ret
          exact uh HFN _ (uh HP)
         ·have z1:(z == 1) = false:=by rw [uh HZ];simp;omega
          have HE:Hid (oR = ⟨[tdF f],[],false,false,false⟩):=hide (by rw [uh HEF,if_neg h0,if_neg h1,if_neg h2,if_neg h3,if_neg h4,if_neg h5,if_neg h7,if_neg h8,if_neg h9])
          have HCP:=hide (copy_any (uh HS).ff (uh HO).c5 ha (Nat.le_trans hol (by omega)))
          clear h0 h4 h5 h2 h3 h8 h9 h7 h1
          go_wp2_with fail
          refine (uh HCP).mono ?_
          rintro e w3 ⟨A3,rfl,hN3⟩
          obtain ⟨av3,ov3,hf3⟩:=hN3.frf
          have hO3:=(uh HS).below hf3.bw
          have HGO:=hide (goOn_any hO3.oo hf3.fm (uh HO) (Nat.le_trans ha (by omega)) ((uh HS).fresh hf3.ge) (by simp))
          have H3:=hide hO3
          have HG3:=hide hf3.ge
          clear hN3 hf3 hO3 HCP
          go_wp2_with fail
          refine (uh HGO).mono ?_
          rintro e w4 ⟨rfl,nv4,x4,-,hx4,hoo4,hs4⟩
          have HN:=hide ((uh H3).next (uh HG3) hoo4 hs4)
          have HX4:=hide hx4
          clear hoo4 hs4 hx4 HGO
          go_wp2_with fail
          go_ret
          exact uh HFN _ (by rw [uh HE];exact (uh HN).out (o:=⟨[tdF f],[],false,false,false⟩) (by simp [uh HX4]) rfl)
end
end Go.Proofs.YtciihepbeacppaaGreat
