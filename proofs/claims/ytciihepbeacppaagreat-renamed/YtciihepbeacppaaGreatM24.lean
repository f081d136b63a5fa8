import Derived.Test.YtciihepbeacppaaGreatM23
import Derived.Deep.Cut
import Derived.Deep.CutRange
import Derived.Deep.DeepCutAuto
namespace Go.Proofs.YtciihepbeacppaaGreat
open Go.RowKit
set_option linter.unusedVariables false
section
variable {w W:World} {S:Nat} {c:Cd} {c0 hv kv wv:Value} {KV WV:List Value} {K:List (List En)} {s:Sr} {x:FE}
theorem Sh.wcs {wB wC gA cA m n:Nat} (h:Sh w S c c0 hv kv (.slice (some ⟨wB,0,none⟩) m wC) KV WV K s) (hn:n < K.length) (hW:WV.getD n vNil = .slice (some ⟨gA,0,none⟩) 5 cA):w.cell? ⟨S,4,none⟩ = some (.slice (some ⟨wB,0,none⟩) m wC)∧w.cell? ⟨wB,n,none⟩ = some (.slice (some ⟨gA,0,none⟩) 5 cA)∧(∀ t,t < 5→w.cell? ⟨gA,t,none⟩ = some (.bool ((s.wr.getD n []).getD t false)))∧∀ t,w.frozen? ⟨gA,t,none⟩ = false:=by
 obtain ⟨g,cap,g2,cap2,h1,h2,h3,h4,h5⟩:=h.wc hn
 rw [hW] at h2
 simp only [Value.slice.injEq,Option.some.injEq,Addr.mk.injEq,and_true,true_and] at h1 h2
 obtain ⟨rfl,-,-⟩:=h1
 obtain ⟨rfl,rfl⟩:=h2
 exact ⟨h.bs.cell 4 rfl,h3,h4,h5⟩
theorem Lp.turn {w W:World} {KV0:List Value} {K0:List (List En)} {v tv:Value} {L Lt:List FE} {j Y O:Nat} (h:Lp w W S c c0 hv kv wv KV0 WV K0 [] KV K s v L j (Y :: O :: flF tv Lt)) (ht:Fl W 0 tv Lt) (hT:∀ y∈Lt,Td y.f) (hn:∀ k∈flF tv Lt,w.heap.size≤k) (hY:Y ∉ flF tv Lt):Lp w W S c c0 hv kv wv KV0 WV K0 [] KV K s tv Lt 0 [Y]:=by
 have e:fpP tv Lt 0 = flF tv Lt:=by simp [fpP,flF]
 refine ⟨h.sh,h.kl,h.go,⟨ht.pend,hT,fun k hk=>?_⟩,fun k hk=>?_,fun k hk=>Or.inr ?_⟩
 ·rw [e] at hk
  exact (h.ap k (List.mem_cons_of_mem _ (List.mem_cons_of_mem _ hk))).1
 ·rw [List.mem_singleton] at hk
  subst hk
  obtain ⟨a1,-,a3⟩:=h.ap k (by simp)
  exact ⟨a1,by rw [e];exact hY,a3⟩
 ·rw [e] at hk
  exact hn k hk
set_option maxRecDepth 100000 in
set_option maxHeartbeats 16000000 in
theorem step_sh {Q:Nat} {ws:List ByteArray} {ps:PS} {al:List Atm} {vv pv nvv:Value} (h:Sh w S c (.pointer (some ⟨Q,0,none⟩)) hv kv wv KV WV K s) (hC:Cp w Q ws ps al vv pv nvv) (hcn:c.nds = ps.nodes) (hN:NdO c.nds) (hF:IsF w x.A x.f x.av x.ov) (hT:Td x.f) (hd:∀ k∈x.bs,k ∉ shF S hv kv wv KV WV) {n:Nat} (hn:n < K.length) (hKl:K.length≤100000) {fuel:Nat} (hok:(stS c fuel n x.f s).ok = true) :
  Calls Tryz.prog 173 #[.pointer (some ⟨S,0,none⟩),.int .i64 n,.pointer (some ⟨x.A,0,none⟩)] w fun e w'=>e = .returned (.tuple #[])∧LayP w S c (.pointer (some ⟨Q,0,none⟩)) hv kv wv KV WV K [] (stS c fuel n x.f s) w':=by
 have hnl:=h.nl
 obtain ⟨nd,hnd⟩:∃ nd,nd = c.nds.getD n nd0:=⟨_,rfl⟩
 have hv4:=hN.v n
 have hop:=hN.op n
 have hnx:=hN.nx n (by omega)
 have hot:=hN.ot n (by omega)
 rw [← hnd] at hv4 hop hnx hot
 have hndA:ndA ps.nodes n = nd:=by rw [hnd,hcn];rfl
 have HAT:Hid (Calls Tryz.prog 103 #[.pointer (some ⟨Q,0,none⟩),.int .i64 n] w fun e w'=>e = .returned (.agg #[.int .i64 (nd.op:Int),.int .i64 (nd.v:Int),.int .i64 (nd.ak:Int),.int .i64 (nd.ai:Int),.int .i64 (nd.nx:Int),.int .i64 (nd.ot:Int)])∧Below w.heap.size w w'):=hide (by
  have h1:=at_any n hC (by rw [← hcn];omega)
  rw [hndA] at h1
  exact h1)
 obtain ⟨⟨onx,oot,nu,da,fu⟩,ho⟩:∃ o,o = efO nd x.f:=⟨_,rfl⟩
 have htd:(∀ x∈onx,Td x)∧∀ x∈oot,Td x:=by
  have h1:=efO_td hv4.1 hv4.2 hT
  rw [← ho] at h1
  exact h1
 obtain ⟨b1,hb1⟩:∃ b1,b1 = (decide (nd.op = 0) && !decide (loL x.f = [])):=⟨_,rfl⟩
 have hst:stS c fuel n x.f s = oot.foldl (fun s g=>arS c fuel n nd.ot g s) (onx.foldl (fun s g=>arS c fuel n nd.nx g s) (fuS fu (wrI da n 4 (wrI nu n 3 (wrI b1 n 2 s))))):=by
  unfold stS
  simp only
  rw [← hnd,← ho,← hb1]
 rw [hst] at hok ⊢
 have hnxo:onx≠[]→nd.nx < K.length:=fun e=>by rw [← hnl];exact hnx (efO_nx (by rw [← ho];exact e))
 have hoto:oot≠[]→nd.ot < K.length:=fun e=>by rw [← hnl];exact hot (efO_ot (by rw [← ho];exact e))
 obtain ⟨wB,wC,gA,cA,hwv,hWV,-,-,-⟩:=h.wc hn
 subst hwv
 have c0':=h.bs.cell 0 rfl
 have H:=hide h
 have HF:=hide hF
 have HT:=hide hT
 have HD:=hide hd
 have HO:=hide ho
 have HB1:=hide hb1
 have HTD:=hide htd
 have HNX:=hide (And.intro hnxo hoto)
 have HOK:=hide hok
 have HWV:=hide hWV
 have HV4:=hide (And.intro hv4 hop)
 obtain ⟨POST,hPOST⟩:∃ POST:World→Prop,POST = fun w'=>LayP w S c (.pointer (some ⟨Q,0,none⟩)) hv kv (.slice (some ⟨wB,0,none⟩) K.length wC) KV WV K [] (oot.foldl (fun s g=>arS c fuel n nd.ot g s) (onx.foldl (fun s g=>arS c fuel n nd.nx g s) (fuS fu (wrI da n 4 (wrI nu n 3 (wrI b1 n 2 s)))))) w':=⟨_,rfl⟩
 have HPOST:=hide hPOST
 rw [show (fun (e:Ending) (w':World)=>e = .returned (.tuple #[])∧LayP w S c (.pointer (some ⟨Q,0,none⟩)) hv kv (.slice (some ⟨wB,0,none⟩) K.length wC) KV WV K [] (oot.foldl (fun s g=>arS c fuel n nd.ot g s) (onx.foldl (fun s g=>arS c fuel n nd.nx g s) (fuS fu (wrI da n 4 (wrI nu n 3 (wrI b1 n 2 s)))))) w') = (fun e w'=>e = .returned (.tuple #[])∧POST w') by rw [hPOST]]
 have i1:(0:Int)≤(n:Int):=by omega
 have i2:(n:Int) < (K.length:Int):=by omega
 clear h hC hcn hN hF hT hd hnd hv4 hop hnx hot hndA htd hst hnxo hoto hok hWV ho hb1 hPOST hnl
 go_enter Tryz.func173,Tryz.ntmps173
 go_wp2_with fail
 refine (uh HAT).mono ?_
 rintro e w1 ⟨rfl,hbw1⟩
 obtain ⟨W2,hW2⟩:∃ W2,W2 = w1.alloc (.cells #[Value.int .i64 (nd.op:Int),.int .i64 (nd.v:Int),.int .i64 (nd.ak:Int),.int .i64 (nd.ai:Int),.int .i64 (nd.nx:Int),.int .i64 (nd.ot:Int)] 186):=⟨_,rfl⟩
 have hbx:Below w1.heap.size w1 W2:=by rw [hW2];exact below_boxQ w1 _
 have hXb:Bk W2 w1.heap.size 186 nd.cells:=by rw [hW2];exact Bk.new w1 _ _
 have hb2:=hbw1.trans (hbx.mono hbw1.size)
 obtain ⟨Y,hYe⟩:∃ Y,Y = w1.heap.size:=⟨_,rfl⟩
 rw [← hYe] at hXb
 have hYw:w.heap.size≤Y:=by rw [hYe];exact hbw1.size
 have y0:=hXb.cell 0 rfl
 have H2:=hide (And.intro hb2 (And.intro hXb hYw))
 have HLO:=hide (lost_any ((uh HF).below hb2) (uh HT).ok)
 clear hbx hXb hb2 hbw1 hYw HAT c0'
 go_upto_region 1 with fail
 rw [← hW2,← hYe]
 clear hW2 hYe
 go_cut [26] (fun bv wx=>bv = .bool b1∧Hid (Below W2.heap.size W2 wx))
 case first =>
  by_cases hop0:nd.op = 0
  ·have d0:((nd.op:Int) == (0:Int)) = true:=by simp [hop0]
   by_cases hlo:loL x.f = []
   ·have d1:decide (0 < (loL x.f).length) = false:=by rw [hlo];rfl
    have HBB:Hid (b1 = false):=hide (by rw [uh HB1];simp [hlo])
    clear hop0 hlo
    go_wp2_with fail
    refine (uh HLO).mono ?_
    rintro e w3 ⟨lv,rfl,hlr,hb3⟩
    obtain ⟨la,lc,hlv,-,-⟩:=own_slc hlr
    subst hlv
    have HB3:=hide hb3
    clear hlr hb3
    go_wp2_with fail
    go_meet
    exact ⟨by rw [uh HBB],HB3⟩
   ·have d1:decide (0 < (loL x.f).length) = true:=by
     have:(loL x.f).length≠0:=fun e=>hlo (List.length_eq_zero_iff.1 e)
     rw [decide_eq_true_eq];omega
    have HBB:Hid (b1 = true):=hide (by rw [uh HB1];simp [hop0,hlo])
    clear hop0 hlo
    go_wp2_with fail
    refine (uh HLO).mono ?_
    rintro e w3 ⟨lv,rfl,hlr,hb3⟩
    obtain ⟨la,lc,hlv,-,-⟩:=own_slc hlr
    subst hlv
    have HB3:=hide hb3
    clear hlr hb3
    go_wp2_with fail
    go_meet
    exact ⟨by rw [uh HBB],HB3⟩
  ·have d0:((nd.op:Int) == (0:Int)) = false:=by simp;omega
   have HBB:Hid (b1 = false):=hide (by rw [uh HB1];simp [hop0])
   clear hop0
   go_wp2_with fail
   go_meet
   exact ⟨by rw [uh HBB],hide (Below.refl _ _)⟩
 case rest =>
  obtain ⟨rfl,hB3⟩:=hcut
  have h3:=((uh H).below (uh H2).1).below (uh hB3)
  have hb3:=(uh H2).1.trans ((uh hB3).mono (uh H2).1.size)
  have hY3:=(uh H2).2.1.below (uh hB3)
  have hF3:=(uh HF).below hb3
  have H3:=hide (And.intro h3 (And.intro (Gon.below (F:=(shF S hv kv (.slice (some ⟨wB,0,none⟩) K.length wC) KV WV)) (D:=drF K) (X:=[]) hb3) (And.intro hY3 hF3)))
  clear h3 hb3 hY3 hF3 HLO y0
  go_upto_if 26 with fail
  go_cut [] (fun wx=>Hid (Sh wx S c (.pointer (some ⟨Q,0,none⟩)) hv kv (.slice (some ⟨wB,0,none⟩) K.length wC) KV WV K (wrI b1 n 2 s)∧Gon w wx (shF S hv kv (.slice (some ⟨wB,0,none⟩) K.length wC) KV WV) (shF S hv kv (.slice (some ⟨wB,0,none⟩) K.length wC) KV WV) (drF K) (drF K) []∧Bk wx Y 186 nd.cells∧IsF wx x.A x.f x.av x.ov))
  case first =>
   cases b1
   rotate_left
   ·obtain ⟨h3,hg3,hY3,hF3⟩:=uh H3
    obtain ⟨d4,dw,dt,dz⟩:=h3.wcs hn (uh HWV)
    have dt':=dt 2 (by omega)
    have dz':=dz 2
    obtain ⟨hb,hgs⟩:=h3.bad hn (t:=2) (by omega) (uh HWV)
    have hYg:Y≠gA:=fun e=>by
     have h1:=(uh H).lt gA hgs
     have h2:=(uh H2).2.2
     omega
    have HN:Hid (Sh (wc.setCell ⟨gA,2,none⟩ (.bool true)) S c (.pointer (some ⟨Q,0,none⟩)) hv kv (.slice (some ⟨wB,0,none⟩) K.length wC) KV WV K (wrI true n 2 s)∧Gon w (wc.setCell ⟨gA,2,none⟩ (.bool true)) (shF S hv kv (.slice (some ⟨wB,0,none⟩) K.length wC) KV WV) (shF S hv kv (.slice (some ⟨wB,0,none⟩) K.length wC) KV WV) (drF K) (drF K) []∧Bk (wc.setCell ⟨gA,2,none⟩ (.bool true)) Y 186 nd.cells∧IsF (wc.setCell ⟨gA,2,none⟩ (.bool true)) x.A x.f x.av x.ov):=hide (by
     rw [show (wrI true n 2 s) = wrS n 2 s from rfl]
     exact ⟨hb,hg3.trans (Gon.stp (X:=[]) ((Stp.refl [gA] wc).setCell (p:=⟨gA,2,none⟩) (Or.inl (by simp)) (.bool true)) (fun k hk=>Or.inl (by rw [List.mem_singleton] at hk;rw [hk];exact hgs))) (fun k hk=>by simp at hk),hY3.setO (p:=⟨gA,2,none⟩) (fun e=>hYg e.symm) _,hF3.of_eq (fun k hk=>Below.heap_setCell _ _ _ _ (fun e=>uh HD k hk (by rw [show k = gA from e];exact hgs)))⟩)
    clear h3 hg3 hY3 hF3 dt dz hb hgs hYg H3
    go_wp2_with fail
    go_meet
    exact HN
   ·have HN:Hid (Sh wc S c (.pointer (some ⟨Q,0,none⟩)) hv kv (.slice (some ⟨wB,0,none⟩) K.length wC) KV WV K (wrI false n 2 s)∧Gon w wc (shF S hv kv (.slice (some ⟨wB,0,none⟩) K.length wC) KV WV) (shF S hv kv (.slice (some ⟨wB,0,none⟩) K.length wC) KV WV) (drF K) (drF K) []∧Bk wc Y 186 nd.cells∧IsF wc x.A x.f x.av x.ov):=hide (by
     rw [show (wrI false n 2 s) = s from rfl]
     exact uh H3)
    clear H3
    go_wp2_with fail
    go_meet
    exact HN
  case rest =>
   obtain ⟨h4,hg4,hY4,hF4⟩:=uh hcut
   have y0:=hY4.cell 0 rfl
   have y1:=hY4.cell 1 rfl
   have y2:=hY4.cell 2 rfl
   have y3:=hY4.cell 3 rfl
   have y4:=hY4.cell 4 rfl
   have y5:=hY4.cell 5 rfl
   have HEF:=hide (efOf_any (n:=nd) hF4 (uh HT) (uh HV4).1.1 (uh HV4).1.2 (uh HV4).2)
   unfold ndV at HEF
   have H4:=hide (And.intro h4 (And.intro hg4 hY4))
   clear h4 hg4 hY4 hF4 hcut H3
   go_wp2_with fail
   refine (uh HEF).mono ?_
   rintro e w5 ⟨O,rfl,nv,tv,Ln,Lt,hoo,hn1,ht1,hge,hb5⟩
   rw [← uh HO] at hoo hn1 ht1
   simp only at hoo hn1 ht1
   have hYl:=(uh H4).2.2.lt
   have hbig:∀ k,w.heap.size≤k→(k ∉ (shF S hv kv (.slice (some ⟨wB,0,none⟩) K.length wC) KV WV)∧k ∉ drF K)∧w.heap.size≤k:=fun k hk=>⟨⟨fun e=>by have:=(uh H).lt k e;omega,fun e=>by have:=(uh H).drlt k e;omega⟩,hk⟩
   have HX:Hid (Sx w w5 S c (.pointer (some ⟨Q,0,none⟩)) hv kv (.slice (some ⟨wB,0,none⟩) K.length wC) KV WV K (wrI b1 n 2 s) O nu da fu nv tv Ln Lt Y nd):=hide ⟨(uh H4).1.below hb5,(uh H4).2.1.trans (Gon.below (X:=[]) hb5) (fun k hk=>by simp at hk),hoo,(uh H4).2.2.below hb5,fun k hk=>by
    rcases List.mem_cons.1 hk with p | p
    ·rw [p];exact hbig Y (uh H2).2.2
    ·exact hbig k (Nat.le_trans (uh H4).2.1.st.size (hge k p)),fun e=>by have:=hge Y e;omega⟩
   have HM:=hide (And.intro hn1 ht1)
   clear hoo hn1 ht1 hge hb5 hYl hbig H4 HEF y0 y1 y2 y3 y4 y5
   have o2:=(uh HX).oo.bk.cell 2 rfl
   go_upto_if 41 with fail
   go_cut [] (fun wx=>Hid (Sx w wx S c (.pointer (some ⟨Q,0,none⟩)) hv kv (.slice (some ⟨wB,0,none⟩) K.length wC) KV WV K (wrI nu n 3 (wrI b1 n 2 s)) O nu da fu nv tv Ln Lt Y nd))
   case first =>
    cases nu
    ·go_wp2_with fail
     go_meet
     exact HX
    ·obtain ⟨d4,dw,dt,dz⟩:=(uh HX).sh.wcs hn (uh HWV)
     have dt':=dt 3 (by omega)
     have dz':=dz 3
     have HN:=hide ((uh HX).bad hn (t:=3) (by omega) (uh HWV))
     clear dt dz
     go_wp2_with fail
     go_meet
     exact HN
   case rest =>
   clear o2 HX
   have HX:=hide (uh hcut)
   clear hcut
   have o3:=(uh HX).oo.bk.cell 3 rfl
   go_upto_if 53 with fail
   go_cut [] (fun wx=>Hid (Sx w wx S c (.pointer (some ⟨Q,0,none⟩)) hv kv (.slice (some ⟨wB,0,none⟩) K.length wC) KV WV K (wrI da n 4 (wrI nu n 3 (wrI b1 n 2 s))) O nu da fu nv tv Ln Lt Y nd))
   case first =>
    cases da
    ·go_wp2_with fail
     go_meet
     exact HX
    ·obtain ⟨d4,dw,dt,dz⟩:=(uh HX).sh.wcs hn (uh HWV)
     have dt':=dt 4 (by omega)
     have dz':=dz 4
     have HN:=hide ((uh HX).bad hn (t:=4) (by omega) (uh HWV))
     clear dt dz
     go_wp2_with fail
     go_meet
     exact HN
   case rest =>
   clear o3 HX
   have HX:=hide (uh hcut)
   clear hcut
   have o4:=(uh HX).oo.bk.cell 4 rfl
   go_upto_if 65 with fail
   go_cut [] (fun wx=>Hid (Sx w wx S c (.pointer (some ⟨Q,0,none⟩)) hv kv (.slice (some ⟨wB,0,none⟩) K.length wC) KV WV K (fuS fu (wrI da n 4 (wrI nu n 3 (wrI b1 n 2 s)))) O nu da fu nv tv Ln Lt Y nd))
   case first =>
    cases fu
    ·go_wp2_with fail
     go_meet
     exact hide (by rw [show fuS false (wrI da n 4 (wrI nu n 3 (wrI b1 n 2 s))) = (wrI da n 4 (wrI nu n 3 (wrI b1 n 2 s))) by unfold fuS;rw [Bool.or_false]];exact uh HX)
    ·have e8:=(uh HX).sh.bs.cell 8 rfl
     have z8:=(uh HX).sh.bs.frz 8
     have HN:=hide (uh HX).full
     go_wp2_with fail
     go_meet
     exact hide (by rw [show fuS true (wrI da n 4 (wrI nu n 3 (wrI b1 n 2 s))) = { (wrI da n 4 (wrI nu n 3 (wrI b1 n 2 s))) with fu:=true } by unfold fuS;rw [Bool.or_true]];exact uh HN)
   case rest =>
   clear o4 HX
   obtain ⟨s2,hs2⟩:∃ s2,s2 = (fuS fu (wrI da n 4 (wrI nu n 3 (wrI b1 n 2 s)))):=⟨_,rfl⟩
   rw [← hs2] at hcut HPOST HOK
   obtain ⟨s3,hs3⟩:∃ s3,s3 = onx.foldl (fun s g=>arS c fuel n nd.nx g s) s2:=⟨_,rfl⟩
   rw [← hs3] at HPOST HOK
   have hX:=uh hcut
   have htLn:∀ y∈Ln,Td y.f:=fun y hy=>(uh HTD).1 _ (by rw [← (uh HM).1];exact List.mem_map_of_mem hy)
   have htLt:∀ y∈Lt,Td y.f:=fun y hy=>(uh HTD).2 _ (by rw [← (uh HM).2];exact List.mem_map_of_mem hy)
   have hlp:=hX.lp htLn
   have HST:Hid ((∀ k∈flF tv Lt,w.heap.size≤k)∧Y ∉ flF tv Lt∧∀ y∈Lt,Td y.f):=hide ⟨fun k hk=>(hX.on k (by simp only [fpO,List.mem_cons,List.mem_append];exact Or.inr (Or.inr (Or.inr hk)))).2,fun e=>hX.yn (by simp only [fpO,List.mem_cons,List.mem_append];exact Or.inr (Or.inr e)),htLt⟩
   obtain ⟨na,nc,hnv,hnv1,hnv2⟩:=own_slc hX.oo.nx.row
   obtain ⟨ta,tc,htv,htv1,htv2⟩:=own_slc hX.oo.ot.row
   have oc:=hX.oo.bk.cell 0 rfl
   have HI0:Hid (Lp w wc S c (.pointer (some ⟨Q,0,none⟩)) hv kv (.slice (some ⟨wB,0,none⟩) K.length wC) KV WV K [] KV K s2 nv Ln 0 (Y :: O :: flF tv Lt)∧((Ln.drop 0).map (·.f)).foldl (fun s g=>arS c fuel n nd.nx g s) s2 = s3∧Bk wc Y 186 nd.cells∧Bk wc O 280 [nv,tv,.bool nu,.bool da,.bool fu]∧Fl wc 0 tv Lt):=hide ⟨hlp,by rw [List.drop_zero,(uh HM).1,hs3],hX.bx,hX.oo.bk,hX.oo.ot⟩
   subst hnv
   subst htv
   have hLnl:Ln.length≤9223372036854775807:=by omega
   have hLtl:Lt.length≤9223372036854775807:=by omega
   clear hX hlp htLn htLt hs2 hs3 hcut hnv1 hnv2 htv1 htv2
   go_wp2_with fail
   go_loopg [74] Ln.length (fun gn iv wx=>∃ (j:Nat) (KV':List Value) (K':List (List En)) (s':Sr),j + gn = Ln.length∧iv = .int .i64 j∧Hid (Lp w wx S c (.pointer (some ⟨Q,0,none⟩)) hv kv (.slice (some ⟨wB,0,none⟩) K.length wC) KV WV K [] KV' K' s' (.slice na Ln.length nc) Ln j (Y :: O :: flF (.slice ta Lt.length tc) Lt)∧((Ln.drop j).map (·.f)).foldl (fun s g=>arS c fuel n nd.nx g s) s' = s3∧Bk wx Y 186 nd.cells∧Bk wx O 280 [.slice na Ln.length nc,.slice ta Lt.length tc,.bool nu,.bool da,.bool fu]∧Fl wx 0 (.slice ta Lt.length tc) Lt))
   case atStart=>exact ⟨0,KV,K,s2,by omega,rfl,HI0⟩
   case round =>
    clear HI0 oc
    obtain ⟨j,KV',K',s',hjn,rfl,hI⟩:=hrel
    obtain ⟨G1,hG1⟩:∃ G1,G1 = gk:=⟨_,rfl⟩
    by_cases hlt:j < Ln.length
    ·have hd2:decide ((j:Int) < (Ln.length:Int)) = true:=by simp;omega
     obtain ⟨h1,h2,h3,h4,h5⟩:=uh hI
     obtain ⟨g2,cap2,hgv2,hcell⟩:=h1.pn.pe.cell hlt
     simp only [Value.slice.injEq,true_and] at hgv2
     obtain ⟨rfl,rfl⟩:=hgv2
     obtain ⟨n1,-,-,-,n5⟩:=h1.pn.pe.next hlt
     have hty:=h1.pn.td _ (List.getElem_mem hlt)
     have hfd:∀ k∈Ln[j].bs,k ∉ shF S hv kv (.slice (some ⟨wB,0,none⟩) K.length wC) KV' WV∧k ∉ drF K':=fun k hk=>h1.pn.fd k (n5 k hk)
     have hdr:Ln.drop j = Ln[j] :: Ln.drop (j + 1):=List.drop_eq_getElem_cons hlt
     rw [hdr,List.map_cons,List.foldl_cons] at h2
     have hokj:(arS c fuel n nd.nx Ln[j].f s').ok = true:=arF_mono _ (by rw [h2];exact arF_mono _ (uh HOK))
     have hne:onx≠[]:=fun e=>by
      have h9:=congrArg List.length (uh HM).1
      rw [e,List.length_map,List.length_nil] at h9
      omega
     have hnn:=(uh HNX).1 hne
     have hkl:=h1.kl
     have y4:=h3.cell 4 rfl
     have hNX:∀ w' ,LayP wr S c (.pointer (some ⟨Q,0,none⟩)) hv kv (.slice (some ⟨wB,0,none⟩) K.length wC) KV' WV K' Ln[j].bs (arS c fuel n nd.nx Ln[j].f s') w'→∃ KV2 K2,Lp w w' S c (.pointer (some ⟨Q,0,none⟩)) hv kv (.slice (some ⟨wB,0,none⟩) K.length wC) KV WV K [] KV2 K2 (arS c fuel n nd.nx Ln[j].f s') (.slice (some ⟨g2,0,none⟩) Ln.length nc) Ln (j + 1) (Y :: O :: flF (.slice ta Lt.length tc) Lt)∧Bk w' Y 186 nd.cells∧Bk w' O 280 [.slice (some ⟨g2,0,none⟩) Ln.length nc,.slice ta Lt.length tc,.bool nu,.bool da,.bool fu]∧Fl w' 0 (.slice ta Lt.length tc) Lt:=fun w' hP=>by
      obtain ⟨KV2,K2,q1,q2⟩:=h1.next hlt hP
      exact ⟨KV2,K2,q1,h3.of_eq (q2 Y (by simp)),h4.of_eq (q2 O (by simp)),h5.of_eq (fun k hk=>q2 k (List.mem_cons_of_mem _ (List.mem_cons_of_mem _ hk)))⟩
     obtain ⟨y,hy⟩:∃ y,y = Ln[j]:=⟨_,rfl⟩
     rw [← hy] at hcell n1 hty hfd h2 hokj hNX
     have hyp:y.p = .pointer (some ⟨y.A,0,none⟩):=rfl
     rw [hyp] at hcell
     have HAR:=hide (arrive_sh h1.sh n1 hty hfd (a:=n) (n:=nd.nx) (by omega) (by omega) (by omega) hokj)
     have HNN:=hide (And.intro hNX h2)
     have k1:(0:Int)≤(j:Int):=by omega
     have k2:(j:Int) < (Ln.length:Int):=by omega
     clear h1 h2 h3 h4 h5 n1 n5 hty hfd hdr hokj hne hnn hkl hNX hy hyp hI
     go_wp2_with fail
     refine (uh HAR).mono ?_
     rintro e w6 ⟨rfl,hP⟩
     obtain ⟨KV2,K2,q1,q2,q3,q4⟩:=(uh HNN).1 w6 hP
     have HN:=hide (And.intro q1 (And.intro (uh HNN).2 (And.intro q2 (And.intro q3 q4))))
     clear hP q1 q2 q3 q4 HAR HNN y4 hcell
     go_wp2_with fail
     go_roundg (G1 - 1)
     case rel=>exact ⟨j + 1,KV2,K2,_,by omega,by go_num,HN⟩
     case measure=>omega
    ·have hd2:decide ((j:Int) < (Ln.length:Int)) = false:=by simp;omega
     obtain ⟨h1,h2,h3,h4,h5⟩:=uh hI
     rw [List.drop_eq_nil_of_le (by omega)] at h2
     have hs3:s' = s3:=h2
     subst hs3
     have o1:=h4.cell 1 rfl
     have HJ0:Hid (Lp w wr S c (.pointer (some ⟨Q,0,none⟩)) hv kv (.slice (some ⟨wB,0,none⟩) K.length wC) KV WV K [] KV' K' s' (.slice ta Lt.length tc) Lt 0 [Y]∧((Lt.drop 0).map (·.f)).foldl (fun s g=>arS c fuel n nd.ot g s) s' = oot.foldl (fun s g=>arS c fuel n nd.ot g s) s'∧Bk wr Y 186 nd.cells):=hide ⟨h1.turn h5 (uh HST).2.2 (uh HST).1 (uh HST).2.1,by rw [List.drop_zero,(uh HM).2],h3⟩
     clear h1 h2 h3 h4 h5 hI
     go_wp2_with fail
     go_loopg [90] Lt.length (fun gn iv wx=>∃ (j:Nat) (KV2:List Value) (K2:List (List En)) (s2:Sr),j + gn = Lt.length∧iv = .int .i64 j∧Hid (Lp w wx S c (.pointer (some ⟨Q,0,none⟩)) hv kv (.slice (some ⟨wB,0,none⟩) K.length wC) KV WV K [] KV2 K2 s2 (.slice ta Lt.length tc) Lt j [Y]∧((Lt.drop j).map (·.f)).foldl (fun s g=>arS c fuel n nd.ot g s) s2 = oot.foldl (fun s g=>arS c fuel n nd.ot g s) s'∧Bk wx Y 186 nd.cells))
     case atStart=>exact ⟨0,KV',K',s',by omega,rfl,HJ0⟩
     case round =>
      clear HJ0 o1
      obtain ⟨i,KV2,K2,sb,hjn2,rfl,hI⟩:=hrel
      obtain ⟨G2,hG2⟩:∃ G2,G2 = gk:=⟨_,rfl⟩
      by_cases hlt2:i < Lt.length
      ·have hd3:decide ((i:Int) < (Lt.length:Int)) = true:=by simp;omega
       obtain ⟨h1,h2,h3⟩:=uh hI
       obtain ⟨g2,cap2,hgv2,hcell⟩:=h1.pn.pe.cell hlt2
       simp only [Value.slice.injEq,true_and] at hgv2
       obtain ⟨rfl,rfl⟩:=hgv2
       obtain ⟨n1,-,-,-,n5⟩:=h1.pn.pe.next hlt2
       have hty:=h1.pn.td _ (List.getElem_mem hlt2)
       have hfd:∀ k∈Lt[i].bs,k ∉ shF S hv kv (.slice (some ⟨wB,0,none⟩) K.length wC) KV2 WV∧k ∉ drF K2:=fun k hk=>h1.pn.fd k (n5 k hk)
       have hdr:Lt.drop i = Lt[i] :: Lt.drop (i + 1):=List.drop_eq_getElem_cons hlt2
       rw [hdr,List.map_cons,List.foldl_cons] at h2
       have hokj:(arS c fuel n nd.ot Lt[i].f sb).ok = true:=arF_mono _ (by rw [h2];exact uh HOK)
       have hne:oot≠[]:=fun e=>by
        have h9:=congrArg List.length (uh HM).2
        rw [e,List.length_map,List.length_nil] at h9
        omega
       have hnn:=(uh HNX).2 hne
       have hkl:=h1.kl
       have y5:=h3.cell 5 rfl
       have hNX:∀ w' ,LayP wr S c (.pointer (some ⟨Q,0,none⟩)) hv kv (.slice (some ⟨wB,0,none⟩) K.length wC) KV2 WV K2 Lt[i].bs (arS c fuel n nd.ot Lt[i].f sb) w'→∃ KV3 K3,Lp w w' S c (.pointer (some ⟨Q,0,none⟩)) hv kv (.slice (some ⟨wB,0,none⟩) K.length wC) KV WV K [] KV3 K3 (arS c fuel n nd.ot Lt[i].f sb) (.slice (some ⟨g2,0,none⟩) Lt.length tc) Lt (i + 1) [Y]∧Bk w' Y 186 nd.cells:=fun w' hP=>by
        obtain ⟨KV3,K3,q1,q2⟩:=h1.next hlt2 hP
        exact ⟨KV3,K3,q1,h3.of_eq (q2 Y (by simp))⟩
       obtain ⟨y,hy⟩:∃ y,y = Lt[i]:=⟨_,rfl⟩
       rw [← hy] at hcell n1 hty hfd h2 hokj hNX
       have hyp:y.p = .pointer (some ⟨y.A,0,none⟩):=rfl
       rw [hyp] at hcell
       have HAR:=hide (arrive_sh h1.sh n1 hty hfd (a:=n) (n:=nd.ot) (by omega) (by omega) (by omega) hokj)
       have HNN:=hide (And.intro hNX h2)
       have k1:(0:Int)≤(i:Int):=by omega
       have k2:(i:Int) < (Lt.length:Int):=by omega
       clear h1 h2 h3 n1 n5 hty hfd hdr hokj hne hnn hkl hNX hy hyp hI
       go_wp2_with fail
       refine (uh HAR).mono ?_
       rintro e w6 ⟨rfl,hP⟩
       obtain ⟨KV3,K3,q1,q2⟩:=(uh HNN).1 w6 hP
       have HN:=hide (And.intro q1 (And.intro (uh HNN).2 q2))
       clear hP q1 q2 HAR HNN y5 hcell
       go_wp2_with fail
       go_roundg (G2 - 1)
       case rel=>exact ⟨i + 1,KV3,K3,_,by omega,by go_num,HN⟩
       case measure=>omega
      ·have hd3:decide ((i:Int) < (Lt.length:Int)) = false:=by simp;omega
       have hP:POST wr:=by
        obtain ⟨h1,h2,h3⟩:=uh hI
        rw [List.drop_eq_nil_of_le (by omega)] at h2
        rw [uh HPOST,← h2]
        exact h1.end'
       have HP:=hide hP
       clear hP hI
       go_wp2_with fail
       go_end0
       exact ⟨rfl,uh HP⟩
end
theorem wrI_ok (b:Bool) (n k:Nat) (s:Sr):(wrI b n k s).ok = s.ok:=by unfold wrI;split <;> rfl
theorem stS_mono {c:Cd} {fuel n:Nat} {f:CF} {s:Sr} (h:(stS c fuel n f s).ok = true):s.ok = true:=by
 unfold stS at h
 simp only at h
 have h1:=arF_mono _ (arF_mono _ h)
 have h2:(wrI (efO (c.nds.getD n nd0) f).da n 4 (wrI (efO (c.nds.getD n nd0) f).nu n 3 (wrI (decide ((c.nds.getD n nd0).op = 0) && !decide (loL f = [])) n 2 s))).ok = true:=h1
 rw [wrI_ok,wrI_ok,wrI_ok] at h2
 exact h2
theorem viN_mono {c:Cd} {fuel n:Nat}:∀ (l:List CF) {s:Sr},(viN c fuel n l s).ok = true→s.ok = true
 | [],_,h=>h
 | f :: l,s,h=>by
  unfold viN at h
  split at h
  ·exact h
  ·exact stS_mono (viN_mono l h)
def En.dn (e:En):En:={ e with d:=true }
theorem En.dn_of {e:En} (h:e.d = true):e.dn = e:=by cases e;simp only at h;subst h;rfl
def enD (l:List En) (k:Nat):List En:=(l.take k).map En.dn ++ l.drop k
theorem enD_len (l:List En) (k:Nat):(enD l k).length = l.length:=by unfold enD;simp;omega
theorem enD_zero (l:List En):enD l 0 = l:=rfl
theorem enD_all {l:List En} {k:Nat} (h:l.length≤k):enD l k = l.map En.dn:=by unfold enD;rw [List.take_of_length_le h,List.drop_eq_nil_of_le h,List.append_nil]
theorem enD_get {l:List En} {k:Nat} (h:k < l.length):(enD l k)[k]? = some l[k]:=by
 unfold enD
 rw [List.getElem?_append_right (by simp;omega),List.getElem?_drop]
 simp [Nat.min_eq_left (Nat.le_of_lt h),h]
theorem enD_step {l:List En} {k:Nat} (h:k < l.length):enD l (k + 1) = (enD l k).set k l[k].dn:=by
 unfold enD
 have e:((l.take k).map En.dn).length = k:=by simp;omega
 rw [List.set_append_right _ _ (by omega),e,Nat.sub_self,List.take_succ_eq_append_getElem h,List.map_append,List.drop_eq_getElem_cons h,List.set_cons_zero]
 simp
theorem enD_same {l:List En} {k:Nat} (h:k < l.length) (hd:l[k].d = true):enD l (k + 1) = enD l k:=by
 rw [enD_step h,En.dn_of hd]
 apply List.ext_getElem?
 intro i
 rw [List.getElem?_set]
 split
 ·rename_i e
  subst e
  rw [if_pos (by rw [enD_len];exact h),enD_get h]
 ·rfl
theorem enD_mem {l:List En} {k:Nat} {e:En} (h:e∈enD l k):∃ e0∈l,e.bs = e0.bs∧(∀ w,e0.ok w→e.ok w):=by
 unfold enD at h
 rcases List.mem_append.1 h with h | h
 ·obtain ⟨e0,h0,rfl⟩:=List.mem_map.1 h
  exact ⟨e0,List.mem_of_mem_take h0,rfl,fun w h=>h⟩
 ·exact ⟨e,List.mem_of_mem_drop h,rfl,fun w h=>h⟩
theorem set_self {α:Type} {l:List α} {d:α} {n:Nat} (h:n < l.length):l.set n (l.getD n d) = l:=by
 apply List.ext_getElem?
 intro i
 rw [List.getElem?_set]
 split
 ·rename_i e
  subst e
  simp [h]
 ·rfl
section
variable {w W:World} {S:Nat} {c:Cd} {c0 hv kv wv:Value} {KV WV:List Value} {K:List (List En)} {s:Sr} {n:Nat} {l:List En}
theorem Sh.done {k g cap:Nat} (h:Sh w S c c0 hv kv wv KV WV (K.set n (enD l k)) { s with kn:=s.kn.set n ((enD l k).map En.m) }) (hn:n < K.length) (hk:k < l.length) (hg:KV.getD n vNil = .slice (some ⟨g,0,none⟩) l.length cap) :
  Sh (w.setCell ⟨g,k * 2 + 1,none⟩ (.bool true)) S c c0 hv kv wv KV WV (K.set n (enD l (k + 1))) { s with kn:=s.kn.set n ((enD l (k + 1)).map En.m) }∧g∈shF S hv kv wv KV WV:=by
 have hKs:(K.set n (enD l k)).length = K.length:=List.length_set
 have hKV:=h.kvl
 rw [hKs] at hKV
 have hr4:(olS S hv kv wv KV WV)[4 + n]? = some (some g):=by rw [ol_k (by omega),hg];rfl
 have hgs:g∈shF S hv kv wv KV WV:=mem_sh hr4
 have hrow:=h.ke n (by rw [hKs];exact hn)
 have e2:(K.set n (enD l k)).getD n [] = enD l k:=by simp [hn]
 rw [e2,hg,enD_len] at hrow
 have hst:=(hrow.stored (k * 2 + 1) (.bool true)).1
 have hcell:(enL (enD l k)).set (k * 2 + 1) (.bool true) = enL (enD l (k + 1)):=by
  have h1:=enL_set (L:=enD l k) (i:=k) (by rw [enD_len];exact hk) l[k].dn
  rw [← enD_step hk] at h1
  rw [← h1]
  congr 1
  symm
  apply List.ext_getElem?
  intro i
  rw [List.getElem?_set]
  split
  ·rename_i e
   subst e
   have h3:=(enL_get (L:=enD l k) (i:=k) (by rw [enD_len];exact hk)).1
   have h4:=enD_get hk
   rw [List.getElem?_eq_getElem (by rw [enD_len];exact hk)] at h4
   injection h4 with h4
   rw [h4] at h3
   rw [if_pos (by rw [enL_len,enD_len];omega),h3]
   rfl
  ·rfl
 rw [hcell] at hst
 have hput:=h.put (n:=n) (by rw [hKs];exact hn) (w':=w.setCell ⟨g,k * 2 + 1,none⟩ (.bool true)) (v':=.slice (some ⟨g,0,none⟩) l.length cap) (l':=enD l (k + 1)) (fun i j _ h4 hi=>Below.heap_setCell _ _ _ _ (fun e=>h4 (by
   rw [show j = g from e] at hi
   exact h.nd i _ g hi hr4))) (by
   rw [hKs,← hg,set_self (by omega)]
   refine own_setO (hKs ▸ h.kr) (p:=⟨g,k * 2 + 1,none⟩) (fun e=>?_) _
   have:=h.nd 2 (4 + n) g (congrArg some e) hr4
   omega) (by rw [enD_len];exact hst) (fun j hj=>Or.inl (by rw [hg];exact hj)) (fun j hj=>Below.heap_setCell _ _ _ _ (fun e=>h.da j hj (by rw [show j = g from e];exact hgs))) (fun e he=>by
   have hset:KV.set n (.slice (some ⟨g,0,none⟩) l.length cap) = KV:=by rw [← hg,set_self (by omega)]
   obtain ⟨e0,h0,hb0,ho0⟩:=enD_mem he
   obtain ⟨i,hi,hie⟩:=List.mem_iff_getElem.1 h0
   have hin:∃ e1∈enD l k,e1.bs = e0.bs∧(∀ w',e1.ok w'→e0.ok w'):=by
    by_cases hik:i < k
    ·refine ⟨e0.dn,List.mem_append_left _ (List.mem_map_of_mem (List.mem_iff_getElem?.2 ⟨i,?_⟩)),rfl,fun w' h=>h⟩
     rw [List.getElem?_take,if_pos hik,List.getElem?_eq_getElem hi,hie]
    ·refine ⟨e0,List.mem_append_right _ (List.mem_iff_getElem?.2 ⟨i - k,?_⟩),rfl,fun w' h=>h⟩
     rw [List.getElem?_drop,show k + (i - k) = i by omega,List.getElem?_eq_getElem hi,hie]
   obtain ⟨e1,h1,hb1,ho1⟩:=hin
   have hl:enD l k∈K.set n (enD l k):=List.mem_iff_getElem?.2 ⟨n,by rw [List.getElem?_set_self hn]⟩
   have hdk:∀ j∈e.bs,j∈drF (K.set n (enD l k)):=fun j hj=>mem_drF.2 ⟨_,hl,e1,h1,by rw [hb1,← hb0];exact hj⟩
   refine ⟨(ho0 w (ho1 w (h.dr _ hl e1 h1))).of_eq (fun j hj=>Below.heap_setCell _ _ _ _ (fun e'=>h.da j (hdk j hj) (by rw [show j = g from e'];exact hgs))),fun j hj hm=>?_⟩
   rw [hset] at hm
   exact h.da j (hdk j hj) hm)
 have hset:KV.set n (.slice (some ⟨g,0,none⟩) l.length cap) = KV:=by rw [← hg,set_self (by omega)]
 rw [hset,List.set_set] at hput
 refine ⟨hput.as (s':={ s with kn:=s.kn.set n ((enD l (k + 1)).map En.m) }) ?_ rfl rfl rfl rfl,hgs⟩
 show s.kn.set n _ = (s.kn.set n _).set n _
 rw [List.set_set]
theorem drF_done (hl:l = K.getD n []) (hn:n < K.length) (k:Nat):∀ j,j∈drF (K.set n (enD l k))↔j∈drF K:=by
 have hlK:l∈K:=by rw [hl,getD_at hn];exact List.getElem_mem hn
 intro j
 constructor
 ·intro hj
  obtain ⟨l2,h2,e,he,hj⟩:=mem_drF.1 hj
  rcases List.mem_or_eq_of_mem_set h2 with p | p
  ·exact mem_drF.2 ⟨l2,p,e,he,hj⟩
  ·subst p
   obtain ⟨e0,h0,hb0,-⟩:=enD_mem he
   exact mem_drF.2 ⟨l,hlK,e0,h0,by rw [← hb0];exact hj⟩
 ·intro hj
  obtain ⟨l2,h2,e,he,hj⟩:=mem_drF.1 hj
  obtain ⟨i,hi,hie⟩:=List.mem_iff_getElem.1 h2
  by_cases hin:i = n
  ·subst hin
   have hl2:l2 = l:=by rw [hl,getD_at hn];exact hie.symm
   subst hl2
   obtain ⟨q,hq,hqe⟩:=List.mem_iff_getElem.1 he
   have hm:enD l2 k∈K.set i (enD l2 k):=List.mem_iff_getElem?.2 ⟨i,by rw [List.getElem?_set_self hi]⟩
   by_cases hqk:q < k
   ·refine mem_drF.2 ⟨_,hm,e.dn,List.mem_append_left _ (List.mem_map_of_mem (List.mem_iff_getElem?.2 ⟨q,?_⟩)),hj⟩
    rw [List.getElem?_take,if_pos hqk,List.getElem?_eq_getElem hq,hqe]
   ·refine mem_drF.2 ⟨_,hm,e,List.mem_append_right _ (List.mem_iff_getElem?.2 ⟨q - k,?_⟩),hj⟩
    rw [List.getElem?_drop,show k + (q - k) = q by omega,List.getElem?_eq_getElem hq,hqe]
  ·exact mem_drF.2 ⟨l2,List.mem_iff_getElem?.2 ⟨i,by rw [List.getElem?_set_ne (fun e=>hin e.symm),List.getElem?_eq_getElem hi,hie]⟩,e,he,hj⟩
end
section
variable {w W:World} {S:Nat} {c:Cd} {c0 hv kv wv:Value} {KV WV:List Value} {K:List (List En)} {s:Sr} {n:Nat} {l:List En}
def frN' (l:List En) (k:Nat):List En:=(l.take k).filter (fun e=>!e.d)
theorem frN'_step {l:List En} {k:Nat} (h:k < l.length):frN' l (k + 1) = frN' l k ++ if l[k].d = true then [] else [l[k]]:=by
 unfold frN'
 rw [filt_en h]
 congr 1
 cases l[k].d <;> rfl
theorem frN'_le (l:List En) (k:Nat):(frN' l k).length≤l.length:=Nat.le_trans (List.length_filter_le _ _) (by rw [List.length_take];omega)
theorem Sh.lE (h:Sh w S c c0 hv kv wv KV WV K s) {k g cap n:Nat} {l:List En} (hn:n < K.length) (hl:l = K.getD n []) (hg:KV.getD n vNil = .slice (some ⟨g,0,none⟩) l.length cap) (hk:k < l.length):w.cell? ⟨g,k * 2,none⟩ = some (.pointer (some ⟨l[k].D,0,none⟩))∧w.cell? ⟨g,k * 2 + 1,none⟩ = some (.bool l[k].d)∧w.frozen? ⟨g,k * 2 + 1,none⟩ = false:=by
 have h1:=h.ke n hn
 rw [hg,← hl] at h1
 obtain ⟨h2,h3⟩:=en_cells h1 rfl hk
 exact ⟨h2,h3,h1.frozenAt _⟩
set_option maxRecDepth 100000 in
set_option maxHeartbeats 16000000 in
theorem visit_sh {Q:Nat} {ws:List ByteArray} {ps:PS} {al:List Atm} {vv pv nvv:Value} (h:Sh w S c (.pointer (some ⟨Q,0,none⟩)) hv kv wv KV WV K s) (hC:Cp w Q ws ps al vv pv nvv) (hCd:∀ k∈cpB Q vv pv nvv,k ∉ shF S hv kv wv KV WV) (hcn:c.nds = ps.nodes) (hN:NdO c.nds) (hn:n < K.length) (hKl:K.length≤100000) {fuel:Nat} (hok:(viS c fuel n s).ok = true) (hbg:(knA s n).length≤big + 1) :
  Calls Tryz.prog 142 #[.pointer (some ⟨S,0,none⟩),.int .i64 n] w fun e w'=>e = .returned (.tuple #[])∧LayP w S c (.pointer (some ⟨Q,0,none⟩)) hv kv wv KV WV K [] (viS c fuel n s) w':=by
 obtain ⟨i0,hi0,hz0,hz1,hz2⟩:=info_parts Tryz.infoPF
 obtain ⟨kB,kC,hkv,-⟩:=h.kc hn
 subst hkv
 obtain ⟨l,hl⟩:∃ l,l = K.getD n []:=⟨_,rfl⟩
 have hkn:=h.knE n
 rw [← hl] at hkn
 rw [hkn,List.length_map] at hbg
 have hlb:l.length≤1000000000001:=by unfold big at hbg;omega
 obtain ⟨va,vc,hvv,hvn,hvm⟩:=own_slc (h.ke n hn)
 rw [← hl] at hvv hvn
 have hlK:l∈K:=by rw [hl,getD_at hn];exact List.getElem_mem hn
 obtain ⟨s1,hs1⟩:∃ s1:Sr,s1 = { s with kn:=s.kn.set n ((enD l l.length).map En.m) }:=⟨_,rfl⟩
 have hvi:viS c fuel n s = viN c fuel n ((l.filter (fun e=>!e.d)).map (fun e=>e.x.f)) s1:=by
  unfold viS
  rw [hkn,hs1,enD_all (Nat.le_refl _)]
  have e1:frE (l.map En.m) = (l.filter (fun e=>!e.d)).map (fun e=>e.x.f):=by
   unfold frE
   rw [List.filter_map,List.map_map]
   rfl
  have e2:(l.map En.m).map (fun e=>(⟨e.f,true⟩:Ent)) = (l.map En.dn).map En.m:=by
   rw [List.map_map,List.map_map]
   rfl
  rw [e1,e2]
 rw [hvi] at hok ⊢
 obtain ⟨R,hR⟩:∃ R,R = viN c fuel n ((l.filter (fun e=>!e.d)).map (fun e=>e.x.f)) s1:=⟨_,rfl⟩
 rw [← hR] at hok ⊢
 have H0:Hid (Sh w S c (.pointer (some ⟨Q,0,none⟩)) hv (.slice (some ⟨kB,0,none⟩) K.length kC) wv KV WV (K.set n (enD l 0)) { s with kn:=s.kn.set n ((enD l 0).map En.m) }):=hide (by
  rw [enD_zero]
  have e1:K.set n l = K:=by rw [hl,set_self hn]
  have e2:s.kn.set n (l.map En.m) = s.kn:=by
   rw [← hkn]
   exact set_self (by rw [h.km,List.length_map];exact hn)
  rw [e1,e2]
  exact h)
 have hCl:=hC.lt
 have HA:=hide (And.intro h (And.intro hC (And.intro hCd (And.intro hcn hN))))
 have HL:=hide (And.intro hl hlK)
 have HVV:=hide hvv
 have HR:=hide hR
 have HS1:=hide hs1
 have HOK:=hide hok
 obtain ⟨POST,hPOST⟩:∃ POST:World→Prop,POST = fun w'=>LayP w S c (.pointer (some ⟨Q,0,none⟩)) hv (.slice (some ⟨kB,0,none⟩) K.length kC) wv KV WV K [] R w':=⟨_,rfl⟩
 have HPOST:=hide hPOST
 rw [show (fun (e:Ending) (w':World)=>e = .returned (.tuple #[])∧LayP w S c (.pointer (some ⟨Q,0,none⟩)) hv (.slice (some ⟨kB,0,none⟩) K.length kC) wv KV WV K [] R w') = (fun e w'=>e = .returned (.tuple #[])∧POST w') by rw [hPOST]]
 have i1:(0:Int)≤(n:Int):=by omega
 have i2:(n:Int) < (K.length:Int):=by omega
 have HI0:Hid ((w.alloc (.cells #[] 126)).ownsRow w.heap.size 126 1 (.slice (some ⟨w.heap.size,0,none⟩) 0 0) (frN' l 0).length ((frN' l 0).map (fun e=>e.x.p))∧Gon w (w.alloc (.cells #[] 126)) (shF S hv (.slice (some ⟨kB,0,none⟩) K.length kC) wv KV WV) (shF S hv (.slice (some ⟨kB,0,none⟩) K.length kC) wv KV WV) (drF K) (drF K) []∧Sh (w.alloc (.cells #[] 126)) S c (.pointer (some ⟨Q,0,none⟩)) hv (.slice (some ⟨kB,0,none⟩) K.length kC) wv KV WV (K.set n (enD l 0)) { s with kn:=s.kn.set n ((enD l 0).map En.m) }):=hide ⟨World.ownsRow_lit (base:=w.heap.size) (e:=126) (size:=1) w #[] 0 (Nat.le_refl _) (by simp [maxLen]) rfl,Gon.below (below_boxQ w _),(uh H0).below (below_boxQ w _)⟩
 clear h hC hCd hcn hN hl hlK hvv hvi hok hR hs1 hkn hbg hPOST H0 hCl
 go_enter Tryz.func142,Tryz.ntmps142
 go_wp2_with fail
 go_loopg [4,5] l.length (fun gn fv iv wx=>∃ (k:Nat),k + gn = l.length∧iv = .int .i64 k∧Hid (wx.ownsRow w.heap.size 126 1 fv (frN' l k).length ((frN' l k).map (fun e=>e.x.p))∧Gon w wx (shF S hv (.slice (some ⟨kB,0,none⟩) K.length kC) wv KV WV) (shF S hv (.slice (some ⟨kB,0,none⟩) K.length kC) wv KV WV) (drF K) (drF K) []∧Sh wx S c (.pointer (some ⟨Q,0,none⟩)) hv (.slice (some ⟨kB,0,none⟩) K.length kC) wv KV WV (K.set n (enD l k)) { s with kn:=s.kn.set n ((enD l k).map En.m) }))
 case atStart=>exact ⟨0,by omega,rfl,HI0⟩
 case round =>
  clear HI0
  obtain ⟨k,hkn,rfl,hI⟩:=hrel
  obtain ⟨G1,hG1⟩:∃ G1,G1 = gk:=⟨_,rfl⟩
  obtain ⟨h1,h2,h3⟩:=uh hI
  obtain ⟨fa,fc,hfv,-,-⟩:=own_slc h1
  subst hfv
  have hKs:(K.set n (enD l k)).length = K.length:=List.length_set
  have c3:=h3.bs.cell 3 rfl
  obtain ⟨kB',kC',hkv',ckc⟩:=h3.kc (n:=n) (by rw [hKs];exact hn)
  simp only [Value.slice.injEq,Option.some.injEq,Addr.mk.injEq,and_true] at hkv'
  obtain ⟨rfl,-,rfl⟩:=hkv'
  rw [uh HVV] at ckc
  by_cases hlt:k < l.length
  ·have hd:decide ((k:Int) < (l.length:Int)) = true:=by simp;omega
   obtain ⟨g,cap,hgv⟩:∃ g cap,KV.getD n vNil = .slice (some ⟨g,0,none⟩) l.length cap:=by
    have h4:=h3.ke n (by rw [hKs];exact hn)
    have e2:(K.set n (enD l k)).getD n [] = enD l k:=by simp [hn]
    rw [e2,enD_len] at h4
    obtain ⟨g,cap,h5,-,-,-⟩:=own_pos h4 (by omega)
    exact ⟨g,cap,h5⟩
   have hgv2:=hgv
   rw [uh HVV] at hgv2
   simp only [Value.slice.injEq,true_and] at hgv2
   obtain ⟨rfl,rfl⟩:=hgv2
   have e2:(K.set n (enD l k)).getD n [] = enD l k:=by simp [hn]
   obtain ⟨x0,x1,xz⟩:=h3.lE (k:=k) (l:=enD l k) (by rw [hKs];exact hn) e2.symm (by rw [enD_len];exact hgv) (by rw [enD_len];exact hlt)
   have hek:(enD l k)[k]'(by rw [enD_len];exact hlt) = l[k]:=by
    have h6:=enD_get hlt
    rw [List.getElem?_eq_getElem (by rw [enD_len];exact hlt)] at h6
    injection h6
   rw [hek] at x0 x1
   have hst:=frN'_step hlt
   have k1:(0:Int)≤(k:Int):=by omega
   have k2:(k:Int) < (l.length:Int):=by omega
   cases hdk:l[k].d
   ·rw [hdk] at x1 hst
    rw [if_neg (by decide)] at hst
    obtain ⟨h4,hgs⟩:=h3.done hn hlt hgv
    obtain ⟨W4,hW4⟩:∃ W4,W4 = wr.setCell ⟨g,k * 2 + 1,none⟩ (.bool true):=⟨_,rfl⟩
    rw [← hW4] at h4
    have hsW:Stp [g] wr [g] W4:=by rw [hW4];exact (Stp.refl [g] wr).setCell (p:=⟨g,k * 2 + 1,none⟩) (Or.inl (by simp)) (.bool true)
    have hKs2:(K.set n (enD l (k + 1))).length = K.length:=List.length_set
    have d3:=h4.bs.cell 3 rfl
    obtain ⟨kB',kC',hkv',dkc⟩:=h4.kc (n:=n) (by rw [hKs2];exact hn)
    simp only [Value.slice.injEq,Option.some.injEq,Addr.mk.injEq,and_true] at hkv'
    obtain ⟨rfl,-,rfl⟩:=hkv'
    rw [hgv] at dkc
    have e3:(K.set n (enD l (k + 1))).getD n [] = enD l (k + 1):=by simp [hn]
    obtain ⟨z0,z1,-⟩:=h4.lE (k:=k) (l:=enD l (k + 1)) (by rw [hKs2];exact hn) e3.symm (by rw [enD_len];exact hgv) (by rw [enD_len];exact hlt)
    have hdD:((enD l (k + 1))[k]'(by rw [enD_len];exact hlt)).D = l[k].D:=by
     have h6:(enD l (k + 1))[k]? = some l[k].dn:=by rw [enD_step hlt,List.getElem?_set_self (by rw [enD_len];exact hlt)]
     rw [List.getElem?_eq_getElem (by rw [enD_len];exact hlt)] at h6
     injection h6 with h6
     rw [h6]
     rfl
    rw [hdD] at z0
    have hlm:enD l (k + 1)∈K.set n (enD l (k + 1)):=List.mem_iff_getElem?.2 ⟨n,by rw [List.getElem?_set_self hn]⟩
    have hem:l[k].dn∈enD l (k + 1):=List.mem_iff_getElem?.2 ⟨k,by rw [enD_step hlt,List.getElem?_set_self (by rw [enD_len];exact hlt)]⟩
    have hfo:=(h4.dr _ hlm _ hem).1.fo
    have hfo':W4.cell? ⟨l[k].D,0,none⟩ = some (.pointer (some ⟨l[k].x.A,0,none⟩)):=hfo
    have hrl:=h1.lt
    have hgl:=h3.lt g hgs
    have hgw:=(uh HA).1.lt g hgs
    have HR4:Hid (W4.ownsRow w.heap.size 126 1 (.slice fa (frN' l k).length fc) (frN' l k).length ((frN' l k).map (fun e=>e.x.p))):=hide (ownsRow_of_eq h1 (fun q hq=>hsW.block q (hrl q hq).2 (fun e=>by
     rw [List.mem_singleton] at e
     have:=(hrl q hq).1
     omega)))
    have hg4:=h2.trans (Gon.stp (X:=[]) hsW (fun q hq=>Or.inl (by rw [List.mem_singleton] at hq;rw [hq];exact hgs))) (fun q hq=>by simp at hq)
    have hfl:=frN'_le l k
    have hsz4:=hg4.st.size
    obtain ⟨Dk,hDk⟩:∃ Dk,Dk = l[k].D:=⟨_,rfl⟩
    obtain ⟨Ak,hAk⟩:∃ Ak,Ak = l[k].x.A:=⟨_,rfl⟩
    rw [← hDk] at x0 z0 hfo'
    rw [← hAk] at hfo'
    have H4:=hide (And.intro h4 (And.intro hg4 (And.intro hst hAk)))
    clear h1 h2 h3 hgs hsW hek e2 e3 hKs2 hdD hlm hem hfo hrl hgl hgw h4 hg4 hdk hDk hAk hst hI hKs hgv
    go_upto_region 6 with fail
    rw [← hW4]
    clear hW4 c3 ckc x0 x1 xz z1
    go_wp2_with (at_builtin;refine wpList_app2 _ rfl (.tmp 42) (.tmp 57) 125 rfl w.heap.size 126 i0 _ 1 8 Tryz.underlying125 hi0 hz0 hz1 hz2 rfl (by decide) _ (frN' l k).length ((frN' l k).map (fun e=>e.x.p)) rfl ((uh HR4).alloc _) ⟨_,0,none⟩ 1 [.pointer (some ⟨Ak,0,none⟩)] rfl rfl (new_cells _ _ (by simp) [.pointer (some ⟨Ak,0,none⟩)] _) (by intro u hu;simp only [List.mem_singleton] at hu;subst hu;rfl) (by omega) (by omega) (by simp;omega) ?_)
    intro g7 cap7 w7 hown7 hgrow7 hblk7
    have hs7:=stp_grow hgrow7 (by simpa using hblk7)
    have hr4:=(uh HR4).lt
    have hnot:∀ q,q < w.heap.size→q ∉ (Value.slice fa (frN' l k).length fc).ownBlock.toList:=fun q hq e=>by
     have:=(hr4 q (by simpa using e)).1
     omega
    obtain ⟨h4,hg4,hst,hAk⟩:=uh H4
    have hKV:∀ q∈shF S hv (.slice (some ⟨kB,0,none⟩) K.length kC) wv KV WV,q < w.heap.size:=(uh HA).1.lt
    have hKD:∀ q∈drF (K.set n (enD l (k + 1))),q < w.heap.size:=fun q hq=>(uh HA).1.drlt q ((drF_done (uh HL).1 hn (k + 1) q).1 hq)
    have h7:=h4.stp hs7 (fun q hq=>hnot q (hKV q hq)) (fun q hq=>hnot q (hKD q hq))
    have hg7:Gon w w7 (shF S hv (.slice (some ⟨kB,0,none⟩) K.length kC) wv KV WV) (shF S hv (.slice (some ⟨kB,0,none⟩) K.length kC) wv KV WV) (drF K) (drF K) []:=hg4.trans (Gon.stp (X:=(Value.slice fa (frN' l k).length fc).ownBlock.toList) hs7 (fun q hq=>Or.inr hq)) (fun q hq=>Or.inr (hr4 q (by simpa using hq)).1)
    have hrow7:w7.ownsRow w.heap.size 126 1 (.slice (some ⟨g7,0,none⟩) ((frN' l k).length + 1) cap7) (frN' l (k + 1)).length ((frN' l (k + 1)).map (fun e=>e.x.p)):=by
     rw [hst,List.length_append,List.map_append]
     have e5:[l[k]].map (fun e=>e.x.p) = [Value.pointer (some ⟨Ak,0,none⟩)]:=by rw [hAk];rfl
     rw [e5]
     exact hown7
    have HN:=hide (And.intro hrow7 (And.intro hg7 h7))
    clear hown7 hgrow7 hblk7 hs7 hr4 hnot h4 hg4 hst hAk hKV hKD h7 hg7 hrow7 H4 HR4
    go_wp2_with fail
    go_roundg (G1 - 1)
    case rel=>exact ⟨k + 1,by omega,by go_num,HN⟩
    case measure=>omega
   ·have e4:=enD_same hlt hdk
    rw [hdk] at x1 hst
    rw [if_pos rfl,List.append_nil] at hst
    have HN:Hid (wr.ownsRow w.heap.size 126 1 (.slice fa (frN' l k).length fc) (frN' l (k + 1)).length ((frN' l (k + 1)).map (fun e=>e.x.p))∧Gon w wr (shF S hv (.slice (some ⟨kB,0,none⟩) K.length kC) wv KV WV) (shF S hv (.slice (some ⟨kB,0,none⟩) K.length kC) wv KV WV) (drF K) (drF K) []∧Sh wr S c (.pointer (some ⟨Q,0,none⟩)) hv (.slice (some ⟨kB,0,none⟩) K.length kC) wv KV WV (K.set n (enD l (k + 1))) { s with kn:=s.kn.set n ((enD l (k + 1)).map En.m) }):=hide (by rw [hst,e4];exact ⟨h1,h2,h3⟩)
    clear h1 h2 h3 hek e2 hKs hdk hst hI hgv e4
    go_wp2_with fail
    go_roundg (G1 - 1)
    case rel=>exact ⟨k + 1,by omega,by go_num,HN⟩
    case measure=>omega
  ·have hd:decide ((k:Int) < (l.length:Int)) = false:=by simp;omega
   have hkl:k = l.length:=by omega
   have hFR:frN' l k = l.filter (fun e=>!e.d):=by unfold frN';rw [List.take_of_length_le (by omega)]
   have hDN:enD l k = enD l l.length:=by rw [hkl]
   rw [hFR] at h1 ⊢
   rw [hDN] at h3
   rw [← uh HS1] at h3
   obtain ⟨FR,hFRe⟩:∃ FR,FR = l.filter (fun e=>!e.d):=⟨_,rfl⟩
   have hR:=uh HR
   rw [← hFRe] at h1 hR ⊢
   have hFl:FR.length≤l.length:=by rw [hFRe];exact List.length_filter_le _ _
   have hrb:∀ q,(Value.slice fa FR.length fc).ownBlock = some q→q ∉ (shF S hv (.slice (some ⟨kB,0,none⟩) K.length kC) wv KV WV):=fun q hq e=>by
    have h7:=(h1.lt q hq).1
    have h8:=(uh HA).1.lt q e
    omega
   have hg1:Gon w wr (shF S hv (.slice (some ⟨kB,0,none⟩) K.length kC) wv KV WV) (shF S hv (.slice (some ⟨kB,0,none⟩) K.length kC) wv KV WV) (drF K) (drF (K.set n (enD l l.length))) []:=⟨h2.st,fun q hq=>Or.inl ((drF_done (uh HL).1 hn l.length q).1 hq)⟩
   have HI0:=hide (And.intro h3 (And.intro hg1 (And.intro h1 (And.intro hrb hR))))
   have HFM:Hid (∀ e∈FR,e∈l):=hide (fun e he=>by rw [hFRe] at he;exact (List.mem_filter.1 he).1)
   clear h1 h2 h3 hI hFR hDN hFRe hR hrb hg1 hKs hkn hkl HR HS1
   go_wp2_with fail
   go_loopg [6] FR.length (fun gn iv wx=>∃ (j:Nat) (KV':List Value) (K':List (List En)) (s':Sr),j + gn = FR.length∧iv = .int .i64 j∧Hid (Sh wx S c (.pointer (some ⟨Q,0,none⟩)) hv (.slice (some ⟨kB,0,none⟩) K.length kC) wv KV' WV K' s'∧K'.length = K.length∧Gon w wx (shF S hv (.slice (some ⟨kB,0,none⟩) K.length kC) wv KV WV) (shF S hv (.slice (some ⟨kB,0,none⟩) K.length kC) wv KV' WV) (drF K) (drF K') []∧wx.ownsRow w.heap.size 126 1 (.slice fa FR.length fc) FR.length (FR.map (fun e=>e.x.p))∧(∀ q,(Value.slice fa FR.length fc).ownBlock = some q→q ∉ (shF S hv (.slice (some ⟨kB,0,none⟩) K.length kC) wv KV' WV))∧viN c fuel n ((FR.drop j).map (fun e=>e.x.f)) s' = R))
   case atStart=>exact ⟨0,KV,_,s1,by omega,rfl,hide ⟨(uh HI0).1,List.length_set,(uh HI0).2.1,(uh HI0).2.2.1,(uh HI0).2.2.2.1,by rw [List.drop_zero];exact (uh HI0).2.2.2.2.symm⟩⟩
   case round =>
    clear HI0
    obtain ⟨j,KV',K',s',hjn,rfl,hI⟩:=hrel
    obtain ⟨G2,hG2⟩:∃ G2,G2 = gk:=⟨_,rfl⟩
    obtain ⟨h1,h2,h3,h4,h5,h6⟩:=uh hI
    have c8:=h1.bs.cell 8 rfl
    have hEND:s' = R→Hid (POST wr):=fun e=>hide (by rw [uh HPOST,← e];exact ⟨KV',K',h1,h2,h3⟩)
    by_cases hlt:j < FR.length
    ·have hd2:decide ((j:Int) < (FR.length:Int)) = true:=by simp;omega
     have hdr:FR.drop j = FR[j] :: FR.drop (j + 1):=List.drop_eq_getElem_cons hlt
     rw [hdr,List.map_cons] at h6
     unfold viN at h6
     cases hfu:s'.fu
     ·rw [hfu] at c8 h6
      rw [if_neg (by decide)] at h6
      obtain ⟨g2,cap2,hgv2,-,-,-⟩:=own_pos h4 (by omega)
      simp only [Value.slice.injEq,true_and] at hgv2
      obtain ⟨rfl,rfl⟩:=hgv2
      have hcell:wr.cell? ⟨g2,j,none⟩ = some (.pointer (some ⟨FR[j].x.A,0,none⟩)):=by
       rw [h4.cellAt j (by omega),List.getElem?_map,List.getElem?_eq_getElem hlt]
       rfl
      have hel:=uh HFM _ (List.getElem_mem hlt)
      have heo:=(uh HA).1.dr l (uh HL).2 _ hel
      have hbK:∀ q∈FR[j].x.bs,q∈drF K:=fun q hq=>mem_drF.2 ⟨l,(uh HL).2,_,hel,List.mem_cons_of_mem _ hq⟩
      have hbn:∀ q,q < w.heap.size→q ∉ (shF S hv (.slice (some ⟨kB,0,none⟩) K.length kC) wv KV WV)→q ∉ (shF S hv (.slice (some ⟨kB,0,none⟩) K.length kC) wv KV' WV)∧wr.heap[q]? = w.heap[q]?:=fun q hq hn2=>⟨fun e=>by
       rcases h3.st.foot q e with p | p
       ·exact hn2 (by simpa using p)
       ·omega,h3.st.block q hq (by simpa using hn2)⟩
      have hbx:∀ q∈FR[j].x.bs,q ∉ (shF S hv (.slice (some ⟨kB,0,none⟩) K.length kC) wv KV' WV)∧wr.heap[q]? = w.heap[q]?:=fun q hq=>hbn q ((uh HA).1.drlt q (hbK q hq)) ((uh HA).1.da q (hbK q hq))
      have hFw:=heo.1.ff.of_eq (w':=wr) (fun q hq=>(hbx q hq).2)
      have hCp:=(uh HA).2.1.of_eq (w':=wr) (fun q hq=>(hbn q ((uh HA).2.1.lt q hq) ((uh HA).2.2.1 q hq)).2)
      have hokj:(stS c fuel n FR[j].x.f s').ok = true:=viN_mono _ (by rw [h6];exact uh HOK)
      have HSTP:=hide (step_sh h1 hCp (uh HA).2.2.2.1 (uh HA).2.2.2.2 hFw heo.2 (fun q hq=>(hbx q hq).1) (n:=n) (by omega) (by omega) hokj)
      have HI:=hide (And.intro h2 (And.intro h3 (And.intro h4 (And.intro h5 h6))))
      obtain ⟨Aj,hAj⟩:∃ Aj,Aj = FR[j].x.A:=⟨_,rfl⟩
      rw [← hAj] at hcell HSTP
      have k1:(0:Int)≤(j:Int):=by omega
      have k2:(j:Int) < (FR.length:Int):=by omega
      clear h1 h2 h3 h4 h5 h6 hel heo hbK hbn hbx hFw hCp hokj hAj hdr hI hEND hfu
      go_wp2_with fail
      refine (uh HSTP).mono ?_
      rintro e w5 ⟨rfl,KV2,K2,q1,q2,q3⟩
      obtain ⟨h2,h3,h4,h5,h6⟩:=uh HI
      have hr5:=ownsRow_of_eq h4 (fun q hq=>q3.st.block q (h4.lt q hq).2 (by simpa using h5 q hq))
      have hq5:∀ q,(Value.slice (some ⟨g2,0,none⟩) FR.length fc).ownBlock = some q→q ∉ shF S hv (.slice (some ⟨kB,0,none⟩) K.length kC) wv KV2 WV:=fun q hq e=>by
       rcases q3.st.foot q e with p | p
       ·exact h5 q hq (by simpa using p)
       ·have:=(h4.lt q hq).2;omega
      have HN:=hide (And.intro q1 (And.intro (q2.trans h2) (And.intro (h3.trans q3 (fun q hq=>by simp at hq)) (And.intro hr5 (And.intro hq5 h6)))))
      clear q1 q2 q3 h2 h3 h4 h5 h6 hr5 hq5 HSTP HI c8 hcell
      go_wp2_with fail
      go_roundg (G2 - 1)
      case rel=>exact ⟨j + 1,KV2,K2,_,by omega,by go_num,HN⟩
      case measure=>omega
     ·rw [hfu] at c8 h6
      rw [if_pos rfl] at h6
      have HP:=hEND h6
      clear h1 h2 h3 h4 h5 h6 hdr hI hEND hfu
      go_wp2_with fail
      go_end0
      exact ⟨rfl,uh HP⟩
    ·have hd2:decide ((j:Int) < (FR.length:Int)) = false:=by simp;omega
     rw [List.drop_eq_nil_of_le (by omega)] at h6
     have HP:=hEND h6
     clear h1 h2 h3 h4 h5 h6 hI hEND
     go_wp2_with fail
     go_end0
     exact ⟨rfl,uh HP⟩
end
theorem peS_some {s:Sr} {n:Nat} (hn:n < s.kn.length) (h1:(s.kn[n]).any (fun e=>!e.d) = true) (h2:∀ m,m < n→∀ l,s.kn[m]? = some l→l.any (fun e=>!e.d) = false):peS s = some n:=by
 unfold peS
 rw [List.findIdx?_eq_some_iff_getElem]
 refine ⟨hn,h1,fun j hj=>?_⟩
 rw [h2 j hj _ (List.getElem?_eq_getElem (by omega))]
 decide
theorem peS_none {s:Sr} (h2:∀ (m:Nat) (l:List Ent),s.kn[m]? = some l→l.any (fun e=>!e.d) = false):peS s = none:=by
 unfold peS
 rw [List.findIdx?_eq_none_iff]
 intro l hl
 obtain ⟨m,hm⟩:=List.mem_iff_getElem?.1 hl
 exact h2 m l hm
section
variable {w:World} {S:Nat} {c:Cd} {c0 hv kv wv:Value} {KV WV:List Value} {K:List (List En)} {s:Sr}
theorem Sh.kn_at (h:Sh w S c c0 hv kv wv KV WV K s) {m:Nat} {l:List Ent} (hl:s.kn[m]? = some l):∃ L,K[m]? = some L∧l = L.map En.m:=by
 rw [h.km,List.getElem?_map] at hl
 cases hk:K[m]? with
 | none=>rw [hk] at hl;simp at hl
 | some L=>rw [hk] at hl;exact ⟨L,rfl,by simpa [eq_comm] using hl⟩
set_option maxRecDepth 100000 in
set_option maxHeartbeats 16000000 in
theorem pending_sh (h:Sh w S c c0 hv kv wv KV WV K s) (hKl:K.length≤100000) :
  Calls Tryz.prog 141 #[.pointer (some ⟨S,0,none⟩)] w fun e w'=>e = .returned (.int .i64 (opI (peS s)))∧Below w.heap.size w w':=by
 obtain ⟨R,hR⟩:∃ R,R = opI (peS s):=⟨_,rfl⟩
 rw [← hR]
 obtain ⟨ka,kC,hkv,-,-⟩:=own_slc h.kr
 subst hkv
 have HI0:Hid (Below w.heap.size w w∧∀ m,m < 0→∀ L,K[m]? = some L→L.any (fun e=>!e.d) = false):=hide ⟨Below.refl _ _,fun m hm=>by omega⟩
 have H:=hide h
 have HR:=hide hR
 have HANY:Hid (∀ L:List En,(L.map En.m).any (fun e=>!e.d) = L.any (fun e=>!e.d)):=hide (fun L=>by rw [List.any_map];rfl)
 clear h hR
 go_enter Tryz.func141,Tryz.ntmps141
 go_wp2_with fail
 go_loopg [3] K.length (fun gn iv wx=>∃ (k:Nat),k + gn = K.length∧iv = .int .i64 k∧Hid (Below w.heap.size w wx∧∀ m,m < k→∀ L,K[m]? = some L→L.any (fun e=>!e.d) = false))
 case atStart=>exact ⟨0,by omega,rfl,HI0⟩
 case round =>
  clear HI0
  obtain ⟨k,hkn,rfl,hI⟩:=hrel
  obtain ⟨G1,hG1⟩:∃ G1,G1 = gk:=⟨_,rfl⟩
  have h1:=(uh H).below (uh hI).1
  have c3:=h1.bs.cell 3 rfl
  by_cases hlt:k < K.length
  ·have hd:decide ((k:Int) < (K.length:Int)) = true:=by simp;omega
   obtain ⟨kB',kC',hkv',ckc⟩:=h1.kc hlt
   simp only [Value.slice.injEq,true_and] at hkv'
   obtain ⟨rfl,rfl⟩:=hkv'
   obtain ⟨L,hL⟩:∃ L,L = K.getD k []:=⟨_,rfl⟩
   have hLK:K[k]? = some L:=by rw [hL,getD_at hlt,List.getElem?_eq_getElem hlt]
   have hke:=(uh H).ke k hlt
   rw [← hL] at hke
   obtain ⟨va,vc,hvv,hvn,hvm⟩:=own_slc hke
   rw [hvv] at ckc hke
   have HK:=hide hke
   have HLK:=hide hLK
   have i1:(0:Int)≤(k:Int):=by omega
   have i2:(k:Int) < (K.length:Int):=by omega
   have HJ0:Hid (Below w.heap.size w wr∧∀ i,i < 0→∀ e,L[i]? = some e→e.d = true):=hide ⟨(uh hI).1,fun m hm=>by omega⟩
   have HI2:=hide (uh hI).2
   clear h1 hL hLK hke hvv hI
   go_wp2_with fail
   go_loopg [23] L.length (fun gn iv wx=>∃ (j:Nat),j + gn = L.length∧iv = .int .i64 j∧Hid (Below w.heap.size w wx∧∀ i,i < j→∀ e,L[i]? = some e→e.d = true))
   case atStart=>exact ⟨0,by omega,rfl,HJ0⟩
   case round =>
    clear HJ0 c3 ckc
    obtain ⟨j,hjn,rfl,hJ⟩:=hrel
    obtain ⟨G2,hG2⟩:∃ G2,G2 = gk:=⟨_,rfl⟩
    by_cases hlt2:j < L.length
    ·have hd2:decide ((j:Int) < (L.length:Int)) = true:=by simp;omega
     have hr2:=own_bw (uh HK) (uh hJ).1
     obtain ⟨g,cap,hgv,-,-⟩:=own_pos hr2 (by omega)
     simp only [Value.slice.injEq,true_and] at hgv
     obtain ⟨rfl,rfl⟩:=hgv
     obtain ⟨x0,x1⟩:=en_cells hr2 rfl hlt2
     have hge:L[j]? = some L[j]:=List.getElem?_eq_getElem hlt2
     obtain ⟨e,hee⟩:∃ e,e = L[j]:=⟨_,rfl⟩
     rw [← hee] at x0 x1 hge
     obtain ⟨eD,ex,ed⟩:=e
     simp only at x0 x1
     have HGE:=hide hge
     have k1:(0:Int)≤(j:Int):=by omega
     have k2:(j:Int) < (L.length:Int):=by omega
     have hb5:Below w.heap.size w (wr.alloc (.cells #[Value.pointer (some ⟨eD,0,none⟩),.bool ed] 258)):=(uh hJ).1.trans ((below_boxQ wr _).mono (uh hJ).1.size)
     have HB5:=hide hb5
     clear hr2 hge hee hb5
     cases ed
     ·have HE:Hid (R = (k:Int)):=hide (by
       have hkL:k < s.kn.length:=by rw [(uh H).km,List.length_map];exact hlt
       rw [uh HR,peS_some hkL ?_ ?_]
       ·rfl
       ·obtain ⟨L2,h2,h3⟩:=(uh H).kn_at (List.getElem?_eq_getElem hkL)
        rw [uh HLK] at h2
        injection h2 with h2
        rw [h3,← h2,uh HANY,List.any_eq_true]
        exact ⟨_,List.mem_of_getElem? (uh HGE),rfl⟩
       ·intro m hm l hl
        obtain ⟨L2,h2,rfl⟩:=(uh H).kn_at hl
        rw [uh HANY]
        exact uh HI2 m hm L2 h2)
      go_wp2_with fail
      go_ret
      exact ⟨ret_int (uh HE).symm,uh HB5⟩
     ·go_wp2_with fail
      go_roundg (G2 - 1)
      case rel=>exact ⟨j + 1,by omega,by go_num,hide ⟨uh HB5,fun i hi y hy=>by
       by_cases e':i = j
       ·rw [e',uh HGE] at hy
        injection hy with hy
        rw [← hy]
       ·exact (uh hJ).2 i (by omega) y hy⟩⟩
      case measure=>omega
    ·have hd2:decide ((j:Int) < (L.length:Int)) = false:=by simp;omega
     go_wp2_with fail
     go_roundg (G1 - 1)
     case rel=>exact ⟨k + 1,by omega,by go_num,hide ⟨(uh hJ).1,fun m hm L2 h2=>by
      by_cases e':m = k
      ·rw [e',uh HLK] at h2
       injection h2 with h2
       rw [← h2,List.any_eq_false]
       intro e he
       obtain ⟨i,hi⟩:=List.mem_iff_getElem?.1 he
       rw [(uh hJ).2 i (by have:=(List.getElem?_eq_some_iff.1 hi).1;omega) e hi]
       decide
      ·exact uh HI2 m (by omega) L2 h2⟩⟩
     case measure=>omega
  ·have hd:decide ((k:Int) < (K.length:Int)) = false:=by simp;omega
   have HE:Hid (R = -1):=hide (by
    rw [uh HR,peS_none (fun m l hl=>?_)]
    ·rfl
    ·obtain ⟨L,hL,rfl⟩:=(uh H).kn_at hl
     rw [uh HANY]
     exact (uh hI).2 m (by have:=(List.getElem?_eq_some_iff.1 hL).1;omega) L hL)
   clear h1
   go_wp2_with fail
   go_ret
   exact ⟨ret_int (uh HE).symm,(uh hI).1⟩
end
end Go.Proofs.YtciihepbeacppaaGreat
