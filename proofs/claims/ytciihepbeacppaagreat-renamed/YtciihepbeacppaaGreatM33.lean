import Derived.Test.YtciihepbeacppaaGreatM30
import Derived.Test.YtciihepbeacppaaGreatM32
namespace Go.Proofs.YtciihepbeacppaaGreat
open Go.RowKit
set_option linter.unusedVariables false
theorem foldl_l20 {α:Type} {g:List UInt8→α→List UInt8} (h:∀ t x,(g t x).length≤t.length + 20):∀ (l:List α) (t:List UInt8),(l.foldl g t).length≤t.length + 20 * l.length
 | [],_=>by simp
 | a :: l,t=>by
  rw [List.foldl_cons]
  have h1:=foldl_l20 h l (g t a)
  have h2:=h t a
  rw [List.length_cons]
  omega
theorem wrT_len {vs:List UInt8} {f:CF} (hT:Td f) (hv:vs.length≤4):(wrT vs f).length≤20000:=by
 have hN:=naM_sho vs f
 have h1:=foldl_l20 (g:=wrV vs f (naM vs f)) (fun t i=>by
  unfold wrV
  split
  ·omega
  ·have:=wiT_len t (eqT [vs.getD i 0] ((naM vs f).getD (f.cl.getD (1 + i) 0) []))
   have:=hN.2 (f.cl.getD (1 + i) 0)
   have h9:(eqT [vs.getD i 0] ((naM vs f).getD (f.cl.getD (1 + i) 0) [])).length≤7:=by unfold eqT;simp only [List.length_append,List.length_cons,List.length_nil];omega
   omega) (List.range vs.length) []
 have h2:=foldl_l20 (g:=wrA (naM vs f)) (fun t p=>by
  unfold wrA
  have:=wiT_len t (unT ((naM vs f).getD p.l []) ((naM vs f).getD p.r []))
  have:=unT_len ((naM vs f).getD p.l []) ((naM vs f).getD p.r [])
  have:=hN.2 p.l
  have:=hN.2 p.r
  omega) f.ap ((List.range vs.length).foldl (wrV vs f (naM vs f)) [])
 have h3:=foldl_l20 (g:=wrO (naM vs f)) (fun t p=>by
  unfold wrO
  have a1:=hN.2 p.l
  have a2:=hN.2 p.r
  split
  ·have:=wiT_len t (lsT ((naM vs f).getD p.l []) ((naM vs f).getD p.r []))
   have h9:(lsT ((naM vs f).getD p.l []) ((naM vs f).getD p.r [])).length≤11:=by unfold lsT;simp only [List.length_append,List.length_cons,List.length_nil];omega
   omega
  ·have:=wiT_len t (arT ((naM vs f).getD p.l []) ((naM vs f).getD p.r []))
   have h9:(arT ((naM vs f).getD p.l []) ((naM vs f).getD p.r [])).length≤10:=by unfold arT;simp only [List.length_append,List.length_cons,List.length_nil];omega
   omega) f.ow (f.ap.foldl (wrA (naM vs f)) ((List.range vs.length).foldl (wrV vs f (naM vs f)) []))
 have h4:=hT.ln
 have h5:=hT.ok.owLen
 rw [List.length_range,List.length_nil] at h1
 unfold wrT
 split
 ·simp
 ·unfold wr3
  omega
theorem an_td {ps:PS} {al:List Atm} (h:An ps al):∀ l∈(anR ps.nodes ps.vars.length al).kn,∀ f∈l,Td f:=by
 unfold anR rsO
 split
 ·intro l hl;simp at hl
 ·intro l hl f hf
  obtain ⟨x,hx,rfl⟩:=List.mem_map.1 (show l∈(anS ps.nodes ps.vars.length al).kn.map (fun l=>l.map (·.f)) from hl)
  obtain ⟨e,he,rfl⟩:=List.mem_map.1 hf
  exact (an_kb h).2 x hx e he
theorem getD_mem {α:Type} {l:List (List α)} {n:Nat} {x:α} (h:x∈l.getD n []):∃ y∈l,x∈y:=by
 rw [List.getD_eq_getElem?_getD] at h
 cases hg:l[n]? with
 | none=>rw [hg] at h;simp at h
 | some y=>rw [hg] at h;exact ⟨y,List.mem_of_getElem? hg,h⟩
theorem iv_len {ws:List ByteArray} (hA:AnW ws) (z:Int):(ivT (prS ws ini).vars (anW ws) z).length≤1000000000001∧∀ t∈ivT (prS ws ini).vars (anW ws) z,t.length≤20000:=by
 unfold ivT ivL
 split
 ·exact ⟨by simp,by simp⟩
 ·refine ⟨?_,fun t ht=>?_⟩
  ·rw [List.length_map,List.getD_eq_getElem?_getD]
   cases hg:(anW ws).kn[z.toNat]? with
   | none=>simp
   | some y=>exact an_lists hA y (List.mem_of_getElem? hg)
  ·obtain ⟨f,hf,rfl⟩:=List.mem_map.1 ht
   obtain ⟨y,hy,hfy⟩:=getD_mem hf
   exact wrT_len (an_td hA y hy f hfy) hA.v
theorem anW_rn (k:Nat) (ws:List ByteArray):anW (rnB k ws) = anW ws:=by
 obtain ⟨h1,-,h3⟩:=prS_rn k ws
 unfold anW
 rw [h1,h3]
 show anR (prS ws ini).nodes ((prS ws ini).vars.map (shU k)).length (prA ws ini) = _
 rw [List.length_map]
theorem iv_rn (k:Nat) (ws:List ByteArray) (z:Int):ivT (prS (rnB k ws) ini).vars (anW (rnB k ws)) z = (ivT (prS ws ini).vars (anW ws) z).map (ltL k):=by
 obtain ⟨h1,h2,-⟩:=prS_rn k ws
 rw [anW_rn,h1]
 unfold ivT
 rw [List.map_map]
 apply List.map_congr_left
 intro f _
 exact wrT_rn h2 f
theorem nodes_rn (k:Nat) (ws:List ByteArray):(prS (rnB k ws) ini).nodes = (prS ws ini).nodes:=by rw [(prS_rn k ws).1];rfl
def pkS (c:Int):Nat:=(if c < 0 then (-(c + 1)) % 26 else c % 26).toNat
theorem pkS_lt (c:Int):pkS c < 26:=by
 unfold pkS
 split <;> omega
set_option maxRecDepth 100000 in
set_option maxHeartbeats 2000000 in
theorem pickS_any (w:World) (c:Int) (hc:-9223372036854775808≤c∧c≤9223372036854775807) :
  Calls Tryz.prog 35 #[.int .i64 c,.int .i64 26] w fun e w'=>e = .returned (.int .i64 (pkS c:Nat))∧w' = w:=by
 by_cases h:c < 0
 ·have d1:decide (c < 0) = true:=by simpa using h
  have i1:IntKind.i64.wrap (c + 1) = c + 1:=by rw [IntKind.wrap_i64];omega
  have i2:IntKind.i64.wrap (-(c + 1)) = -(c + 1):=by rw [IntKind.wrap_i64];omega
  have HE:Hid (((pkS c:Nat):Int) = (-(c + 1)).tmod 26):=hide (by
   unfold pkS
   rw [if_pos h,Int.tmod_eq_emod_of_nonneg (by omega)]
   omega)
  go_enter Tryz.func35,Tryz.ntmps35
  go_wp2_with fail
  go_ret
  exact ⟨ret_int (by rw [uh HE,Int.neg_tmod]),rfl⟩
 ·have d1:decide (c < 0) = false:=by simpa using h
  have HE:Hid (((pkS c:Nat):Int) = c % 26):=hide (by
   unfold pkS
   rw [if_neg h]
   omega)
  have ht:c.tmod 26 = c % 26:=Int.tmod_eq_emod_of_nonneg (by omega)
  go_enter Tryz.func35,Tryz.ntmps35
  go_wp2_with fail
  go_ret
  exact ⟨ret_int (by rw [uh HE]),rfl⟩
theorem Duo.set {w0 w:World} {Y X1 X2:Nat} {s:ByteArray} {ws1 ws2:List ByteArray} {G1 G2:List Nat} (h:Duo w0 w Y X1 X2 s ws1 ws2 G1 G2) {p:Addr} (h1:p.block ∉ G1) (h2:p.block ∉ G2) (hY:p.block≠Y) (h0:w0.heap.size≤p.block) (u:Value) :
  Duo w0 (w.setCell p u) Y X1 X2 s ws1 ws2 G1 G2 :=
 ⟨Bk.setO h.dk hY u,h.p1.of_eq (fun k hk=>Below.heap_setCell _ _ _ _ (fun e=>h1 (by rw [← e];exact hk))),h.p2.of_eq (fun k hk=>Below.heap_setCell _ _ _ _ (fun e=>h2 (by rw [← e];exact hk))),h.y1,h.y2,h.dj,h.b1,h.b2,h.bw.setCell h0 u⟩
def mpP (k:Nat) (T:List (List UInt8)) (j:Nat):List (List UInt8):=(T.take j).map (ltL k) ++ T.drop j
theorem mpP_get (k:Nat) (T:List (List UInt8)) {j:Nat} (h:j < T.length):(mpP k T j)[j]? = some T[j]:=by
 unfold mpP
 have e:((T.take j).map (ltL k)).length = j:=by rw [List.length_map,List.length_take];omega
 rw [List.getElem?_append_right (by rw [e];exact Nat.le_refl _),e,Nat.sub_self,List.getElem?_drop,Nat.add_zero,List.getElem?_eq_getElem h]
theorem mpP_set (k:Nat) (T:List (List UInt8)) {j:Nat} (h:j < T.length):(mpP k T j).set j (ltL k T[j]) = mpP k T (j + 1):=by
 unfold mpP
 have e:((T.take j).map (ltL k)).length = j:=by rw [List.length_map,List.length_take];omega
 rw [List.set_append_right _ _ (by rw [e];exact Nat.le_refl _),e,Nat.sub_self,List.drop_eq_getElem_cons h,List.set_cons_zero,List.take_succ_eq_append_getElem h,List.map_append,List.append_assoc]
 rfl
theorem mpP_end (k:Nat) (T:List (List UInt8)):mpP k T T.length = T.map (ltL k):=by unfold mpP;simp
section
variable {w0 w:World} {Y X:Nat} {s:ByteArray} {G:List Nat}
set_option maxRecDepth 100000 in
set_option maxHeartbeats 8000000 in
theorem renamed_any (hdk:Dsk w Y X s) (hp:Prg w X (rdW s.data.toList) G) (hY:Y ∉ G) (hge:∀ k∈G,w0.heap.size≤k) (hbw:Below w0.heap.size w0 w) (hs:s.size≤240) (hE:rdE s.data.toList = 0) (c:Int) (hc:-9223372036854775808≤c∧c≤9223372036854775807) :
  Calls Tryz.prog 20 #[.pointer (some ⟨Y,0,none⟩),.int .i64 c] w fun e w'=>e = .returned (.bool true)∧Below w0.heap.size w0 w':=by
 have hA:AnW (rdW s.data.toList):=an_read hE
 have hnl:=hA.l
 obtain ⟨k,hk⟩:∃ k,k = pkS c:=⟨_,rfl⟩
 have hk26:k < 26:=by rw [hk];exact pkS_lt c
 obtain ⟨ws,hws⟩:∃ ws,ws = rdW s.data.toList:=⟨_,rfl⟩
 obtain ⟨ws2,hws2⟩:∃ ws2,ws2 = rnB k ws:=⟨_,rfl⟩
 have hE2:rdE (ltL k s.data.toList) = 0:=by rw [rdE_lt];exact hE
 have hR2:rdW (ltL k s.data.toList) = ws2:=by rw [rdW_lt,← hws,hws2]
 have hS2:rdS (ltL k s.data.toList) = prS ws2 ini:=by unfold rdS;rw [hR2]
 have hA2:AnW ws2:=by have:=an_read hE2;rw [hR2,hS2] at this;exact this
 have hW2:anW ws2 = anW ws:=by rw [hws2];exact anW_rn k ws
 have hIV:∀ z,ivT (prS ws2 ini).vars (anW ws) z = (ivT (prS ws ini).vars (anW ws) z).map (ltL k):=fun z=>by rw [← iv_rn k ws z,← hws2,hW2]
 have hN2:(prS ws2 ini).nodes = (prS ws ini).nodes:=by rw [hws2];exact nodes_rn k ws
 rw [← hws] at hp hA hnl
 have hLe:=iv_len hA
 have c1:w.cell? ⟨Y,1,none⟩ = some (.string s):=hdk.cell 1 rfl
 have HPK:=hide (pickS_any w c hc)
 rw [← hk] at HPK
 have HLT:=hide (fun W=>letters_lt s k W (by omega) hk26)
 have HLL:Hid (∀ t:List UInt8,t.length≤20000→∀ W,Calls Tryz.prog 40 #[.string ⟨t.toArray⟩,.int .i64 (k:Int)] W fun e w'=>e = .returned (.string ⟨(ltL k t).toArray⟩)∧Below W.heap.size W w'):=hide (fun t ht W=>letters_lt ⟨t.toArray⟩ k W (by show t.toArray.size≤_;simp;omega) hk26)
 have hsz:(⟨(ltL k s.data.toList).toArray⟩:ByteArray).size≤20000:=by
  show (ltL k s.data.toList).toArray.size≤_
  rw [List.size_toArray,ltL_len,size_toList]
  omega
 have HLD:=hide (fun W=>load_any ⟨(ltL k s.data.toList).toArray⟩ W hsz)
 rw [show (⟨(ltL k s.data.toList).toArray⟩:ByteArray).data.toList = ltL k s.data.toList from rfl,hR2,hS2] at HLD
 have H:=hide (And.intro hdk (And.intro hp (And.intro hY (And.intro hge hbw))))
 have HA:=hide hA
 have HA2:=hide hA2
 have HW2:=hide hW2
 have HIVR:=hide hIV
 have HN2:=hide hN2
 have HLE:=hide hLe
 have HE2:=hide hE2
 clear hdk hp hY hge hbw hA hA2 hW2 hIV hN2 hLe hE2 hR2 hS2 hsz hws hws2 hk hE hs
 go_enter Tryz.func20,Tryz.ntmps20
 go_wp2_with fail
 refine (uh HPK).mono ?_
 rintro e w0' ⟨rfl,rfl⟩
 clear HPK
 go_wp2_with fail
 refine (uh HLT _).mono ?_
 rintro e w1 ⟨rfl,hb1⟩
 have HB1:=hide hb1
 clear hb1 HLT c1
 go_wp2_with fail
 refine (uh HLD _).mono ?_
 rintro e w2 ⟨hb2,⟨hne,-⟩ | ⟨-,X2,rfl,hL⟩⟩
 ·exact absurd (uh HE2) hne
 ·obtain ⟨G2,hG2,hge2⟩:=hL.prg
  have hD:Duo w0 w2 Y X X2 s ws ws2 G G2:=by
   obtain ⟨h1,h2,h3,h4,h5⟩:=uh H
   have hbb:=(uh HB1).trans (hb2.mono (uh HB1).size)
   have hs1:=(uh HB1).size
   exact ⟨Bk.below h1 hbb,h2.below hbb,hG2,h3,fun hm=>by have:=hge2 _ hm;have:=Bk.lt h1;omega,fun k hk hk2=>by have:=hge2 _ hk2;have:=h2.lt k hk;omega,h4,fun k hk=>by have:=hge2 k hk;have:=h5.size;omega,h5.trans (hbb.mono h5.size)⟩
  have c3:w2.cell? ⟨Y,0,none⟩ = some (.pointer (some ⟨X,0,none⟩)):=hD.dk.cell 0 rfl
  have HV:=hide (hD.p1.verdict (uh HA))
  have HD3:=hide hD
  clear hb2 hL hG2 hge2 hD HLD H HB1 HE2
  go_wp2_with fail
  refine (uh HV).mono ?_
  rintro e w4 ⟨rfl,G1',ha⟩
  have hD4:=(uh HD3).ask1 ha
  have HV4:=hide (hD4.p2.verdict (uh HA2))
  rw [uh HW2] at HV4
  have HD4:=hide hD4
  clear hD4 ha HV HD3 c3
  go_wp2_with fail
  refine (uh HV4).mono ?_
  rintro e w5 ⟨rfl,G2',ha⟩
  have hD5:=(uh HD4).ask2 ha
  have c5:w5.cell? ⟨Y,0,none⟩ = some (.pointer (some ⟨X,0,none⟩)):=hD5.dk.cell 0 rfl
  have HAL:=hide (hD5.p1.alarms (uh HA))
  have HD5:=hide hD5
  clear hD5 ha HV4 HD4
  go_wp2_with fail
  refine (uh HAL).mono ?_
  rintro e w6 ⟨v1,rfl,hr1,-,G1'',ha⟩
  have hD6:=(uh HD5).ask1 ha
  have hX2l:X2 < w5.heap.size:=(uh HD5).p2.lt X2 (uh HD5).p2.mem
  have HAL6:=hide (hD6.p2.alarms (uh HA2))
  rw [uh HW2] at HAL6
  have HD6:=hide (And.intro hD6 hr1)
  clear hD6 hr1 ha HAL HD5 c5
  go_wp2_with fail
  refine (uh HAL6).mono ?_
  rintro e w7 ⟨v2,rfl,hr2,-,G2'',ha⟩
  have hr1:=row_ask (uh HD6).2 hX2l ha.st
  have hD7:=(uh HD6).1.ask2 ha
  have c7:w7.cell? ⟨Y,0,none⟩ = some (.pointer (some ⟨X,0,none⟩)):=hD7.dk.cell 0 rfl
  have HN7:=hide hD7.p1.nodes
  have HD7:=hide (And.intro hD7 (And.intro hr1 hr2))
  clear hD7 hr1 hr2 ha HAL6 HD6
  go_wp2_with fail
  refine (uh HN7).mono ?_
  rintro e w8 ⟨rfl,n8,rfl⟩
  have hD8:=(uh HD7).1.below (bw_drewN w7 n8)
  have hr18:=own_bw (uh HD7).2.1 (bw_drewN w7 n8)
  have hr28:=own_bw (uh HD7).2.2 (bw_drewN w7 n8)
  obtain ⟨W8,hW8⟩:∃ W8,W8 = w7.drewN n8:=⟨_,rfl⟩
  rw [← hW8] at hD8 hr18 hr28 ⊢
  have HN8:=hide hD8.p2.nodes
  rw [uh HN2] at HN8
  have HD8:=hide (And.intro hD8 (And.intro hr18 hr28))
  clear hD8 hr18 hr28 hW8 HN7 HD7 c7
  go_wp2_with fail
  refine (uh HN8).mono ?_
  rintro e w9 ⟨rfl,n9,rfl⟩
  have hD9:=(uh HD8).1.below (bw_drewN W8 n9)
  have hr19:=own_bw (uh HD8).2.1 (bw_drewN W8 n9)
  have hr29:=own_bw (uh HD8).2.2 (bw_drewN W8 n9)
  obtain ⟨W9,hW9⟩:∃ W9,W9 = W8.drewN n9:=⟨_,rfl⟩
  rw [← hW9] at hD9 hr19 hr29 ⊢
  have HSA:=hide (sameAlarms_any 0 (by omega) hr19 hr29 (fun p hp=>by have:=anW_lt p hp;omega))
  rw [shA_zero,decide_eq_true (rfl:(anW ws).al = (anW ws).al)] at HSA
  have HD9:=hide hD9
  clear hD9 hr19 hr29 hW9 HN8 HD8
  go_wp2_with fail
  refine (uh HSA).mono ?_
  rintro e w10 ⟨rfl,n10,rfl⟩
  have hD10:=(uh HD9).below (bw_drewN W9 n10)
  obtain ⟨WA,hWA⟩:∃ WA,WA = W9.drewN n10:=⟨_,rfl⟩
  rw [← hWA] at hD10 ⊢
  have HD10:=hide hD10
  clear hD10 hWA HSA HD9
  obtain ⟨N,hN⟩:∃ N,N = (prS ws ini).nodes.length:=⟨_,rfl⟩
  rw [← hN] at hnl ⊢
  obtain ⟨vd,hvd⟩:∃ vd,vd = (anW ws).vd:=⟨_,rfl⟩
  rw [← hvd]
  clear hN hvd HN2
  have e1:((N:Int) != (N:Int)) = false:=by simp
  have e2:((vd:Int) != (vd:Int)) = false:=by simp
  go_wp2_with fail
  go_loopg [15,16] N (fun gn ov iv wx=>∃ (i:Nat),i + gn = N∧iv = .int .i64 i∧ov = .bool true∧Hid (∃ G1 G2,Duo w0 wx Y X X2 s ws ws2 G1 G2))
  case atStart=>exact ⟨0,by omega,rfl,rfl,hide ⟨_,_,uh HD10⟩⟩
  case round =>
   clear HD10
   obtain ⟨i,hin,rfl,rfl,hI⟩:=hrel
   obtain ⟨H1,hH1⟩:∃ H1,H1 = gk:=⟨_,rfl⟩
   obtain ⟨Ga,Gb,hDk⟩:=uh hI
   by_cases hlt:i < N
   ·have hd:decide ((i:Int) < (N:Int)) = true:=by simp;omega
    have c1:wr.cell? ⟨Y,0,none⟩ = some (.pointer (some ⟨X,0,none⟩)):=hDk.dk.cell 0 rfl
    have HIV:=hide (hDk.p1.invariant2 (uh HA) (i:Int))
    have HDk:=hide hDk
    clear hDk hI
    go_wp2_with fail
    refine (uh HIV).mono ?_
    rintro e w11 ⟨v1,rfl,hr1,-,Ga',ha,hap⟩
    have hD11:=(uh HDk).ask1 ha
    have hX2k:X2 < wr.heap.size:=(uh HDk).p2.lt X2 (uh HDk).p2.mem
    have HIV2:=hide (hD11.p2.invariant (uh HA2) (i:Int))
    rw [uh HW2,uh HIVR] at HIV2
    have hfr:∀ q,v1.ownBlock = some q→q < w11.heap.size∧q ∉ Ga'∧q ∉ Gb∧q≠Y∧w0.heap.size≤q:=fun q hq=>by
     have h1:=(hr1.lt q hq)
     have h2:=(uh HDk).bw.size
     have h3:Y < wr.heap.size:=Bk.lt (uh HDk).dk
     exact ⟨h1.2,hap q hq,fun hm=>by have:=(uh HDk).p2.lt q hm;omega,by omega,by omega⟩
    have HD11:=hide (And.intro hD11 (And.intro hr1 hfr))
    clear hD11 hr1 ha hap hfr HIV c1
    go_wp2_with fail
    refine (uh HIV2).mono ?_
    rintro e w12 ⟨v2,rfl,hr2,-,Gb',ha⟩
    obtain ⟨T,hT⟩:∃ T,T = ivT (prS ws ini).vars (anW ws) (i:Int):=⟨_,rfl⟩
    have hTl:=uh HLE (i:Int)
    rw [← hT] at hTl hr2
    have hr1:=row_ask (uh HD11).2.1 hX2k ha.st
    rw [← hT] at hr1
    have hD12:=(uh HD11).1.ask2 ha
    have hfr:∀ q,v1.ownBlock = some q→q < w11.heap.size∧q ∉ Ga'∧q ∉ Gb'∧q≠Y∧w0.heap.size≤q:=fun q hq=>by
     obtain ⟨f1,f2,f3,f4,f5⟩:=(uh HD11).2.2 q hq
     exact ⟨f1,f2,fun hm=>by rcases ha.gr q hm with h | h;exact f3 h;omega,f4,f5⟩
    obtain ⟨va,vc,hv1,-,-⟩:=own_slc hr1
    subst hv1
    have HFR:=hide hfr
    have HTL:=hide hTl.2
    have hTn:=hTl.1
    have hr1':=own_cast (ys:=stC (mpP k T 0)) hr1 rfl (by unfold mpP;simp)
    obtain ⟨B1,hB1⟩:∃ B1,B1 = wr.heap.size:=⟨_,rfl⟩
    obtain ⟨B2,hB2⟩:∃ B2,B2 = w11.heap.size:=⟨_,rfl⟩
    rw [← hB1] at hr1'
    rw [← hB2] at hr2 HFR
    have HI0:=hide (And.intro hD12 (And.intro hr1' hr2))
    clear hB1 hB2 hD12 hr1 hr1' hr2 ha HIV2 HD11 hfr hTl hT HDk hX2k
    go_wp2_with fail
    go_loopg [19] T.length (fun gm jv wx=>∃ (j:Nat),j + gm = T.length∧jv = .int .i64 j∧Hid (Duo w0 wx Y X X2 s ws ws2 Ga' Gb'∧wx.ownsRow B1 9 1 (.slice va T.length vc) T.length (stC (mpP k T j))∧wx.ownsRow B2 9 1 v2 (T.map (ltL k)).length (stC (T.map (ltL k)))))
    case atStart=>exact ⟨0,by omega,rfl,HI0⟩
    case round =>
     clear HI0
     obtain ⟨j,hjn,rfl,hJ⟩:=hrel
     obtain ⟨H2,hH2⟩:∃ H2,H2 = gk:=⟨_,rfl⟩
     obtain ⟨h1,h2,h3⟩:=uh hJ
     by_cases hjl:j < T.length
     ·have hd2:decide ((j:Int) < (T.length:Int)) = true:=by simp;omega
      obtain ⟨g,cap,hgv,-,-,hgl⟩:=own_pos h2 (by omega)
      simp only [Value.slice.injEq,true_and] at hgv
      obtain ⟨rfl,rfl⟩:=hgv
      have x0:=h2.cellAt j (by omega)
      rw [show (stC (mpP k T j))[j]? = some (.string ⟨T[j].toArray⟩) by unfold stC;rw [List.getElem?_map,mpP_get k T hjl];rfl] at x0
      have z0:=h2.frozenAt j
      obtain ⟨t,ht⟩:∃ t,t = T[j]:=⟨_,rfl⟩
      have HLj:=hide (uh HLL t (by rw [ht];exact uh HTL _ (List.getElem_mem hjl)))
      have HMS:=hide (mpP_set k T hjl)
      rw [← ht] at x0 HMS
      have k1:(0:Int)≤(j:Int):=by omega
      have k2:(j:Int) < (T.length:Int):=by omega
      obtain ⟨f1,f2,f3,f4,f5⟩:=uh HFR g rfl
      have HH:=hide (And.intro h1 (And.intro h2 h3))
      have HF:=hide (And.intro f1 (And.intro f2 (And.intro f3 (And.intro f4 f5))))
      clear h1 h2 h3 ht f1 f2 f3 f4 f5 hJ
      go_wp2_with (go_at_call 40;refine (uh HLj _).mono ?_;rintro e w15 ⟨rfl,hb15⟩;have y0:=(hb15.cell hgl).trans x0;have y1:=(own_bw (uh HH).2.1 hb15).frozenAt j;have HB15:=hide hb15;clear hb15)
      have HN:Hid (Duo w0 (w15.setCell ⟨g,j,none⟩ (.string ⟨(ltL k t).toArray⟩)) Y X X2 s ws ws2 Ga' Gb'∧(w15.setCell ⟨g,j,none⟩ (.string ⟨(ltL k t).toArray⟩)).ownsRow B1 9 1 (.slice (some ⟨g,0,none⟩) T.length vc) T.length (stC (mpP k T (j + 1)))∧(w15.setCell ⟨g,j,none⟩ (.string ⟨(ltL k t).toArray⟩)).ownsRow B2 9 1 v2 (T.map (ltL k)).length (stC (T.map (ltL k)))):=hide (by
       obtain ⟨f1,f2,f3,f4,f5⟩:=uh HF
       obtain ⟨h1,h2,h3⟩:=uh HH
       have hb:=uh HB15
       refine ⟨(h1.below hb).set f2 f3 f4 f5 _,?_,own_setO (own_bw h3 hb) (fun e=>?_) _⟩
       ·have:=((own_bw h2 hb).stored j (.string ⟨(ltL k t).toArray⟩)).1
        rw [stC_set,uh HMS] at this
        exact this
       ·have:=(h3.lt g e).1
        omega)
      clear HF HH HB15 HLj HMS
      go_roundg (H2 - 1)
      case rel=>exact ⟨j + 1,by omega,by go_num,HN⟩
      case measure=>omega
     ·have hd2:decide ((j:Int) < (T.length:Int)) = false:=by simp;omega
      have hje:j = T.length:=by omega
      subst hje
      have hr1:=own_cast (m:=(T.map (ltL k)).length) (ys:=stC (T.map (ltL k))) h2 (by rw [List.length_map]) (by rw [mpP_end])
      have HST:=hide (sameTexts_any hr1 h3)
      rw [decide_eq_true (rfl:T.map (ltL k) = T.map (ltL k))] at HST
      have HD13:=hide h1
      clear h1 h2 h3 hr1 hJ
      go_wp2_with fail
      refine (uh HST).mono ?_
      rintro e w13 ⟨rfl,n13,rfl⟩
      have HN:=hide (show ∃ G1 G2,Duo w0 (wr.drewN n13) Y X X2 s ws ws2 G1 G2 from ⟨_,_,(uh HD13).below (bw_drewN wr n13)⟩)
      clear HST HD13
      go_wp2_with fail
      go_roundg (H1 - 1)
      case rel=>exact ⟨i + 1,by omega,by go_num,rfl,HN⟩
      case measure=>omega
   ·have hd:decide ((i:Int) < (N:Int)) = false:=by simp;omega
    have HN:=hide hDk.bw
    clear hDk hI
    go_wp2_with fail
    go_ret
    exact ⟨rfl,uh HN⟩
end
end Go.Proofs.YtciihepbeacppaaGreat
