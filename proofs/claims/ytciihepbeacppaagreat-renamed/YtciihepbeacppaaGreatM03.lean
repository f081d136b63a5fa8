import Derived.Test.YtciihepbeacppaaGreatM02
namespace Go.Proofs.YtciihepbeacppaaGreat
open Go.RowKit
set_option linter.unusedVariables false
section
variable {B:Nat} {WV:Value} {w:World} {P:Nat} {ws:List ByteArray} {s:PS} {F:List Nat} {wv vv hv:Value} {g cap:Nat}
set_option maxRecDepth 100000 in
set_option maxHeartbeats 4000000 in
theorem branch_any {blk:PS→PS} {f:Nat} (hblk:BlkOK B WV P ws blk f) (gd:Good blk) (hb:acB ws kIf s = true) (hfu:ws.length < f + 1 + s.pos) (hphi:s.nodes.length + 2 * ws.length≤60000 + 2 * s.pos) (h:IsQ B WV w P ws s F) :
  Calls Tryz.prog 186 #[.pointer (some ⟨P,0,none⟩)] w fun e w'=>e = .returned (.tuple #[])∧∃ F',IsQ B WV w' P ws (brS blk ws s) F'∧Stp F w F' w':=by
 have HQ:=hide h
 have hp0:=h.f.2.1
 clear h
 have HE:Hid (exS ws kIf s = s.adv):=hide (if_pos hb)
 have hpa:s.adv.pos = s.pos + 1:=rfl
 have hna:s.adv.nodes.length = s.nodes.length:=rfl
 have hts:=tsS_pos (ws:=ws) (s:=s.adv)
 have htn:=tsS_nodes (ws:=ws) (s:=s.adv)
 have h1:=gd.pos (tsS ws s.adv)
 have h2:=gd.nodes (tsS ws s.adv)
 have h3:=gd.phi (tsS ws s.adv)
 have HLO:Hid (brA blk ws s = blk (tsS ws s.adv)):=hide (by unfold brA;rw [uh HE])
 have HBLK:=hide hblk
 have HGD:=hide gd
 clear hblk hb gd
 obtain ⟨z,hz⟩:∃ z,z = blk (tsS ws s.adv):=⟨_,rfl⟩
 rw [← hz] at h1 h2 h3 HLO
 have HZ:=hide hz
 clear hz
 cases he:acB ws kElse z with
 | false =>
  have HE2:Hid (acS ws kElse z = z):=hide (if_neg (by simp [he]))
  have HS:Hid (brS blk ws s = { z with nodes:=setOt s.nodes.length z.nodes.length z.nodes }):=hide (by unfold brS;rw [uh HLO,he];rfl)
  have HB2:=hide he
  clear he
  go_enter Tryz.func186,Tryz.ntmps186
  go_wp2_with fail
  refine (expect_any kIf (by decide) (uh HQ)).mono ?_
  rintro e w1 ⟨rfl,hI1,hS1⟩
  rw [uh HE] at hI1
  have HI1:=hide hI1
  have HS1:=hide hS1
  clear hI1 hS1
  go_wp2_with fail
  refine (test_any (s:=s.adv) (by omega) (uh HI1)).mono ?_
  rintro e w2 ⟨rfl,F2,hI2,hS2⟩
  have HI2:=hide hI2
  have HS2:=hide ((uh HS1).trans hS2)
  clear hI2 hS2
  go_wp2_with fail
  refine (uh HBLK _ _ _ (uh HI2) (fun _=>by omega) (by omega)).mono ?_
  rintro e w3 ⟨rfl,F3,hI3,hS3⟩
  have HI3:=hide hI3
  have HS3:=hide ((uh HS2).trans hS3)
  clear hI3 hS3
  rw [← uh HZ] at HI3
  have hp3:=(uh HI3).f.2.1
  have HA4:=accept_any kElse (by decide) (uh HI3)
  rw [uh HB2,uh HE2] at HA4
  replace HA4:=hide HA4
  go_wp2_with fail
  refine (uh HA4).mono ?_
  rintro e w4 ⟨rfl,hI4,hS4⟩
  have HI4:=hide hI4
  have HS4:=hide ((uh HS3).trans hS4)
  clear hI4 hS4
  obtain ⟨wv,vv,hv,g,cap,hpv⟩:=(uh HI4).nodesAt (by omega)
  obtain ⟨_,_,_,_,c5,_⟩:=hpv.readsV
  obtain ⟨⟨v4,hv4,hm4⟩,f4⟩:=hpv.nodeCell (s.nodes.length * 6 + 5) (by omega)
  obtain ⟨x4,rfl⟩:=nd_mem_int hm4
  have HPV:=hide hpv
  clear hpv hm4
  have hfb:=fb_le z
  go_wp2_with fail
  go_region
  go_wp2_with fail
  refine bodyPost_ret (results_none rfl _ _ _) rfl ?_
  have hpv6:=(uh HPV).setNode (s.nodes.length * 6 + 5) (.int .i64 (z.nodes.length:Int)) (setOt s.nodes.length z.nodes.length z.nodes) (nd_setOt _ _ _) (setOt_length _ _ _)
  exact ⟨rfl,F3,⟨by rw [uh HS];exact hpv6.is.drew,by rw [uh HS];exact (uh HI4).f⟩,((uh HS4).setCell (p:=⟨g,s.nodes.length * 6 + 5,none⟩) ((uh HPV).inF (uh HS4)) _).drew⟩
 | true =>
  have HE2:Hid (acS ws kElse z = z.adv):=hide (if_pos he)
  have HS:Hid (brS blk ws s = brC z.nodes.length (blk (brB s.nodes.length z))):=hide (by unfold brS;rw [uh HLO,he];rfl)
  have hfz:fb z = 0:=fb_ok (pk_lt (ws:=ws) (s:=z) (by rw [eq_of_toList he];decide)).1
  have HB2:=hide he
  clear he
  have hza:z.adv.pos = z.pos + 1:=rfl
  have hzl:z.adv.nodes.length = z.nodes.length:=rfl
  have hbp:(brB s.nodes.length z).pos = z.pos + 1:=rfl
  have hbl:(brB s.nodes.length z).nodes.length = z.nodes.length + 1:=by simp [brB,setOt_length,addS,PS.adv]
  have k2:=(uh HGD).nodes (brB s.nodes.length z)
  have k3:=(uh HGD).phi (brB s.nodes.length z)
  have k4:=fb_le (blk (brB s.nodes.length z))
  go_enter Tryz.func186,Tryz.ntmps186
  go_wp2_with fail
  refine (expect_any kIf (by decide) (uh HQ)).mono ?_
  rintro e w1 ⟨rfl,hI1,hS1⟩
  rw [uh HE] at hI1
  have HI1:=hide hI1
  have HS1:=hide hS1
  clear hI1 hS1
  go_wp2_with fail
  refine (test_any (s:=s.adv) (by omega) (uh HI1)).mono ?_
  rintro e w2 ⟨rfl,F2,hI2,hS2⟩
  have HI2:=hide hI2
  have HS2:=hide ((uh HS1).trans hS2)
  clear hI2 hS2
  go_wp2_with fail
  refine (uh HBLK _ _ _ (uh HI2) (fun _=>by omega) (by omega)).mono ?_
  rintro e w3 ⟨rfl,F3,hI3,hS3⟩
  have HI3:=hide hI3
  have HS3:=hide ((uh HS2).trans hS3)
  clear hI3 hS3
  rw [← uh HZ] at HI3
  have hp3:=(uh HI3).f.2.1
  have HA4:=accept_any kElse (by decide) (uh HI3)
  rw [uh HB2,uh HE2] at HA4
  replace HA4:=hide HA4
  go_wp2_with fail
  refine (uh HA4).mono ?_
  rintro e w4 ⟨rfl,hI4,hS4⟩
  have HI4:=hide hI4
  have HS4:=hide ((uh HS3).trans hS4)
  clear hI4 hS4
  go_wp2_with fail
  refine (add_jmp (uh HI4) (by omega)).mono ?_
  rintro e w5 ⟨rfl,F5,hI5,hS5⟩
  have HI5:=hide hI5
  have HS5:=hide ((uh HS4).trans hS5)
  clear hI5 hS5
  have hyn:(addS jmp z.adv).nodes.length = z.nodes.length + 1:=by simp [addS,PS.adv]
  obtain ⟨wv,vv,hv,g,cap,hpv⟩:=(uh HI5).nodesAt (by omega)
  obtain ⟨_,_,_,_,c5,_⟩:=hpv.readsV
  obtain ⟨⟨v4,hv4,hm4⟩,f4⟩:=hpv.nodeCell (s.nodes.length * 6 + 5) (by omega)
  obtain ⟨x4,rfl⟩:=nd_mem_int hm4
  rw [hyn] at c5
  have HPV:=hide hpv
  clear hpv hm4
  go_wp2_with fail
  go_region
  go_wp2_with fail
  have hpv6:=(uh HPV).setNode (s.nodes.length * 6 + 5) (.int .i64 ((z.nodes.length:Int) + 1)) (setOt s.nodes.length (addS jmp z.adv).nodes.length (addS jmp z.adv).nodes) (by rw [nd_setOt,hyn];rfl) (setOt_length _ _ _)
  have HQ6:Hid (IsQ B WV ((w5.setCell ⟨g,s.nodes.length * 6 + 5,none⟩ (.int .i64 ((z.nodes.length:Int) + 1))).drew) P ws (brB s.nodes.length z) F5):=hide ⟨hpv6.is.drew,(uh HI5).f⟩
  have HS6:Hid (Stp F w F5 ((w5.setCell ⟨g,s.nodes.length * 6 + 5,none⟩ (.int .i64 ((z.nodes.length:Int) + 1))).drew)):=hide ((uh HS5).setCell (p:=⟨g,s.nodes.length * 6 + 5,none⟩) ((uh HPV).inF (uh HS5)) _).drew
  clear hpv6 c5 hv4 f4
  generalize (w5.setCell ⟨g,s.nodes.length * 6 + 5,none⟩ (.int .i64 ((z.nodes.length:Int) + 1))).drew = w6 at HQ6 HS6 ⊢
  refine (uh HBLK _ _ _ (uh HQ6) (fun _=>by omega) (by omega)).mono ?_
  rintro e w7 ⟨rfl,F7,hI7,hS7⟩
  have HI7:=hide hI7
  have HS7:=hide ((uh HS6).trans hS7)
  have hp7:=hI7.f.2.1
  clear hI7 hS7
  obtain ⟨y,hy⟩:∃ y,y = blk (brB s.nodes.length z):=⟨_,rfl⟩
  rw [← hy] at HI7 k2 k3 k4 hp7 HS
  clear hy
  obtain ⟨wv,vv,hv,g2,cap2,hpv⟩:=(uh HI7).nodesAt (by omega)
  obtain ⟨_,_,_,_,c5,_⟩:=hpv.readsV
  obtain ⟨⟨v4,hv4,hm4⟩,f4⟩:=hpv.nodeCell (z.nodes.length * 6 + 4) (by omega)
  obtain ⟨x4,rfl⟩:=nd_mem_int hm4
  have HPV7:=hide hpv
  clear hpv hm4
  go_wp2_with fail
  go_region
  go_end0
  have hpv8:=(uh HPV7).setNode (z.nodes.length * 6 + 4) (.int .i64 (y.nodes.length:Int)) (setNx z.nodes.length y.nodes.length y.nodes) (nd_setNx _ _ _) (setNx_length _ _ _)
  exact ⟨rfl,F7,⟨by rw [uh HS];exact hpv8.is.drew,by rw [uh HS];exact (uh HI7).f⟩,((uh HS7).setCell (p:=⟨g2,z.nodes.length * 6 + 4,none⟩) ((uh HPV7).inF (uh HS7)) _).drew⟩
set_option maxRecDepth 100000 in
set_option maxHeartbeats 4000000 in
theorem command_any {blk:PS→PS} {f:Nat} (hblk:BlkOK B WV P ws blk f) (gd:Good blk) (hfu:ws.length < f + 1 + s.pos) (hphi:s.nodes.length + 2 * ws.length≤60000 + 2 * s.pos) (h:IsQ B WV w P ws s F) :
  Calls Tryz.prog 161 #[.pointer (some ⟨P,0,none⟩)] w fun e w'=>e = .returned (.tuple #[])∧∃ F',IsQ B WV w' P ws (cmB blk ws s) F'∧Stp F w F' w':=by
 have HQ:=hide h
 have hp0:=h.f.2.1
 have HK:=hide (peek_any h)
 clear h
 cases hb:acB ws kIf s with
 | true =>
  have HS:Hid (cmB blk ws s = brS blk ws s):=hide (if_pos hb)
  have hb':((pk ws s).toList == kIf.toList) = true:=hb
  have HBR:=fun n=>hide (branch_any (w:=w.drewN n) hblk gd hb hfu hphi ⟨(uh HQ).m.drewN n,(uh HQ).f⟩)
  rw [show kIf.toList = [105,102] from (ByteArray.toList_eq _)] at hb'
  clear hb hblk gd
  go_enter Tryz.func161,Tryz.ntmps161
  go_wp2_with (first | (go_at_call 160;refine (uh HK).mono ?_;rintro e w' ⟨rfl,n,rfl⟩) | (go_at_call 186;refine (uh (HBR n)).mono ?_;rintro e w2 ⟨rfl,F2,hI2,hS2⟩))
  go_end0
  exact ⟨rfl,F2,by rw [uh HS];exact hI2,((Stp.refl F w).drewN n).trans hS2⟩
 | false =>
  have hb':((pk ws s).toList == kIf.toList) = false:=hb
  rw [show kIf.toList = [105,102] from (ByteArray.toList_eq _)] at hb'
  cases hb2:acB ws kWhile s with
  | true =>
   have HS:Hid (cmB blk ws s = loS blk ws s):=hide (by unfold cmB;rw [hb,hb2];rfl)
   have hb2':((pk ws s).toList == kWhile.toList) = true:=hb2
   have HBR:=fun n=>hide (loop_any (w:=w.drewN n) hblk gd hb2 hfu hphi ⟨(uh HQ).m.drewN n,(uh HQ).f⟩)
   rw [show kWhile.toList = [119,104,105,108,101] from (ByteArray.toList_eq _)] at hb2'
   clear hb hb2 hblk gd
   go_enter Tryz.func161,Tryz.ntmps161
   go_wp2_with (first | (go_at_call 160;refine (uh HK).mono ?_;rintro e w' ⟨rfl,n,rfl⟩) | (go_at_call 187;refine (uh (HBR n)).mono ?_;rintro e w2 ⟨rfl,F2,hI2,hS2⟩))
   go_end0
   exact ⟨rfl,F2,by rw [uh HS];exact hI2,((Stp.refl F w).drewN n).trans hS2⟩
  | false =>
   have HS:Hid (cmB blk ws s = scS ws s):=hide (by unfold cmB;rw [hb,hb2];rfl)
   have hb2':((pk ws s).toList == kWhile.toList) = false:=hb2
   rw [show kWhile.toList = [119,104,105,108,101] from (ByteArray.toList_eq _)] at hb2'
   clear hb hb2 hblk gd
   go_enter Tryz.func161,Tryz.ntmps161
   go_wp2_with (go_at_call 160;refine (uh HK).mono ?_;rintro e w' ⟨rfl,n,rfl⟩)
   refine (simple_any (w:=w.drewN n) ⟨(uh HQ).m.drewN n,(uh HQ).f⟩).mono ?_
   rintro e w1 ⟨rfl,F1,hI1,hS1⟩
   have HI1:=hide hI1
   have HS1:=hide (((Stp.refl F w).drewN n).trans hS1)
   clear hI1 hS1
   obtain ⟨A0,hA0⟩:∃ A0,A0 = siN ws s:=⟨_,rfl⟩
   have HA0:=hide hA0
   rw [← hA0]
   clear hA0
   obtain ⟨n0,n1,n2,n3,n4,n5⟩:=A0
   simp only [Nd.cells]
   go_wp2_with fail
   refine (expect_any kSemi (by decide) ((uh HI1).alloc _)).mono ?_
   rintro e w2 ⟨rfl,hI2,hS2⟩
   obtain ⟨hb2,hn2,hl2⟩:=loc_new (uh HI1).m hS2
   obtain ⟨⟨q0,q1,q2,q3,q4,q5⟩,_⟩:=cellsR hb2
   have hadd:=add_any ⟨n0,n1,n2,n3,n4,n5⟩ hI2 (by rw [exS_nodes,siS_nodes];omega)
   simp only [Nd.cells] at hadd
   have HADD:=hide hadd
   have HS2:=hide ((uh HS1).trans (((Stp.refl F1 w1).alloc _).trans hS2))
   clear hadd hI2 hS2 hb2
   go_wp2_with fail
   refine (uh HADD).mono ?_
   rintro e w3 ⟨rfl,F3,hI3,hS3⟩
   have HI3:=hide hI3
   have HS3:=hide ((uh HS2).trans hS3)
   clear hI3 hS3
   go_wp2_with fail
   go_end0
   refine ⟨rfl,F3,?_,uh HS3⟩
   rw [uh HS];unfold scS;rw [← uh HA0];exact uh HI3
end
theorem cmS_stop {ws:List ByteArray} {c:PS→PS} (n:Nat) {s:PS} (h:(s.failed || acB ws kRB s) = true):cmS c ws n s = s:=by
 cases n with
 | zero=>rfl
 | succ n=>simp only [cmS];rw [if_pos h]
theorem cmS_go {ws:List ByteArray} {c:PS→PS} (n:Nat) {s:PS} (h:(s.failed || acB ws kRB s) = false):cmS c ws (n + 1) s = cmS c ws n (c s):=by
 simp only [cmS];rw [if_neg (by simp [h])]
theorem exS_failed {ws:List ByteArray} {k:ByteArray} {s:PS} (hk:k.size≠0) (h:s.failed = true):exS ws k s = s:=by
 unfold exS;rw [acB_failed k hk h]
 obtain ⟨a,b,c,d,e⟩:=s
 simp only at h
 subst h
 rfl
section
variable {B:Nat} {WV:Value} {w:World} {P:Nat} {ws:List ByteArray} {s:PS} {F:List Nat} {wv vv hv:Value} {g cap:Nat}
set_option maxRecDepth 100000 in
set_option maxHeartbeats 4000000 in
theorem block_walk {c:PS→PS} {n:Nat}
  (hcmd:∀ (w:World) (st:PS) (F:List Nat),IsQ B WV w P ws st F→st.failed = false→ws.length < n + st.pos→st.nodes.length + 2 * ws.length≤60000 + 2 * st.pos →
   Calls Tryz.prog 161 #[.pointer (some ⟨P,0,none⟩)] w fun e w'=>e = .returned (.tuple #[])∧∃ F',IsQ B WV w' P ws (c st) F'∧Stp F w F' w')
  (hc:∀ s,s.pos≤(c s).pos∧((c s).failed = false→s.pos < (c s).pos)∧(c s).nodes.length + 2 * s.pos≤s.nodes.length + 2 * (c s).pos + fb (c s))
  (hfu:s.failed = false→ws.length < n + s.pos) (hphi:s.nodes.length + 2 * ws.length≤60000 + 2 * s.pos) (h:IsQ B WV w P ws s F) :
  Calls Tryz.prog 122 #[.pointer (some ⟨P,0,none⟩)] w fun e w'=>e = .returned (.tuple #[])∧∃ F',IsQ B WV w' P ws (exS ws kRB (cmS c ws (ws.length + 2) (exS ws kLB s))) F'∧Stp F w F' w':=by
 have HQ:=hide h
 clear h
 have HCMD:=hide hcmd
 have HC:=hide hc
 have HFU:=hide hfu
 clear hcmd hc hfu
 have e1:=exS_pos (ws:=ws) (s:=s) kLB
 have e2:(exS ws kLB s).nodes.length = s.nodes.length:=by rw [exS_nodes]
 have HE3:Hid ((exS ws kLB s).failed = false→ws.length < n + (exS ws kLB s).pos):=hide (fun h=>by have:=uh HFU (exS_ok _ h).2.1;omega)
 go_enter Tryz.func122,Tryz.ntmps122
 go_wp2_with fail
 refine (expect_any kLB (by decide) (uh HQ)).mono ?_
 rintro e w1 ⟨rfl,hI1,hS1⟩
 have HI1:=hide hI1
 have HS1:=hide hS1
 clear hI1 hS1
 go_wp2_with fail
 go_loopg [4] (ws.length + 2) (fun m _ wr=>∃ (st:PS) (F2:List Nat),IsQ B WV wr P ws st F2∧Stp F w F2 wr∧(exS ws kLB s).pos≤st.pos ∧
  Hid (cmS c ws (ws.length + 2) (exS ws kLB s) = cmS c ws m st)∧Hid (st.failed = false→ws.length < n + st.pos∧ws.length < m + st.pos∧st.nodes.length + 2 * ws.length≤60000 + 2 * st.pos))
 case atStart =>
  exact ⟨exS ws kLB s,F,uh HI1,uh HS1,Nat.le_refl _,rfl,fun h=>⟨uh HE3 h,by omega,by omega⟩⟩
 case round =>
  obtain ⟨st,F2,hI,hS,hpos,heq,hok⟩:=hrel
  have HI:=hide hI
  have HS:=hide hS
  obtain ⟨c1,c2,_,_⟩:=hI.m.reads
  have HK:=hide (peek_any hI)
  clear hI hS c1
  cases hf:st.failed with
  | true =>
   rw [hf] at c2
   have HEQ:Hid (cmS c ws (ws.length + 2) (exS ws kLB s) = st):=hide (by rw [uh heq];exact cmS_stop _ (by simp [hf]))
   clear hf heq hok
   go_wp2_with fail
   refine (expect_any kRB (by decide) (uh HI)).mono ?_
   rintro e w2 ⟨rfl,hI2,hS2⟩
   have HI2:=hide hI2
   have HS2:=hide ((uh HS).trans hS2)
   clear hI2 hS2
   go_wp2_with fail
   go_end0
   exact ⟨rfl,F2,by rw [uh HEQ];exact uh HI2,uh HS2⟩
  | false =>
   rw [hf] at c2
   cases hb:acB ws kRB st with
   | true =>
    have hb':((pk ws st).toList == kRB.toList) = true:=hb
    rw [show kRB.toList = [125] from (ByteArray.toList_eq _)] at hb'
    have HEQ:Hid (cmS c ws (ws.length + 2) (exS ws kLB s) = st):=hide (by rw [uh heq];exact cmS_stop _ (by simp [hb]))
    clear hf hb heq hok
    go_wp2_with (go_at_call 160;refine (uh HK).mono ?_;rintro e w' ⟨rfl,nn,rfl⟩)
    refine (expect_any kRB (by decide) (w:=wr.drewN nn) ⟨(uh HI).m.drewN nn,(uh HI).f⟩).mono ?_
    rintro e w2 ⟨rfl,hI2,hS2⟩
    have HI2:=hide hI2
    have HS2:=hide (((uh HS).drewN nn).trans hS2)
    clear hI2 hS2
    go_wp2_with fail
    go_end0
    exact ⟨rfl,F2,by rw [uh HEQ];exact uh HI2,uh HS2⟩
   | false =>
    have hb':((pk ws st).toList == kRB.toList) = false:=hb
    rw [show kRB.toList = [125] from (ByteArray.toList_eq _)] at hb'
    obtain ⟨o1,o2,o3⟩:=uh hok hf
    have hps:=(uh HI).f.2.1
    obtain ⟨m,rfl⟩:∃ m,gk = m + 1:=⟨gk - 1,by omega⟩
    have HEQ:Hid (cmS c ws (ws.length + 2) (exS ws kLB s) = cmS c ws m (c st)):=hide (by rw [uh heq];exact cmS_go _ (by simp [hb,hf]))
    have HF:=hide hf
    clear hf hb heq hok
    go_wp2_with (go_at_call 160;refine (uh HK).mono ?_;rintro e w' ⟨rfl,nn,rfl⟩)
    refine (uh HCMD (wr.drewN nn) st F2 ⟨(uh HI).m.drewN nn,(uh HI).f⟩ (uh HF) o1 o3).mono ?_
    rintro e w2 ⟨rfl,F3,hI2,hS2⟩
    have HI2:=hide hI2
    have HS2:=hide (((uh HS).drewN nn).trans hS2)
    clear hI2 hS2
    go_wp2_with fail
    obtain ⟨d1,d2,d3⟩:=uh HC st
    go_roundg m
    case measure=>omega
    case rel =>
     refine ⟨c st,F3,uh HI2,uh HS2,by omega,uh HEQ,fun hcf=>?_⟩
     have:=d2 hcf
     rw [fb_ok hcf] at d3
     exact ⟨by omega,by omega,by omega⟩
theorem block_ok (f:Nat):BlkOK B WV P ws (blS ws f) f:=by
 induction f with
 | zero =>
  intro w s F h hfu hphi
  have hps:=h.f.2.1
  have hf:s.failed = true:=by
   cases hf:s.failed with
   | true=>rfl
   | false=>have:=hfu hf;omega
  have hw:=block_walk (c:=PS.adv) (n:=0) (B:=B) (P:=P) (ws:=ws) (s:=s) (F:=F) (w:=w) (fun _ st _ hi _ hlt _=>by have:=hi.f.2.1;omega) (fun s=>⟨adv_pos,fun _=>Nat.lt_succ_self _,by show s.nodes.length + 2 * s.pos≤s.nodes.length + 2 * (s.pos + 1) + _;omega⟩) hfu hphi h
  rw [exS_failed (by decide) hf,cmS_stop _ (by simp [hf]),exS_failed (by decide) hf] at hw
  exact hw
 | succ f ih =>
  intro w s F h hfu hphi
  exact block_walk (n:=f + 1) (fun w st F hi _ hlt hph=>command_any ih (blS_good f) hlt hph hi) (fun s=>⟨(cmB_good (blS_good f)).1,fun h=>((cmB_good (blS_good f)).2.2.1 h).2,(cmB_good (blS_good f)).2.2.2⟩) hfu hphi h
end
def kPre:ByteArray:=⟨#[112,114,101]⟩
def ndEnd:Nd:=⟨0,0,0,0,0,0⟩
def finS (ws:List ByteArray) (s:PS):PS:=if s.pos = ws.length then s else s.fail
def prT (ws:List ByteArray) (s:PS):PS:=addS ndEnd (blS ws (ws.length + 1) (foS ws (exS ws kPre s)))
def prS (ws:List ByteArray) (s:PS):PS:=if (prT ws s).pos = ws.length then prT ws s else (prT ws s).fail
def prA (ws:List ByteArray) (s:PS):List Atm:=foA ws (exS ws kPre s)
section
variable {B:Nat} {WV:Value} {w:World} {P:Nat} {ws:List ByteArray} {s:PS} {F:List Nat} {wv vv hv nv:Value} {g cap:Nat}
theorem liS_nodes:(liS ws s).nodes = s.nodes:=by unfold liS liS2 liS1;rw [exS_nodes,teS_nodes,exS_nodes,teS_nodes,exS_nodes]
theorem relS_nodes:(relS ws s).nodes = s.nodes:=by unfold relS;split;rfl;split;rfl;exact exS_nodes _
theorem atS_nodes:(atS ws s).nodes = s.nodes:=by
 unfold atS;split;rfl;split
 ·rw [liS_nodes];rfl
 ·rw [teS_nodes,relS_nodes,teS_nodes]
theorem foG_nodes (n:Nat):∀ s,(foG ws n s).2.nodes = s.nodes:=by
 induction n with
 | zero=>intro s;rfl
 | succ n ih =>
  intro s
  simp only [foG]
  split
  ·show (foG ws n (atS ws s.adv)).2.nodes = s.nodes
   rw [ih,atS_nodes];rfl
  ·rfl
theorem foS_nodes:(foS ws s).nodes = s.nodes:=by unfold foS;rw [foG_nodes,atS_nodes]
theorem add_end (h:IsQ B WV w P ws s F) (hn:s.nodes.length≤100000) :
  Calls Tryz.prog 123 #[.pointer (some ⟨P,0,none⟩),.agg #[.int .i64 0,.int .i64 0,.int .i64 0,.int .i64 0,.int .i64 0,.int .i64 0]] w fun e w'=>e = .returned (.int .i64 s.nodes.length)∧∃ F',IsQ B WV w' P ws (addS ndEnd s) F'∧Stp F w F' w' :=
 add_any ndEnd h hn
theorem IsPv.read0 (h:IsPv B WV w P ws s F wv vv hv nv):w.cell? ⟨P,0,none⟩ = some wv∧∃ ao cap,wv = .slice ao ws.length cap :=
 ⟨(cells6 h.1).1.1,slice_of_own h.2.2.1⟩
theorem rowBase {w:World} {B B':Nat} {e:TypeId} {sz n:Nat} {v:Value} {xs:List Value} (h:w.ownsRow B e sz v n xs) (hB:B'≤B):w.ownsRow B' e sz v n xs:=by
 refine ⟨h.1,?_⟩
 rcases h.2 with hn | ⟨g,cap,cur,rfl,hb,rest⟩
 ·exact .inl hn
 ·exact .inr ⟨g,cap,cur,rfl,by omega,rest⟩
set_option maxRecDepth 100000 in
set_option maxHeartbeats 1000000 in
theorem finish_any (h:IsQ B WV w P ws s F) :
  Calls Tryz.prog 124 #[.pointer (some ⟨P,0,none⟩)] w fun e w'=>e = .returned (.tuple #[])∧IsQ B WV w' P ws (finS ws s) F∧Stp F w F w':=by
 have HI:=hide h
 have hp:=h.f.2.1
 have hl:=h.f.1
 obtain ⟨wv,vv,hv,nv,hpv⟩:=h.m.named
 obtain ⟨c0,ao,cap,rfl⟩:=hpv.read0
 obtain ⟨c1,_,_,_,_,fz⟩:=hpv.readsV
 have f2:=fz 2
 have c2:=h.m.reads.2.1
 clear hpv fz h
 by_cases hpe:s.pos = ws.length
 ·have HS:Hid (finS ws s = s):=hide (if_pos hpe)
  have hd:((s.pos:Int) != (ws.length:Int)) = false:=by simp [hpe]
  clear hpe
  go_enter Tryz.func124,Tryz.ntmps124
  go_wp2_with fail
  go_quiet (fail)
  go_wp2_with fail
  go_end0
  exact ⟨rfl,by rw [uh HS];exact ⟨(uh HI).m.drewN _,(uh HI).f⟩,(Stp.refl F w).drewN _⟩
 ·have HS:Hid (finS ws s = s.fail):=hide (if_neg hpe)
  have hd:((s.pos:Int) != (ws.length:Int)) = true:=by rw [bne_iff_ne];omega
  clear hpe
  go_enter Tryz.func124,Tryz.ntmps124
  go_wp2_with fail
  go_quiet (fail)
  go_wp2_with fail
  go_end0
  exact ⟨rfl,by rw [uh HS];exact ⟨((uh HI).m.drewN _).setFailed true,(uh HI).f⟩,((Stp.refl F w).drewN _).setCell (Or.inl (uh HI).m.memP) _⟩
set_option maxRecDepth 100000 in
set_option maxHeartbeats 4000000 in
theorem program_any (h:IsQ B WV w P ws s F) (hn0:s.nodes = []) :
  Calls Tryz.prog 69 #[.pointer (some ⟨P,0,none⟩)] w fun e w'=>∃ v F',e = .returned v∧IsQ B WV w' P ws (prS ws s) F'∧Stp F w F' w' ∧
   w'.ownsRow w.heap.size 239 5 v (prA ws s).length (atCells (prA ws s))∧(∀ k,v.ownBlock = some k→k ∉ F'):=by
 have HQ:=hide h
 have hl:=h.f.1
 clear h
 have hnl:(foS ws (exS ws kPre s)).nodes.length = 0:=by rw [foS_nodes,exS_nodes,hn0];rfl
 have k2:=(blS_good (ws:=ws) (ws.length + 1)).nodes (foS ws (exS ws kPre s))
 have k3:=(blS_good (ws:=ws) (ws.length + 1)).phi (foS ws (exS ws kPre s))
 have k4:=fb_le (blS ws (ws.length + 1) (foS ws (exS ws kPre s)))
 clear hn0
 go_enter Tryz.func69,Tryz.ntmps69
 go_wp2_with fail
 refine (expect_any kPre (by decide) (uh HQ)).mono ?_
 rintro e w1 ⟨rfl,hI1,hS1⟩
 have HI1:=hide hI1
 have HS1:=hide hS1
 clear hI1 hS1
 go_wp2_with fail
 refine (formula_any (uh HI1)).mono ?_
 rintro e w2 ⟨v,F2,rfl,hI2,hS2,hown2,hout2⟩
 have HI2:=hide hI2
 have HS2:=hide ((uh HS1).trans hS2)
 have HW2:=hide hown2
 have HU2:=hide hout2
 have hz1:=(uh HS1).size
 clear hI2 hS2 hown2 hout2
 go_wp2_with fail
 refine (block_ok (ws.length + 1) w2 _ F2 (uh HI2) (fun _=>by omega) (by omega)).mono ?_
 rintro e w3 ⟨rfl,F3,hI3,hS3⟩
 have hp3:=hI3.f.2.1
 have HW3:=hide (rowStep (uh HW2) hS3 (uh HU2))
 have HU3:Hid (∀ k,v.ownBlock = some k→k ∉ F3):=hide (fun k hk hm=>by
  rcases hS3.foot k hm with h | h
  ·exact uh HU2 k hk h
  ·have:=((uh HW2).lt k hk).2;omega)
 have HI3:=hide hI3
 have HS3:=hide ((uh HS2).trans hS3)
 clear hI3 hS3
 go_wp2_with fail
 refine (add_end (uh HI3) (by omega)).mono ?_
 rintro e w4 ⟨rfl,F4,hI4,hS4⟩
 have HW4:=hide (rowStep (uh HW3) hS4 (uh HU3))
 have HU4:Hid (∀ k,v.ownBlock = some k→k ∉ F4):=hide (fun k hk hm=>by
  rcases hS4.foot k hm with h | h
  ·exact uh HU3 k hk h
  ·have:=((uh HW3).lt k hk).2;omega)
 have HI4:Hid (IsQ B WV w4 P ws (prT ws s) F4):=hide hI4
 have HS4:=hide ((uh HS3).trans hS4)
 clear hI4 hS4
 go_wp2_with fail
 refine (finish_any (uh HI4)).mono ?_
 rintro e w5 ⟨rfl,hI5,hS5⟩
 have HW5:=hide (rowStep (uh HW4) hS5 (uh HU4))
 have HI5:Hid (IsQ B WV w5 P ws (prS ws s) F4):=hide hI5
 have HS5:=hide ((uh HS4).trans hS5)
 clear hI5 hS5
 go_wp2_with fail
 go_ret
 exact ⟨v,F4,rfl,uh HI5,uh HS5,rowBase (uh HW5) hz1,uh HU4⟩
end
end Go.Proofs.YtciihepbeacppaaGreat
