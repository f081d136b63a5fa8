import Derived.Test.YtciihepbeacppaaGreatM12
import Derived.Test.YtciihepbeacppaaGreatIE
import Derived.Test.YtciihepbeacppaaGreatM25
import Derived.Test.YtciihepbeacppaaGreatM13
import Derived.Deep.RegionHeld3
namespace Go.Proofs.YtciihepbeacppaaGreat
open Go.RowKit
set_option linter.unusedVariables false
def KnB (s:Sr):Prop:=∀ l∈s.kn,l.length≤big + 1
theorem layS_kb {c:Cd} {n:Nat} {f:CF} {s:Sr} (h:KnB s) (hok:(layS c n f s).ok = true):KnB (layS c n f s):=by
 have hb:=(layS_mono hok).2
 unfold layS
 split
 ·exact h
 ·show ∀ l∈s.kn.set n ((knA s n).filter (fun e=>!wiB e.f (layN c n f)) ++ [⟨layN c n f,false⟩]),l.length≤big + 1
  intro l hl
  rcases List.mem_or_eq_of_mem_set hl with p | p
  ·exact h l p
  ·rw [p,List.length_append,List.length_singleton]
   have:=List.length_filter_le (fun e=>!wiB e.f (layN c n f)) (knA s n)
   omega
theorem layF_kb {c:Cd} {n:Nat}:∀ (l:List CF) {s:Sr},KnB s→(l.foldl (fun s g=>layS c n g s) s).ok = true→KnB (l.foldl (fun s g=>layS c n g s) s)
 | [],_,h,_=>h
 | _ :: l,_,h,hok=>layF_kb l (layS_kb h (layF_mono l hok)) hok
theorem arS_kb {c:Cd} {fuel a b:Nat} {f:CF} {s:Sr} (hf:Td f) (h:KnB s) (hok:(arS c fuel a b f s).ok = true):KnB (arS c fuel a b f s):=by
 unfold arS at hok ⊢
 split
 ·rename_i hc
  rw [if_pos hc] at hok
  exact layS_kb h hok
 ·rename_i hc
  rw [if_neg hc] at hok
  have h1:CsOk [f]:=fun x hx=>by rw [List.mem_singleton] at hx;subst hx;exact hf
  obtain ⟨-,g2,-⟩:=fgN_ok (c:=c) fuel 0 (r:=([f],wrS a 2 s)) (res:=[]) h1 (fun x hx=>by simp at hx)
  refine layF_kb _ ?_ hok
  unfold KnB
  rw [g2]
  exact h
theorem arF_kb {c:Cd} {fuel a b:Nat}:∀ (l:List CF) {s:Sr},CsOk l→KnB s→(l.foldl (fun s g=>arS c fuel a b g s) s).ok = true→KnB (l.foldl (fun s g=>arS c fuel a b g s) s)
 | [],_,_,h,_=>h
 | g :: l,_,hl,h,hok=>arF_kb l (fun x hx=>hl x (by simp [hx])) (arS_kb (hl g (by simp)) h (arF_mono l hok)) hok
theorem stS_kb {c:Cd} {fuel n:Nat} {f:CF} {s:Sr} (hv:(c.nds.getD n nd0).v < 4) (ha:(c.nds.getD n nd0).ai < 4) (hf:Td f) (h:KnB s) (hok:(stS c fuel n f s).ok = true):KnB (stS c fuel n f s):=by
 obtain ⟨h1,h2⟩:=efO_td hv ha hf
 unfold stS at hok ⊢
 simp only at hok ⊢
 refine arF_kb _ h2 (arF_kb _ h1 ?_ (arF_mono _ hok)) hok
 unfold KnB
 show ∀ l∈(wrI _ n 4 (wrI _ n 3 (wrI _ n 2 s))).kn,_
 rw [wrI_kn,wrI_kn,wrI_kn]
 exact h
theorem viN_kb {c:Cd} {fuel n:Nat} (hv:(c.nds.getD n nd0).v < 4) (ha:(c.nds.getD n nd0).ai < 4):∀ (l:List CF) {s:Sr},CsOk l→KnB s→(viN c fuel n l s).ok = true→KnB (viN c fuel n l s)
 | [],_,_,h,_=>h
 | f :: l,s,hl,h,hok=>by
  unfold viN at hok ⊢
  split
  ·exact h
  ·rename_i hc
   rw [if_neg hc] at hok
   exact viN_kb hv ha l (fun x hx=>hl x (by simp [hx])) (stS_kb hv ha (hl f (by simp)) h (viN_mono l hok)) hok
theorem viS_kb {c:Cd} {fuel n:Nat} (hv:(c.nds.getD n nd0).v < 4) (ha:(c.nds.getD n nd0).ai < 4) {s:Sr} (hi:InS s) (h:KnB s) (hok:(viS c fuel n s).ok = true):KnB (viS c fuel n s):=by
 unfold viS at hok ⊢
 refine viN_kb hv ha _ (fun f hf=>?_) ?_ hok
 ·unfold frE at hf
  obtain ⟨e,he,rfl⟩:=List.mem_map.1 hf
  exact hi.at n e (List.mem_filter.1 he).1
 ·show ∀ l∈s.kn.set n _,l.length≤big + 1
  intro l hl
  rcases List.mem_or_eq_of_mem_set hl with p | p
  ·exact h l p
  ·rw [p,List.length_map]
   unfold knA
   by_cases hn:n < s.kn.length
   ·rw [getD_at hn]
    exact h _ (List.getElem_mem hn)
   ·rw [List.getD_eq_getElem?_getD,List.getElem?_eq_none (by omega)]
    exact Nat.zero_le _
theorem viS_mono {c:Cd} {fuel n:Nat} {s:Sr} (hok:(viS c fuel n s).ok = true):s.ok = true:=by
 unfold viS at hok
 have h1:=viN_mono _ hok
 exact h1
theorem ruN_mono {c:Cd} {fuel:Nat}:∀ (n:Nat) {s:Sr},(ruN c fuel n s).ok = true→s.ok = true
 | 0,_,h=>by simp [ruN] at h
 | n + 1,s,h=>by
  unfold ruN at h
  split at h
  ·exact h
  ·split at h
   ·exact h
   ·exact viS_mono (ruN_mono n h)
theorem KnB.at {s:Sr} (h:KnB s) (n:Nat):(knA s n).length≤big + 1:=by
 unfold knA
 by_cases hn:n < s.kn.length
 ·rw [getD_at hn];exact h _ (List.getElem_mem hn)
 ·rw [List.getD_eq_getElem?_getD,List.getElem?_eq_none (by omega)];exact Nat.zero_le _
section
variable {w W W':World} {S:Nat} {c:Cd} {c0 hv kv wv:Value} {KV WV:List Value} {K:List (List En)} {s:Sr}
theorem Sh.inS (h:Sh w S c c0 hv kv wv KV WV K s):InS s:=by
 intro l hl e he
 rw [h.km] at hl
 obtain ⟨l0,h0,rfl⟩:=List.mem_map.1 hl
 obtain ⟨e0,h1,rfl⟩:=List.mem_map.1 he
 exact (h.dr l0 h0 e0 h1).2
theorem Sh.kb (h:Sh w S c c0 hv kv wv KV WV K s) (hb:KnB s):∀ l∈K,l.length≤big + 1:=fun l hl=>by
 have:=hb (l.map En.m) (by rw [h.km];exact List.mem_map_of_mem hl)
 rw [List.length_map] at this
 exact this
theorem Gon.low {F F' D D':List Nat} (h:Gon W W' F F' D D' []) (hb:Below w.heap.size w W) (hF:∀ k∈F,w.heap.size≤k):Below w.heap.size w W' :=
 ⟨h.st.os.trans hb.os,h.st.tape.trans hb.tape,h.st.output.trans hb.output,Nat.le_trans hb.size h.st.size,fun k hk=>(h.st.block k (Nat.lt_of_lt_of_le hk hb.size) (fun e=>by
  rw [List.append_nil] at e
  have:=hF k e
  omega)).trans (hb.block k hk)⟩
theorem Rz.from {RB vd:Nat} {av kv:Value} {al:List (Nat × Nat)} {FV:List Value} {L:List (List FE)} (h:Rz W W' RB vd av kv al FV L) (hb:Below w.heap.size w W):Rz w W' RB vd av kv al FV L :=
 ⟨h.bk,h.al,h.kr,h.ke,h.ap,fun k hk=>Nat.le_trans hb.size (h.ge k hk),hb.trans (h.bl.mono hb.size)⟩
end
def FouP (w:World) (r:Rs) (RB:Nat) (w':World):Prop:=∃ av kv FV L,Rz w w' RB r.vd av kv r.al FV L∧L.map (fun l=>l.map (fun x=>x.f)) = r.kn∧∀ l∈L,∀ x∈l,IsF w' x.A x.f x.av x.ov∧Td x.f∧∀ k∈x.bs,w.heap.size≤k
section
variable {w:World} {Q:Nat} {ws:List ByteArray} {ps:PS} {al:List Atm} {vv pv nv:Value}
set_option maxRecDepth 100000 in
set_option maxHeartbeats 16000000 in
theorem ofA_any (h:Cp w Q ws ps al vv pv nv) (hA:AOk al) (hN:NdO ps.nodes) (hnl:ps.nodes.length≤100000) (hn0:0 < ps.nodes.length) (hvl:ps.vars.length≤4) (fuel N:Nat)
  (hok:(ruN (cdO ps.nodes ps.vars.length al) fuel N (enS' (cdO ps.nodes ps.vars.length al) fuel ps.vars.length al (sr0 ps.nodes))).ok = true) :
  Calls Tryz.prog 92 #[.pointer (some ⟨Q,0,none⟩)] w fun e w'=>∃ RB,e = .returned (.pointer (some ⟨RB,0,none⟩))∧FouP w (rsO (ruN (cdO ps.nodes ps.vars.length al) fuel N (enS' (cdO ps.nodes ps.vars.length al) fuel ps.vars.length al (sr0 ps.nodes)))) RB w':=by
 obtain ⟨c,hc⟩:∃ c,c = cdO ps.nodes ps.vars.length al:=⟨_,rfl⟩
 have hcn:c.nds = ps.nodes:=by rw [hc];rfl
 rw [← hc] at hok ⊢
 obtain ⟨R,hR⟩:∃ R,R = ruN c fuel N (enS' c fuel ps.vars.length al (sr0 ps.nodes)):=⟨_,rfl⟩
 rw [← hR] at hok ⊢
 have HBE:=hide (begin_sh h hA hnl (by omega))
 rw [← hc] at HBE
 have H:=hide h
 have HA:=hide (And.intro hA (And.intro hN hcn))
 have HR:=hide hR
 have HOK:=hide hok
 obtain ⟨POST,hPOST⟩:∃ POST:Nat→World→Prop,POST = fun RB w'=>FouP w (rsO R) RB w':=⟨_,rfl⟩
 have HPOST:=hide hPOST
 rw [show (fun (e:Ending) (w':World)=>∃ RB,e = .returned (.pointer (some ⟨RB,0,none⟩))∧FouP w (rsO R) RB w') = (fun e w'=>∃ RB,e = .returned (.pointer (some ⟨RB,0,none⟩))∧POST RB w') by rw [hPOST]]
 clear h hA hN hc hcn hR hok hPOST
 go_enter Tryz.func92,Tryz.ntmps92
 go_wp2_with fail
 refine (uh HBE).mono ?_
 rintro e w1 ⟨S,rfl,hv,kv,wv,WV,hS1,hb1,hge1⟩
 have hC1:=(uh H).below hb1
 have hKl:(List.replicate ps.nodes.length ([]:List En)).length = ps.nodes.length:=List.length_replicate
 have hoke:(enS' c fuel ps.vars.length al (sr0 ps.nodes)).ok = true:=ruN_mono N (by rw [← uh HR];exact uh HOK)
 have HEN:=hide (enter_sh (fuel:=fuel) hS1 hC1 (uh HA).2.2 (uh HA).1 hvl (by rw [hKl];exact hn0) (by rw [hKl];exact hnl) hoke)
 have H1:=hide (And.intro hS1 (And.intro hb1 (And.intro hge1 hC1)))
 have hkb0:KnB (enS' c fuel ps.vars.length al (sr0 ps.nodes)):=by
  have h0:KnB (sr0 ps.nodes):=fun l hl=>by
   have:l = []:=List.eq_of_mem_replicate (show l∈List.replicate ps.nodes.length [] from hl)
   rw [this];exact Nat.zero_le _
  unfold enS' at hoke ⊢
  split
  ·exact h0
  ·rename_i hf
   rw [if_neg hf] at hoke
   exact arS_kb (enC_fok (cf_fok (uh HA).1.tm (by simpa using hf)) _).tidy h0 hoke
 have HKB:=hide hkb0
 clear hS1 hb1 hge1 hC1 hoke HBE hkb0
 go_wp2_with fail
 refine (uh HEN).mono ?_
 rintro e w2 ⟨rfl,KV2,K2,p1,p2,p3⟩
 rw [hKl] at p2
 have HPE:=hide (pending_sh p1 (by omega))
 have H2:=hide (And.intro p1 (And.intro p2 p3))
 clear p1 p2 p3 HEN
 go_wp2_with fail
 refine (uh HPE).mono ?_
 rintro e w3 ⟨rfl,hb3⟩
 have HI0:Hid (Sh w3 S c (.pointer (some ⟨Q,0,none⟩)) hv kv wv KV2 WV K2 (enS' c fuel ps.vars.length al (sr0 ps.nodes))∧K2.length = ps.nodes.length∧Gon w1 w3 (shF S hv kv wv (List.replicate ps.nodes.length vNil) WV) (shF S hv kv wv KV2 WV) (drF (List.replicate ps.nodes.length [])) (drF K2) []∧KnB (enS' c fuel ps.vars.length al (sr0 ps.nodes))∧ruN c fuel N (enS' c fuel ps.vars.length al (sr0 ps.nodes)) = R):=hide ⟨(uh H2).1.below hb3,(uh H2).2.1,(uh H2).2.2.trans (Gon.below (X:=[]) hb3) (fun k hk=>by simp at hk),uh HKB,(uh HR).symm⟩
 clear hb3 HPE H2 HKB HR
 go_wp2_with fail
 go_loopg [4] N (fun gn iv wx=>∃ (KV:List Value) (K:List (List En)) (s':Sr),iv = .int .i64 (opI (peS s'))∧Hid (Sh wx S c (.pointer (some ⟨Q,0,none⟩)) hv kv wv KV WV K s'∧K.length = ps.nodes.length∧Gon w1 wx (shF S hv kv wv (List.replicate ps.nodes.length vNil) WV) (shF S hv kv wv KV WV) (drF (List.replicate ps.nodes.length [])) (drF K) []∧KnB s'∧ruN c fuel gn s' = R))
 case atStart=>exact ⟨KV2,K2,_,rfl,HI0⟩
 case round =>
  clear HI0
  obtain ⟨KV,K,s',rfl,hI⟩:=hrel
  obtain ⟨h1,h2,h3,h4,h5⟩:=uh hI
  have c8:=h1.bs.cell 8 rfl
  have hcp:Cp wr Q ws ps al vv pv nv∧∀ k∈cpB Q vv pv nv,k ∉ shF S hv kv wv KV WV:=by
   have hlow:=h3.low (uh H1).2.1 (uh H1).2.2.1
   refine ⟨(uh H).below hlow,fun k hk e=>?_⟩
   have hk1:=(uh H).lt k hk
   rcases h3.st.foot k e with p | p
   ·rw [List.append_nil] at p
    have:=(uh H1).2.2.1 k p
    omega
   ·have:=(uh H1).2.1.size
    omega
  have HEND:Hid (s' = R→Calls Tryz.prog 143 #[.pointer (some ⟨S,0,none⟩)] wr fun e w'=>∃ RB,e = .returned (.pointer (some ⟨RB,0,none⟩))∧POST RB w'):=hide (fun e=>(result_sh h1 (by omega) (h1.kb h4)).mono (fun e2 w' hp=>by
   obtain ⟨RB,hr1,av,kv',FV,L,hr2,hr3,hr4⟩:=hp
   refine ⟨RB,hr1,?_⟩
   have hlow:=h3.low (uh H1).2.1 (uh H1).2.2.1
   rw [uh HPOST,← e]
   refine ⟨av,kv',FV,L,hr2.from hlow,hr3,fun l hl x hx=>?_⟩
   obtain ⟨l0,h0,e0,he0,rfl⟩:=hr4 l hl x hx
   have hok0:=h1.dr l0 h0 e0 he0
   refine ⟨(hok0.1.below hr2.bl).ff,hok0.2,fun k hk=>?_⟩
   have hkd:k∈drF K:=mem_drF.2 ⟨l0,h0,e0,he0,List.mem_cons_of_mem _ hk⟩
   rcases h3.dr k hkd with p | p | p
   ·obtain ⟨l2,h2',e2,he2,-⟩:=mem_drF.1 p
    rw [List.eq_of_mem_replicate h2'] at he2
    simp at he2
   ·simp at p
   ·exact Nat.le_trans (uh H1).2.1.size p))
  cases gk with
  | zero =>
   have hno:=uh HOK
   rw [← h5] at hno
   simp [ruN] at hno
  | succ g =>
   unfold ruN at h5
   cases hp:peS s' with
   | none =>
    rw [hp] at h5
    have HE:=hide (uh HEND h5)
    rw [show opI (none:Option Nat) = -1 from rfl]
    clear h1 h2 h3 h4 h5 hcp hp hI HEND
    go_wp2_with fail
    refine (uh HE).mono ?_
    rintro e w5 ⟨RB,rfl,hP⟩
    have HP:=hide hP
    clear hP HE
    go_wp2_with fail
    go_ret
    exact ⟨RB,rfl,uh HP⟩
   | some k =>
    rw [hp] at h5
    rw [show opI (some k) = (k:Int) from rfl]
    cases hfu:s'.fu
    ·rw [hfu] at c8
     simp only [hfu] at h5
     rw [if_neg (by decide)] at h5
     have hkl:k < K.length:=by
      unfold peS at hp
      rw [List.findIdx?_eq_some_iff_getElem] at hp
      obtain ⟨h9,-⟩:=hp
      rw [h1.km,List.length_map] at h9
      exact h9
     have hokv:(viS c fuel k s').ok = true:=ruN_mono g (by rw [h5];exact uh HOK)
     have hvk:(c.nds.getD k nd0).v < 4∧(c.nds.getD k nd0).ai < 4:=by rw [(uh HA).2.2];exact (uh HA).2.1.v k
     have hNc:NdO c.nds:=by rw [(uh HA).2.2];exact (uh HA).2.1
     have HVI:=hide (visit_sh (fuel:=fuel) h1 hcp.1 hcp.2 (uh HA).2.2 hNc hkl (by omega) hokv (h4.at k))
     have HKB2:=hide (viS_kb hvk.1 hvk.2 h1.inS h4 hokv)
     have HI:=hide (And.intro h2 (And.intro h3 h5))
     have hg0:decide ((0:Int)≤(k:Int)) = true:=by simp
     clear h1 h2 h3 h4 h5 hcp hp hI HEND hkl hokv hvk hNc hfu
     go_wp2_with fail
     refine (uh HVI).mono ?_
     rintro e w5 ⟨rfl,KV3,K3,p1,p2,p3⟩
     obtain ⟨h2,h3,h5⟩:=uh HI
     have hK3:=p2.trans h2
     have HPE:=hide (pending_sh p1 (by omega))
     have H5:=hide (And.intro p1 (And.intro hK3 (And.intro (h3.trans p3 (fun k hk=>by simp at hk)) (And.intro (uh HKB2) h5))))
     clear p1 p2 p3 h2 h3 h5 hK3 HVI HKB2 HI c8
     go_wp2_with fail
     refine (uh HPE).mono ?_
     rintro e w6 ⟨rfl,hb6⟩
     have HN:=hide (And.intro ((uh H5).1.below hb6) (And.intro (uh H5).2.1 (And.intro ((uh H5).2.2.1.trans (Gon.below (X:=[]) hb6) (fun k hk=>by simp at hk)) (uh H5).2.2.2)))
     clear hb6 HPE H5
     go_wp2_with fail
     go_roundg g
     case rel=>exact ⟨KV3,K3,_,rfl,HN⟩
     case measure=>omega
    ·rw [hfu] at c8
     simp only [hfu,if_true] at h5
     have HE:=hide (uh HEND h5)
     have hg0:decide ((0:Int)≤(k:Int)) = true:=by simp
     clear h1 h2 h3 h4 h5 hcp hp hI HEND hfu
     go_wp2_with fail
     refine (uh HE).mono ?_
     rintro e w5 ⟨RB,rfl,hP⟩
     have HP:=hide hP
     clear hP HE
     go_wp2_with fail
     go_ret
     exact ⟨RB,rfl,uh HP⟩
end
section
variable {w:World} {X Q:Nat} {ws:List ByteArray} {s:PS} {al:List Atm} {vv pv nv sv0 lv fv:Value} {st ls:List Int}
set_option maxRecDepth 100000 in
set_option maxHeartbeats 1000000 in
theorem lempty_any (hX:Bk w X 88 [ptrA Q,fv]):Calls Tryz.prog 53 #[.pointer (some ⟨X,0,none⟩)] w fun e w'=>e = .returned (.bool false)∧∃ n,w' = w.drewN n:=by
 have c0:w.cell? ⟨X,0,none⟩ = some (.pointer (some ⟨Q,0,none⟩)):=hX.cell 0 rfl
 clear hX
 go_enter Tryz.func53,Tryz.ntmps53
 go_wp2_with fail
 go_ret
 exact ⟨rfl,0,rfl⟩
end
def anS (nds:List Nd) (nv:Nat) (al:List Atm):Sr:=ruN (cdO nds nv al) 4000 1000000 (enS' (cdO nds nv al) 4000 nv al (sr0 nds))
def anR (nds:List Nd) (nv:Nat) (al:List Atm):Rs:=rsO (anS nds nv al)
structure An (ps:PS) (al:List Atm):Prop where
 a:AOk al
 n:NdO ps.nodes
 l:ps.nodes.length≤100000
 p:0 < ps.nodes.length
 v:ps.vars.length≤4
 ok:(anS ps.nodes ps.vars.length al).ok = true
structure Fd (W:World) (RB:Nat) (r:Rs) (av kv:Value) (FV:List Value) (L:List (List FE)):Prop where
 bk:Bk W RB 118 [.int .i64 (r.vd:Int),av,kv]
 al:W.ownsRow 0 82 2 av r.al.length (alC r.al)
 kr:W.ownsRow 0 125 1 kv L.length FV
 ke:∀ i,i < L.length→W.ownsRow 0 126 1 (FV.getD i vNil) (L.getD i []).length ((L.getD i []).map FE.p)
 km:L.map (fun l=>l.map (fun x=>x.f)) = r.kn
 fm:∀ l∈L,∀ x∈l,IsF W x.A x.f x.av x.ov∧Td x.f
def fdB (RB:Nat) (av kv:Value) (FV:List Value) (L:List (List FE)):List Nat:=fpt (rzO RB av kv FV) ++ L.flatMap (fun l=>l.flatMap FE.bs)
section
variable {w w':World} {RB:Nat} {r:Rs} {av kv:Value} {FV:List Value} {L:List (List FE)}
theorem Fd.fl (h:Fd w RB r av kv FV L):FV.length = L.length:=by have:=h.kr.1;omega
theorem Fd.lt (h:Fd w RB r av kv FV L):∀ k∈fdB RB av kv FV L,k < w.heap.size:=by
 intro k hk
 rcases List.mem_append.1 hk with hk | hk
 ·obtain ⟨i,hi⟩:=mem_fpt.1 hk
  rcases rz_in hi with ⟨-,rfl⟩ | ⟨-,e⟩ | ⟨-,e⟩ | ⟨j,hj,-,e⟩
  ·exact h.bk.lt
  ·exact (h.al.lt k e).2
  ·exact (h.kr.lt k e).2
  ·exact ((h.ke j (by rw [← h.fl];exact hj)).lt k e).2
 ·obtain ⟨l,hl,hk⟩:=List.mem_flatMap.1 hk
  obtain ⟨x,hx,hk⟩:=List.mem_flatMap.1 hk
  exact (h.fm l hl x hx).1.lt k hk
theorem Fd.of_eq (h:Fd w RB r av kv FV L) (he:∀ k∈fdB RB av kv FV L,w'.heap[k]? = w.heap[k]?):Fd w' RB r av kv FV L:=by
 have hf:=h.fl
 have h1:∀ i k,(rzO RB av kv FV)[i]? = some (some k)→w'.heap[k]? = w.heap[k]?:=fun i k hi=>he k (List.mem_append_left _ (mem_fpt.2 ⟨i,hi⟩))
 exact ⟨h.bk.of_eq (h1 0 RB rfl),ownsRow_of_eq h.al (fun k hk=>h1 1 k (congrArg some hk)),ownsRow_of_eq h.kr (fun k hk=>h1 2 k (congrArg some hk)),fun i hi=>ownsRow_of_eq (h.ke i hi) (fun k hk=>h1 _ k ((rz_k (by omega)).trans (congrArg some hk))),h.km,fun l hl x hx=>⟨(h.fm l hl x hx).1.of_eq (fun k hk=>he k (List.mem_append_right _ (List.mem_flatMap.2 ⟨l,hl,List.mem_flatMap.2 ⟨x,hx,hk⟩⟩))),(h.fm l hl x hx).2⟩⟩
theorem FouP.fd {w0:World} (h:FouP w0 r RB w):∃ av kv FV L,Fd w RB r av kv FV L∧(∀ k∈fdB RB av kv FV L,w0.heap.size≤k)∧Below w0.heap.size w0 w:=by
 obtain ⟨av,kv,FV,L,h1,h2,h3⟩:=h
 refine ⟨av,kv,FV,L,⟨h1.bk,h1.al,h1.kr,h1.ke,h2,fun l hl x hx=>⟨(h3 l hl x hx).1,(h3 l hl x hx).2.1⟩⟩,fun k hk=>?_,h1.bl⟩
 rcases List.mem_append.1 hk with hk | hk
 ·exact h1.ge k hk
 ·obtain ⟨l,hl,hk⟩:=List.mem_flatMap.1 hk
  obtain ⟨x,hx,hk⟩:=List.mem_flatMap.1 hk
  exact (h3 l hl x hx).2.2 k hk
end
structure Pa (w:World) (X Q:Nat) (ws:List ByteArray) (ps:PS) (al:List Atm) (vv pv nv:Value) (fv:Value) (Z:List Nat):Prop where
 bx:Bk w X 88 [ptrA Q,fv]
 cp:Cp w Q ws ps al vv pv nv
 fd:(fv = .pointer none∧Z = [])∨∃ RB av kv FV L,fv = .pointer (some ⟨RB,0,none⟩)∧Fd w RB (anR ps.nodes ps.vars.length al) av kv FV L∧Z = fdB RB av kv FV L
 nx:X ∉ cpB Q vv pv nv∧X ∉ Z
section
variable {w w':World} {X Q:Nat} {ws:List ByteArray} {ps:PS} {al:List Atm} {vv pv nv fv:Value} {Z:List Nat}
theorem Pa.of_eq (h:Pa w X Q ws ps al vv pv nv fv Z) (he:∀ k,k = X∨k∈cpB Q vv pv nv∨k∈Z→w'.heap[k]? = w.heap[k]?):Pa w' X Q ws ps al vv pv nv fv Z:=by
 refine ⟨h.bx.of_eq (he X (Or.inl rfl)),h.cp.of_eq (fun k hk=>he k (Or.inr (Or.inl hk))),?_,h.nx⟩
 rcases h.fd with h1 | ⟨RB,av,kv,FV,L,h1,h2,h3⟩
 ·exact Or.inl h1
 ·exact Or.inr ⟨RB,av,kv,FV,L,h1,h2.of_eq (fun k hk=>he k (Or.inr (Or.inr (by rw [h3];exact hk)))),h3⟩
theorem Pa.lt (h:Pa w X Q ws ps al vv pv nv fv Z):∀ k,k = X∨k∈cpB Q vv pv nv∨k∈Z→k < w.heap.size:=by
 rintro k (rfl | hk | hk)
 ·exact h.bx.lt
 ·exact h.cp.lt k hk
 ·rcases h.fd with ⟨-,e⟩ | ⟨RB,av,kv,FV,L,-,h2,e⟩
  ·rw [e] at hk;simp at hk
  ·rw [e] at hk;exact h2.lt k hk
theorem Pa.below (h:Pa w X Q ws ps al vv pv nv fv Z) (hb:Below w.heap.size w w'):Pa w' X Q ws ps al vv pv nv fv Z:=h.of_eq (fun k hk=>hb.block k (h.lt k hk))
def AnaP (w:World) (X Q:Nat) (ws:List ByteArray) (ps:PS) (al:List Atm) (vv pv nv:Value) (Z:List Nat) (RB:Nat) (w':World):Prop :=
 ∃ av kv FV L,Pa w' X Q ws ps al vv pv nv (.pointer (some ⟨RB,0,none⟩)) (fdB RB av kv FV L)∧Fd w' RB (anR ps.nodes ps.vars.length al) av kv FV L∧Stp [X] w [X] w'∧∀ k∈fdB RB av kv FV L,k∈Z∨w.heap.size≤k
set_option maxRecDepth 100000 in
set_option maxHeartbeats 4000000 in
theorem analyse_any (h:Pa w X Q ws ps al vv pv nv fv Z) (hA:An ps al) :
  Calls Tryz.prog 60 #[.pointer (some ⟨X,0,none⟩)] w fun e w'=>∃ RB,e = .returned (.pointer (some ⟨RB,0,none⟩))∧AnaP w X Q ws ps al vv pv nv Z RB w':=by
 have c0:w.cell? ⟨X,0,none⟩ = some (.pointer (some ⟨Q,0,none⟩)):=h.bx.cell 0 rfl
 have c1:=h.bx.cell 1 rfl
 rcases h.fd with ⟨hf,hZ⟩ | ⟨RB,av,kv,FV,L,hf,hd,hZ⟩
 ·subst hf
  have HOF:=hide (ofA_any h.cp hA.a hA.n hA.l hA.p hA.v 4000 1000000 hA.ok)
  have hXl:=h.bx.lt
  have H:=hide h
  clear h hA hZ
  go_enter Tryz.func60,Tryz.ntmps60
  go_wp2_with fail
  refine (uh HOF).mono ?_
  rintro e w1 ⟨RB,rfl,hP⟩
  obtain ⟨av,kv,FV,L,h1,h2,h3⟩:=hP.fd
  have b1:=(uh H).bx.below h3
  have d1:=b1.cell 1 rfl
  have z1:=b1.frz 1
  have b2:=b1.set 1 (.pointer (some ⟨RB,0,none⟩))
  have d2:=b2.cell 1 rfl
  have hne:∀ k,k≠X→(w1.setCell ⟨X,1,none⟩ (.pointer (some ⟨RB,0,none⟩))).heap[k]? = w1.heap[k]?:=fun k hk=>Below.heap_setCell _ _ _ _ hk
  have hPost:AnaP w X Q ws ps al vv pv nv Z RB (w1.setCell ⟨X,1,none⟩ (.pointer (some ⟨RB,0,none⟩))):=by
   have hZX:X ∉ fdB RB av kv FV L:=fun e=>by have:=h2 X e;omega
   have hF2:Fd (w1.setCell ⟨X,1,none⟩ (.pointer (some ⟨RB,0,none⟩))) RB (anR ps.nodes ps.vars.length al) av kv FV L:=h1.of_eq (fun k hk=>hne k (fun e=>hZX (by rw [← e];exact hk)))
   refine ⟨av,kv,FV,L,⟨b2,((uh H).cp.below h3).of_eq (fun k hk=>hne k (fun e=>(uh H).nx.1 (by rw [← e];exact hk))),Or.inr ⟨RB,av,kv,FV,L,rfl,hF2,rfl⟩,(uh H).nx.1,hZX⟩,hF2,((Stp.ofBw (F:=[X]) h3)).setCell (p:=⟨X,1,none⟩) (Or.inl (by simp)) _,fun k hk=>Or.inr (h2 k hk)⟩
  have HP:=hide hPost
  clear hP h1 h2 h3 b1 b2 hne hPost HOF
  go_wp2_with fail
  go_ret
  exact ⟨RB,rfl,uh HP⟩
 ·subst hf
  have HP:Hid (AnaP w X Q ws ps al vv pv nv Z RB w):=hide ⟨av,kv,FV,L,by rw [← hZ];exact h,hd,Stp.refl _ _,fun k hk=>Or.inl (by rw [hZ];exact hk)⟩
  clear h hA hd hZ
  go_enter Tryz.func60,Tryz.ntmps60
  go_wp2_with fail
  go_ret
  exact ⟨RB,rfl,uh HP⟩
set_option maxRecDepth 100000 in
set_option maxHeartbeats 4000000 in
theorem verdict_any (h:Pa w X Q ws ps al vv pv nv fv Z) (hA:An ps al) :
  Calls Tryz.prog 33 #[.pointer (some ⟨X,0,none⟩)] w fun e w'=>e = .returned (.int .i64 ((anR ps.nodes ps.vars.length al).vd:Nat))∧∃ RB,AnaP w X Q ws ps al vv pv nv Z RB w':=by
 have HEM:=hide (lempty_any h.bx)
 have HAN:Hid (∀ n,Calls Tryz.prog 60 #[.pointer (some ⟨X,0,none⟩)] (w.drewN n) fun e w'=>∃ RB,e = .returned (.pointer (some ⟨RB,0,none⟩))∧AnaP w X Q ws ps al vv pv nv Z RB w'):=hide (fun n=>(analyse_any (w:=w.drewN n) (h.of_eq (w':=w.drewN n) (fun _ _=>rfl)) hA).mono (by
  rintro e w' ⟨RB,he,av,kv,FV,L,p1,p2,p3,p4⟩
  exact ⟨RB,he,av,kv,FV,L,p1,p2,⟨p3.os,p3.tape,p3.output,p3.size,p3.block,p3.foot⟩,p4⟩))
 clear h hA
 go_enter Tryz.func33,Tryz.ntmps33
 go_wp2_with (first | (go_at_call 53;refine (uh HEM).mono ?_;rintro e w1 ⟨rfl,n,rfl⟩))
 refine (uh HAN _).mono ?_
 rintro e w2 ⟨RB,rfl,hP⟩
 have c0:w2.cell? ⟨RB,0,none⟩ = some (.int .i64 ((anR ps.nodes ps.vars.length al).vd:Nat)):=by
  obtain ⟨av,kv,FV,L,p1,p2,p3,p4⟩:=hP
  exact p2.bk.cell 0 rfl
 have HP:=hide hP
 clear hP
 go_wp2_with fail
 go_ret
 exact ⟨rfl,RB,uh HP⟩
end
theorem rd_parts {l:List UInt8} (h:rdE l = 0):l.length≤240∧spl l≠none∧(rdS l).failed = false∧(rdS l).vars.length≤4∧(rdS l).hid.length≤8:=by
 unfold rdE at h
 split at h
 ·cases h
 ·split at h
  ·cases h
  ·split at h
   ·cases h
   ·split at h
    ·cases h
    ·rename_i h1 h2 h3 h4
     exact ⟨by omega,h2,by simpa using h3,by omega,by omega⟩
theorem rdW_le {l:List UInt8} (h:spl l≠none):(rdW l).length≤l.length:=by
 cases hs:spl l with
 | none=>exact absurd hs h
 | some L =>
  have e:spl l = some ((rdW l).map (·.data.toList)):=by
   unfold rdW
   rw [hs]
   simp only [Option.getD_some,List.map_map]
   congr 1
   exact (List.map_id' L).symm
  exact (rdW_len e).1
def TeM (V H k i:Nat):Prop:=(k = 0∧i = 0)∨(k = 1∧i < V)∨(k = 2∧i < H)
structure Rdn (ws:List ByteArray) (s:PS) (M:List Nd):Prop where
 nd:s.nodes = M ++ [{ ndEnd with nx:=M.length + 1 }]
 go:GoN s.vars.length 0 M.length M
 ln:M.length≤2 * ws.length
 at_:∀ a∈prA ws ini,TeM s.vars.length s.hid.length a.lk a.li∧TeM s.vars.length s.hid.length a.rk a.ri∧a.k≤4
theorem foG_len {ws:List ByteArray}:∀ (n:Nat) (s:PS),(foG ws n s).1.length≤n
 | 0,s=>by simp [foG]
 | n + 1,s=>by
  unfold foG
  split
  ·have:=foG_len (ws:=ws) n (atS ws s.adv)
   simp only [List.length_cons]
   omega
  ·simp
theorem rd_nodes {ws:List ByteArray} (h:(prS ws ini).failed = false):∃ M,Rdn ws (prS ws ini) M:=by
 have hp:(prT ws ini).pos = ws.length:=by
  by_cases hp:(prT ws ini).pos = ws.length
  ·exact hp
  ·unfold prS at h
   rw [if_neg hp] at h
   cases h
 have hS:prS ws ini = prT ws ini:=if_pos hp
 rw [hS] at h ⊢
 obtain ⟨s1,hs1⟩:∃ s1,s1 = exS ws kPre ini:=⟨_,rfl⟩
 obtain ⟨s2,hs2⟩:∃ s2,s2 = foS ws s1:=⟨_,rfl⟩
 obtain ⟨s3,hs3⟩:∃ s3,s3 = blS ws (ws.length + 1) s2:=⟨_,rfl⟩
 have hT:prT ws ini = addS ndEnd s3:=by rw [hs3,hs2,hs1];rfl
 rw [hT] at h hp ⊢
 have hf3:s3.failed = false:=h
 have hg:=blS_good (ws:=ws) (ws.length + 1)
 have hf2:s2.failed = false:=hg.ok s2 (by rw [← hs3];exact hf3)
 obtain ⟨M,h1,h2,h2',h3⟩:=blS_ex (ws:=ws) (ws.length + 1) s2
 rw [← hs3] at h1 h2 h2' h3
 have hn2:s2.nodes = []:=by rw [hs2,par_for.nd,hs1,(exS_mo (ws:=ws) (s:=ini) kPre).1];rfl
 rw [hn2,List.nil_append] at h1
 have hphi:=hg.phi s2
 rw [← hs3,hn2,h1,fb_ok hf3] at hphi
 have hpp:s3.pos = ws.length:=hp
 refine ⟨M,?_,?_,?_,?_⟩
 ·show s3.nodes ++ [{ ndEnd with nx:=s3.nodes.length + 1 }] = _
  rw [h1]
 ·rw [hn2,h1] at h3
  exact h3
 ·simp only [List.length_nil] at hphi
  omega
 ·intro a ha
  have hL:=fo_l (ws:=ws) (s:=s1) a (by rw [hs1];exact ha)
  rw [← hs2] at hL
  have up:∀ k i,TeL s2 k i→TeM (addS ndEnd s3).vars.length (addS ndEnd s3).hid.length k i:=by
   intro k i ht
   have e1:(addS ndEnd s3).vars = s3.vars:=rfl
   have e2:(addS ndEnd s3).hid = s3.hid:=rfl
   rw [e1,e2]
   rcases ht with ht | ht | ht | ht
   ·rw [hf2] at ht;cases ht
   ·exact Or.inl ht
   ·exact Or.inr (Or.inl (by omega))
   ·exact Or.inr (Or.inr (by omega))
  exact ⟨up _ _ hL.1,up _ _ hL.2.1,hL.2.2⟩
section
variable {ws:List ByteArray} {s:PS} {M:List Nd}
theorem Rdn.get (h:Rdn ws s M) (n:Nat):(n < M.length∧∃ nd,M[n]? = some nd∧s.nodes.getD n nd0 = nd)∨(M.length≤n∧(s.nodes.getD n nd0).v = 0∧(s.nodes.getD n nd0).ai = 0∧(s.nodes.getD n nd0).op = 0):=by
 rw [h.nd]
 by_cases hn:n < M.length
 ·refine Or.inl ⟨hn,M[n],List.getElem?_eq_getElem hn,?_⟩
  rw [List.getD_eq_getElem?_getD,List.getElem?_append_left hn,List.getElem?_eq_getElem hn]
  rfl
 ·refine Or.inr ⟨by omega,?_⟩
  rw [List.getD_eq_getElem?_getD,List.getElem?_append_right (by omega)]
  cases hk:n - M.length with
  | zero=>exact ⟨rfl,rfl,rfl⟩
  | succ k=>exact ⟨rfl,rfl,rfl⟩
theorem Rdn.len (h:Rdn ws s M):s.nodes.length = M.length + 1:=by rw [h.nd,List.length_append];rfl
theorem lw4 {L i:Nat} (h:Lw L i) (hL:L≤4):i < 4:=by rcases h with h | h <;> omega
theorem Rdn.v4 (h:Rdn ws s M) (hv:s.vars.length≤4) (n:Nat):(s.nodes.getD n nd0).v < 4∧(s.nodes.getD n nd0).ai < 4:=by
 rcases h.get n with ⟨-,nd,h1,h2⟩ | ⟨-,h1,h2,-⟩
 ·rw [h2]
  exact ⟨lw4 (h.go n nd h1).1 hv,lw4 (h.go n nd h1).2.1 hv⟩
 ·rw [h1,h2]
  omega
theorem Rdn.ndo (h:Rdn ws s M) (hv:s.vars.length≤4):NdO s.nodes:=by
 refine ⟨h.v4 hv,fun n=>?_,fun n hn h0=>?_,fun n hn h0=>?_⟩
 ·rcases h.get n with ⟨-,nd,h1,h2⟩ | ⟨-,-,-,h1⟩
  ·rw [h2]
   have:=(h.go n nd h1).2.2.1
   omega
  ·rw [h1]
   omega
 ·rw [h.len]
  rcases h.get n with ⟨-,nd,h1,h2⟩ | ⟨-,-,-,h1⟩
  ·rw [h2]
   have:=(h.go n nd h1).2.2.2.1
   omega
  ·exact absurd h1 h0
 ·rw [h.len]
  rcases h.get n with ⟨-,nd,h1,h2⟩ | ⟨-,-,-,h1⟩
  ·rw [h2]
   have:=(h.go n nd h1).2.2.2.1
   omega
  ·omega
theorem any_at {nds:List Nd} (h:(List.range nds.length).any (bkJ nds) = false) {n:Nat} (hn:n < nds.length):bkJ nds n = false:=by
 rw [List.any_eq_false] at h
 have:=h n (List.mem_range.2 hn)
 simpa using this
theorem Rdn.fwd (h:Rdn ws s M) (hv:s.vars.length≤4) (hb:(List.range s.nodes.length).any (bkJ s.nodes) = false):Fwd s.nodes:=by
 refine ⟨h.v4 hv,fun n hn h0=>?_,fun n hn h0=>?_⟩
 ·have hbk:=any_at hb hn
  unfold bkJ at hbk
  rcases h.get n with ⟨hl,nd,h1,h2⟩ | ⟨-,-,-,h1⟩
  ·rw [h2] at hbk ⊢
   obtain ⟨-,-,-,-,-,g1,g2⟩:=h.go n nd h1
   by_cases h10:nd.op = 10
   ·have h3:=g2 h10
    simp only [h10,decide_true,Bool.true_and,decide_eq_false_iff_not] at hbk
    omega
   ·have h3:=g1 h10
    omega
  ·exact absurd h1 h0
 ·rcases h.get n with ⟨hl,nd,h1,h2⟩ | ⟨-,-,-,h1⟩
  ·rw [h2] at h0 ⊢
   obtain ⟨-,-,-,-,g1,-⟩:=h.go n nd h1
   have:=g1 h0
   omega
  ·exfalso
   unfold isT at h0
   rw [h1] at h0
   simp at h0
theorem teM_no {V H k i:Nat} (h:TeM V H k i) (hV:V≤4) (hH:H≤8):tNo k i < 13∧k≤2∧i≤100:=by
 unfold tNo
 rcases h with ⟨rfl,rfl⟩ | ⟨rfl,h⟩ | ⟨rfl,h⟩
 ·simp
 ·simp;omega
 ·simp;omega
theorem Rdn.aok (h:Rdn ws s M) (hw:ws.length≤240) (hv:s.vars.length≤4) (hh:s.hid.length≤8):AOk (prA ws ini):=by
 refine ⟨fun a ha=>⟨(teM_no (h.at_ a ha).1 hv hh).1,(teM_no (h.at_ a ha).2.1 hv hh).1⟩,?_,fun a ha=>?_⟩
 ·have h1:=foG_len (ws:=ws) (ws.length + 1) (atS ws (exS ws kPre ini))
  show (atA ws (exS ws kPre ini) :: (foG ws (ws.length + 1) (atS ws (exS ws kPre ini))).1).length≤1000
  simp only [List.length_cons]
  omega
 ·have h1:=teM_no (h.at_ a ha).1 hv hh
  have h2:=teM_no (h.at_ a ha).2.1 hv hh
  exact ⟨h1.2.1,h2.2.1,h1.2.2,h2.2.2⟩
end
theorem hiT_ge (m k i:Nat):m≤hiT m k i∧(k = 2→i < hiT m k i):=by unfold hiT;split <;> constructor <;> intros <;> omega
theorem hiF_ge:∀ (l:List Atm) (m:Nat),m≤l.foldl (fun m a=>hiT (hiT m a.lk a.li) a.rk a.ri) m∧∀ a∈l,(a.lk = 2→a.li < l.foldl (fun m a=>hiT (hiT m a.lk a.li) a.rk a.ri) m)∧(a.rk = 2→a.ri < l.foldl (fun m a=>hiT (hiT m a.lk a.li) a.rk a.ri) m)
 | [],m=>⟨Nat.le_refl _,fun a ha=>by simp at ha⟩
 | b :: l,m=>by
  have h1:=hiT_ge m b.lk b.li
  have h2:=hiT_ge (hiT m b.lk b.li) b.rk b.ri
  obtain ⟨h3,h4⟩:=hiF_ge l (hiT (hiT m b.lk b.li) b.rk b.ri)
  rw [List.foldl_cons]
  refine ⟨by omega,fun a ha=>?_⟩
  rcases List.mem_cons.1 ha with rfl | ha
  ·exact ⟨fun e=>by have:=h1.2 e;omega,fun e=>by have:=h2.2 e;omega⟩
  ·exact h4 a ha
theorem hiN_ge {al:List Atm} {a:Atm} (ha:a∈al):(a.lk = 2→a.li < hiN al)∧(a.rk = 2→a.ri < hiN al):=(hiF_ge al 0).2 a ha
def trS (al:List Atm) (nv:Nat):List Nat:=((0 :: (List.range nv).map (1 + ·)) ++ (List.range (hiN al)).map (5 + ·)).map (fun t=>(mrg al).getD t 0)
theorem trS_len (al:List Atm) (nv:Nat):(trS al nv).length = 1 + nv + hiN al:=by unfold trS;simp;omega
theorem trS_te {al:List Atm} {V H k i:Nat} (h:TeM V H k i) (hh:k = 2→i < hiN al):(mrg al).getD (tNo k i) 0∈trS al V:=by
 unfold trS tNo
 refine List.mem_map.2 ⟨_,?_,rfl⟩
 rcases h with ⟨rfl,rfl⟩ | ⟨rfl,h⟩ | ⟨rfl,h⟩
 ·simp
 ·simp;omega
 ·refine List.mem_append_right _ (List.mem_map.2 ⟨i,List.mem_range.2 (hh rfl),?_⟩)
  simp
section
variable {ws:List ByteArray} {s:PS} {M:List Nd}
theorem Rdn.live (h:Rdn ws s M) (hv:s.vars.length≤4):∀ c∈lvL (enC (cfOf (prA ws ini)) s.vars.length),c∈trS (prA ws ini) s.vars.length:=by
 intro c hc
 unfold lvL at hc
 rcases List.mem_append.1 hc with hc | hc
 ·have key:∀ i,i < 5→(enC (cfOf (prA ws ini)) s.vars.length).cl.getD i 0∈trS (prA ws ini) s.vars.length:=by
   intro i hi
   have e:(enC (cfOf (prA ws ini)) s.vars.length).cl.getD i 0 = if s.vars.length < i then (mrg (prA ws ini)).getD 0 0 else (mrg (prA ws ini)).getD i 0:=by
    unfold enC
    simp only [List.getD_eq_getElem?_getD,List.getElem?_map,List.getElem?_range hi,Option.map_some,Option.getD_some]
    rw [← List.getD_eq_getElem?_getD,← List.getD_eq_getElem?_getD,cl_at (show 0 < 5 by omega),cl_at hi,List.getD_eq_getElem?_getD,List.getD_eq_getElem?_getD]
   rw [e]
   unfold trS
   split
   ·exact List.mem_map.2 ⟨0,by simp,rfl⟩
   ·refine List.mem_map.2 ⟨i,List.mem_append_left _ ?_,rfl⟩
    cases i with
    | zero=>simp
    | succ i=>exact List.mem_cons_of_mem _ (List.mem_map.2 ⟨i,List.mem_range.2 (by omega),by omega⟩)
  unfold clL at hc
  simp only [List.mem_cons,List.not_mem_nil,or_false] at hc
  rcases hc with rfl | rfl | rfl | rfl | rfl
  ·exact key 0 (by omega)
  ·exact key 1 (by omega)
  ·exact key 2 (by omega)
  ·exact key 3 (by omega)
  ·exact key 4 (by omega)
 ·obtain ⟨p,hp,hc⟩:=List.mem_flatMap.1 hc
  obtain ⟨a,ha,rfl⟩:=List.mem_map.1 (show p∈((prA ws ini).filter (fun a=>a.k == 3 || a.k == 4)).map (prOf (mrg (prA ws ini))) from hp)
  have ha':=(List.mem_filter.1 ha).1
  have h1:=h.at_ a ha'
  have h2:=hiN_ge ha'
  simp only [List.mem_cons,List.not_mem_nil,or_false] at hc
  rcases hc with rfl | rfl
  ·exact trS_te h1.1 h2.1
  ·exact trS_te h1.2.1 h2.2
end
theorem siB_parts {nds:List Nd} {nv:Nat} {al:List Atm} (h:siB nds nv al = true):(List.range nds.length).any (bkJ nds) = false∧al.any (fun a=>decide (a.k = 4)) = false∧nds.countP (fun n=>decide (n.op = 7∨n.op = 8∨n.op = 9))≤5∧nv + hiN al + nds.countP (fun n=>decide (n.op = 4))≤8:=by
 unfold siB at h
 simp only [Bool.and_eq_true,Bool.not_eq_true',decide_eq_true_eq] at h
 exact ⟨h.1.1.1.1.1,h.1.1.1.1.2,h.1.1.1.2,h.2⟩
theorem hdL_none {nds:List Nd} (h:(List.range nds.length).any (bkJ nds) = false) (n:Nat):(hdL nds).getD n false = false:=by
 have key:∀ (l:List Nat) (H:List Bool),(∀ i∈l,bkJ nds i = false)→l.foldl (fun h i=>if bkJ nds i = true then h.set (nds.getD i nd0).nx true else h) H = H:=by
  intro l
  induction l with
  | nil=>intro H _;rfl
  | cons i l ih =>
   intro H hl
   rw [List.foldl_cons,if_neg (by rw [hl i (by simp)];decide)]
   exact ih H (fun j hj=>hl j (by simp [hj]))
 unfold hdL
 rw [key _ _ (fun i hi=>any_at h (List.mem_range.1 hi)),List.getD_eq_getElem?_getD,List.getElem?_replicate]
 split <;> rfl
theorem knA_sr0 (nds:List Nd) (n:Nat):knA (sr0 nds) n = []:=by
 unfold knA sr0
 rw [List.getD_eq_getElem?_getD,List.getElem?_replicate]
 split <;> rfl
theorem sumI_nil (g:Nat→List Ent→Nat) (hg:∀ n,g n [] = 0):∀ (m k:Nat),sumI g k (List.replicate m []) = 0
 | 0,k=>rfl
 | m + 1,k=>by
  rw [List.replicate_succ]
  simp only [sumI]
  rw [hg,sumI_nil g hg m (k + 1)]
theorem sumB_nil {α:Type} (g:α→Nat) (x:α) (hg:g x = 0):∀ (m:Nat),sumB g (List.replicate m x) = 0
 | 0=>rfl
 | m + 1=>by
  rw [List.replicate_succ]
  simp only [sumB]
  rw [hg,sumB_nil g x hg m]
theorem sr0_in (nds:List Nd):InS (sr0 nds):=fun l hl e he=>by
 rw [List.eq_of_mem_replicate (show l∈List.replicate nds.length [] from hl)] at he
 simp at he
theorem sr0_kb (nds:List Nd):KnB (sr0 nds):=fun l hl=>by
 rw [List.eq_of_mem_replicate (show l∈List.replicate nds.length [] from hl)]
 exact Nat.zero_le _
theorem p9 {a:Nat} (h:a≤9):9 ^ a≤387420489:=Nat.pow_le_pow_right (by omega) h
theorem p2 {a:Nat} (h:a≤5):2 ^ a≤32:=Nat.pow_le_pow_right (by omega) h
section
variable {ws:List ByteArray} {s:PS} {M:List Nd}
theorem Rdn.ok (h:Rdn ws s M) (hw:ws.length≤240) (hv:s.vars.length≤4) (hh:s.hid.length≤8):(anS s.nodes s.vars.length (prA ws ini)).ok = true:=by
 have hA:=h.aok hw hv hh
 obtain ⟨al,hal⟩:∃ al,al = prA ws ini:=⟨_,rfl⟩
 have hlv:=h.live hv
 rw [← hal] at hA hlv ⊢
 have hlen:=h.len
 have hln:=h.ln
 unfold anS
 obtain ⟨c,hc⟩:∃ c,c = cdO s.nodes s.vars.length al:=⟨_,rfl⟩
 have hcn:c.nds = s.nodes:=by rw [hc];rfl
 rw [← hc]
 cases hsi:siB s.nodes s.vars.length al with
 | true =>
  obtain ⟨hb1,hb2,hb3,hb4⟩:=siB_parts hsi
  have hS:SiC c:=⟨by rw [hc];exact hb1,by rw [hc];show (!siB s.nodes s.vars.length al) = false;rw [hsi];rfl,by rw [hc];exact hdL_none hb1,by rw [hcn];exact h.fwd hv hb1⟩
  have h0:∀ rest,rest≤big→Sml c 0 rest (sr0 s.nodes):=fun rest hr=>⟨by rw [hcn];exact List.length_replicate,fun n e he=>by rw [knA_sr0] at he;simp at he,fun n _ e he=>by rw [knA_sr0] at he;simp at he,fun n hn=>by omega,by
   have:totW c.nds (sr0 s.nodes) = 0:=sumI_nil _ (fun n=>rfl) _ _
   omega,rfl⟩
  refine ruN_sml hS 1000000 (cu:=0) ?_ (by rw [hcn];omega) (Nat.zero_le _)
  unfold enS'
  split
  ·exact h0 0 (Nat.zero_le _)
  ·rename_i hf
   have hf':falB (cfOf al) = false:=by simpa using hf
   have hfo:=enC_fok (cf_fok hA.tm hf') s.vars.length
   have hk3:K3 (enC (cfOf al) s.vars.length):=by
    intro p hp
    obtain ⟨a,ha,rfl⟩:=List.mem_map.1 (show p∈(al.filter (fun a=>a.k == 3 || a.k == 4)).map (prOf (mrg al)) from hp)
    obtain ⟨ha1,ha2⟩:=List.mem_filter.1 ha
    rw [List.any_eq_false] at hb2
    have h4:=hb2 a ha1
    show a.k = 3
    simp only [Bool.or_eq_true,beq_iff_eq] at ha2
    simp only [decide_eq_true_eq] at h4
    omega
   have hnam:namF (tdF (enC (cfOf al) s.vars.length))≤1 + s.vars.length + hiN al:=by
    have:=nam_sub hfo hlv
    rw [trS_len] at this
    exact this
   have hcN:ctA isN c.nds 0 = s.nodes.countP (fun n=>decide (n.op = 4)):=by rw [hcn];rfl
   have hcT:ctA isT c.nds 0 = s.nodes.countP (fun n=>decide (n.op = 7∨n.op = 8∨n.op = 9)):=by rw [hcn];rfl
   have hsm:SmF c.nds 0 (tdF (enC (cfOf al) s.vars.length)):=⟨hfo.tidy,hk3.td,by omega⟩
   have hwt:wtF c.nds 0 (tdF (enC (cfOf al) s.vars.length))≤big:=by
    unfold wtF
    have h1:=p9 hsm.nm
    have h2:=p2 (show ctA isT c.nds 0≤5 by omega)
    exact Nat.le_trans (Nat.mul_le_mul h1 h2) (by unfold big;omega)
   unfold arS
   rw [if_pos (Or.inl hS.lp)]
   exact layS_sml hS (Nat.le_refl _) hsm (h0 _ (by omega))
 | false =>
  have hb:c.bd = true:=by rw [hc];show (!siB s.nodes s.vars.length al) = true;rw [hsi];rfl
  have hV:NdV c:=by intro n;rw [hcn];exact h.v4 hv n
  have he0:entE (sr0 s.nodes) = 0:=sumB_nil (α:=List Ent) List.length [] rfl s.nodes.length
  have hu0:undU (sr0 s.nodes) = 0:=sumB_nil (α:=List Ent) (fun l:List Ent=>l.countP (fun e:Ent=>!e.d)) [] rfl s.nodes.length
  have hlf0:(sr0 s.nodes).lf = 3000:=rfl
  have h0:Gd 1152 (sr0 s.nodes):=⟨by rw [he0,hlf0];decide,by rw [hlf0];decide,fun _=>by rw [hlf0];decide,rfl⟩
  unfold enS'
  split
  ·exact ruN_gd hb hV (by omega) 1000000 (sr0_in _) (h0.wide (by omega)) (by rw [hu0,hlf0];decide) (by omega)
  ·rename_i hf
   have hf':falB (cfOf al) = false:=by simpa using hf
   have htd:=(enC_fok (cf_fok hA.tm hf') s.vars.length).tidy
   obtain ⟨g1,g2⟩:=arS_gd hb (fuel:=4000) (a:=c.nds.length - 1) (b:=0) (by omega) (Nat.le_refl 1152) (by omega) htd h0 (by rw [hlf0];decide)
   refine ruN_gd hb hV (by omega) 1000000 (arS_in htd (sr0_in _)) (g1.wide (by omega)) ?_ (by omega)
   rw [hu0,hlf0] at g2
   omega
end
theorem an_read {l:List UInt8} (h:rdE l = 0):An (rdS l) (prA (rdW l) ini):=by
 obtain ⟨h1,h2,h3,h4,h5⟩:=rd_parts h
 have hw:=rdW_le h2
 obtain ⟨M,hM⟩:=rd_nodes (ws:=rdW l) h3
 have hl:=hM.len
 have hln:=hM.ln
 exact ⟨hM.aok (by omega) h4 h5,hM.ndo h4,by show (prS (rdW l) ini).nodes.length≤_;omega,by show 0 < (prS (rdW l) ini).nodes.length;omega,h4,hM.ok (by omega) h4 h5⟩
theorem viN_in {c:Cd} {fuel n:Nat} (hv:(c.nds.getD n nd0).v < 4) (ha:(c.nds.getD n nd0).ai < 4):∀ (l:List CF) {s:Sr},CsOk l→InS s→InS (viN c fuel n l s)
 | [],s,_,h=>h
 | f :: r,s,hl,h=>by
  unfold viN
  split
  ·exact h
  ·exact viN_in hv ha r (fun x hx=>hl x (by simp [hx])) (stS_in hv ha (hl f (by simp)) h)
theorem viS_in {c:Cd} {fuel n:Nat} (hv:(c.nds.getD n nd0).v < 4) (ha:(c.nds.getD n nd0).ai < 4) {s:Sr} (h:InS s):InS (viS c fuel n s):=by
 unfold viS
 refine viN_in hv ha _ (frE_ok (h.at n)) ?_
 exact h.set n (fun e he=>by
  obtain ⟨x,hx,rfl⟩:=List.mem_map.1 he
  exact h.at n x hx)
theorem ruN_kb {c:Cd} {fuel:Nat} (hV:NdV c):∀ (n:Nat) {s:Sr},InS s→KnB s→(ruN c fuel n s).ok = true→KnB (ruN c fuel n s)∧InS (ruN c fuel n s)
 | 0,s,_,_,h=>by cases h
 | n + 1,s,hi,hk,h=>by
  unfold ruN at h ⊢
  split
  ·exact ⟨hk,hi⟩
  ·rename_i k hp
   rw [hp] at h
   dsimp only at h
   split
   ·exact ⟨hk,hi⟩
   ·rename_i hf
    rw [if_neg hf] at h
    exact ruN_kb hV n (viS_in (hV k).1 (hV k).2 hi) (viS_kb (hV k).1 (hV k).2 hi hk (ruN_mono n h)) h
section
variable {c:Cd} {fuel n:Nat} {s:Sr}
theorem wrS_wl (n k:Nat) (s:Sr):(wrS n k s).wr.length = s.wr.length:=by unfold wrS;simp
theorem wrI_wl (b:Bool) (n k:Nat) (s:Sr):(wrI b n k s).wr.length = s.wr.length:=by
 unfold wrI
 split
 ·exact wrS_wl _ _ _
 ·rfl
theorem layS_wl (f:CF):(layS c n f s).wr.length = s.wr.length:=by unfold layS;split <;> rfl
theorem layF_wl:∀ (l:List CF) {s:Sr},(l.foldl (fun s g=>layS c n g s) s).wr.length = s.wr.length
 | [],_=>rfl
 | f :: l,s=>by rw [List.foldl_cons,layF_wl l,layS_wl]
theorem fold_wl {β:Type} (g:List CF × Sr→β→List CF × Sr) (hg:∀ r b,(g r b).2.wr = r.2.wr):∀ (l:List β) (r:List CF × Sr),(l.foldl g r).2.wr = r.2.wr
 | [],_=>rfl
 | b :: l,r=>by rw [List.foldl_cons,fold_wl g hg l,hg]
theorem fnG_wr (r:List CF × Sr) (g:CF):(fnG c r g).2.wr = r.2.wr:=by unfold fnG;split <;> rfl
theorem fnS_wr {f:CF} {i:Nat} (r:List CF × Sr) (a:Nat):(fnS c f i r a).2.wr = r.2.wr:=by
 unfold fnS
 split
 ·exact fold_wl _ fnG_wr _ _
 ·rfl
theorem fndF_wr {f:CF} (r:List CF × Sr) (i:Nat):(fndF c f r i).2.wr = r.2.wr:=fold_wl _ fnS_wr _ _
theorem fgN_wr:∀ (n k:Nat) (res:List CF) (r:List CF × Sr),(fgN c n k res r).2.wr = r.2.wr
 | 0,_,_,_=>rfl
 | n + 1,k,res,r=>by
  unfold fgN
  split
  ·rw [fgN_wr n]
   unfold fgS
   split
   ·rfl
   ·exact fold_wl _ fndF_wr _ _
  ·rfl
theorem arS_wl {a b:Nat} (f:CF):(arS c fuel a b f s).wr.length = s.wr.length:=by
 unfold arS
 split
 ·exact layS_wl _
 ·dsimp only
  rw [layF_wl,fgN_wr]
  exact wrS_wl _ _ _
theorem arF_wl {a b:Nat}:∀ (l:List CF) {s:Sr},(l.foldl (fun s g=>arS c fuel a b g s) s).wr.length = s.wr.length
 | [],_=>rfl
 | f :: l,s=>by rw [List.foldl_cons,arF_wl l,arS_wl]
theorem stS_wl (f:CF):(stS c fuel n f s).wr.length = s.wr.length:=by
 unfold stS
 dsimp only
 rw [arF_wl,arF_wl]
 show (wrI _ _ _ _).wr.length = _
 rw [wrI_wl,wrI_wl,wrI_wl]
theorem viN_wl:∀ (l:List CF) {s:Sr},(viN c fuel n l s).wr.length = s.wr.length
 | [],_=>rfl
 | f :: l,s=>by
  unfold viN
  split
  ·rfl
  ·rw [viN_wl l,stS_wl]
theorem ruN_wl:∀ (k:Nat) {s:Sr},(ruN c fuel k s).wr.length = s.wr.length
 | 0,_=>rfl
 | k + 1,s=>by
  unfold ruN
  split
  ·rfl
  ·split
   ·rfl
   ·rw [ruN_wl k]
    unfold viS
    rw [viN_wl]
end
theorem an_kb {ps:PS} {al:List Atm} (h:An ps al):KnB (anS ps.nodes ps.vars.length al)∧InS (anS ps.nodes ps.vars.length al):=by
 have hok:=h.ok
 unfold anS at hok ⊢
 obtain ⟨c,hc⟩:∃ c,c = cdO ps.nodes ps.vars.length al:=⟨_,rfl⟩
 rw [← hc] at hok ⊢
 have hV:NdV c:=fun n=>by rw [hc];exact h.n.v n
 have hoke:=ruN_mono _ hok
 have h0:KnB (enS' c 4000 ps.vars.length al (sr0 ps.nodes))∧InS (enS' c 4000 ps.vars.length al (sr0 ps.nodes)):=by
  unfold enS' at hoke ⊢
  split
  ·exact ⟨sr0_kb _,sr0_in _⟩
  ·rename_i hf
   rw [if_neg hf] at hoke
   have ht:=(enC_fok (cf_fok h.a.tm (by simpa using hf)) ps.vars.length).tidy
   exact ⟨arS_kb ht (sr0_kb _) hoke,arS_in ht (sr0_in _)⟩
 exact ruN_kb hV _ h0.2 h0.1 hok
theorem an_wl (nds:List Nd) (nv:Nat) (al:List Atm):(anS nds nv al).wr.length = nds.length:=by
 unfold anS
 rw [ruN_wl]
 unfold enS'
 split
 ·exact List.length_replicate
 ·rw [arS_wl];exact List.length_replicate
theorem an_alarms {ps:PS} {al:List Atm} (h:An ps al):(anR ps.nodes ps.vars.length al).al.length≤1000000:=by
 unfold anR rsO
 split
 ·exact Nat.zero_le _
 ·show (alL (anS ps.nodes ps.vars.length al).wr).length≤_
  rw [← alK_all]
  have h1:=alK_len (anS ps.nodes ps.vars.length al).wr (anS ps.nodes ps.vars.length al).wr.length
  have h2:=h.l
  rw [an_wl] at h1 ⊢
  omega
theorem an_lists {ps:PS} {al:List Atm} (h:An ps al):∀ l∈(anR ps.nodes ps.vars.length al).kn,l.length≤1000000000001:=by
 unfold anR rsO
 split
 ·intro l hl;simp at hl
 ·intro l hl
  obtain ⟨x,hx,rfl⟩:=List.mem_map.1 (show l∈(anS ps.nodes ps.vars.length al).kn.map (fun l=>l.map (·.f)) from hl)
  rw [List.length_map]
  exact (an_kb h).1 x hx
structure Wd (x:List UInt8):Prop where
 ne:x≠[]
 hd:∀ c r,x = c :: r→¬ (c = 32∨c = 10)
 wl:wordLen x = x.length
 wr:∀ r,wordLen (x ++ 32 :: r) = x.length
theorem let32:letB 32 = false:=by decide
theorem takeW_all:∀ (l:List UInt8) (r:List UInt8),(l.takeWhile letB ++ 32 :: r).takeWhile letB = l.takeWhile letB
 | [],r=>by simp [let32]
 | c :: l,r=>by
  rw [List.takeWhile_cons]
  split
  ·rename_i h
   rw [List.cons_append,List.takeWhile_cons,if_pos h,takeW_all l r]
  ·rw [List.nil_append,List.takeWhile_cons,let32];rfl
theorem takeW_self:∀ (l:List UInt8),(l.takeWhile letB).takeWhile letB = l.takeWhile letB
 | []=>rfl
 | c :: l=>by
  rw [List.takeWhile_cons]
  split
  ·rename_i h
   rw [List.takeWhile_cons,if_pos h,takeW_self l]
  ·rfl
theorem take_tw:∀ (l:List UInt8),l.take (l.takeWhile letB).length = l.takeWhile letB
 | []=>rfl
 | c :: l=>by
  rw [List.takeWhile_cons]
  split
  ·rw [List.length_cons,List.take_succ_cons,take_tw l]
  ·rfl
theorem wd_of {c:UInt8} {r:List UInt8} (hb:¬ (c = 32∨c = 10)) (h0:wordLen (c :: r)≠0):Wd ((c :: r).take (wordLen (c :: r))):=by
 have hne:(c :: r).take (wordLen (c :: r))≠[]:=by
  cases hw:wordLen (c :: r) with
  | zero=>exact absurd hw h0
  | succ n=>simp
 have hhd:∀ d t,(c :: r).take (wordLen (c :: r)) = d :: t→¬ (d = 32∨d = 10):=by
  intro d t e
  cases hw:wordLen (c :: r) with
  | zero=>exact absurd hw h0
  | succ n =>
   rw [hw,List.take_succ_cons] at e
   injection e with e1 e2
   rw [← e1]
   exact hb
 by_cases hl:0 < lettersN (c :: r)
 ·have e:wordLen (c :: r) = lettersN (c :: r):=by unfold wordLen;rw [if_pos hl]
  have e2:(c :: r).take (wordLen (c :: r)) = (c :: r).takeWhile letB:=by rw [e];exact take_tw _
  rw [e2] at hne hhd ⊢
  have hpos:0 < ((c :: r).takeWhile letB).length:=hl
  refine ⟨hne,hhd,?_,fun t=>?_⟩
  ·have h1:lettersN ((c :: r).takeWhile letB) = ((c :: r).takeWhile letB).length:=by unfold lettersN;rw [takeW_self]
   unfold wordLen
   rw [h1,if_pos hpos]
  ·have h1:lettersN ((c :: r).takeWhile letB ++ 32 :: t) = ((c :: r).takeWhile letB).length:=by unfold lettersN;rw [takeW_all]
   unfold wordLen
   rw [h1,if_pos hpos]
 ·by_cases h2:(c :: r).take 2 = [45,62]∨(c :: r).take 2 = [33,61]
  ·have e:wordLen (c :: r) = 2:=by unfold wordLen;rw [if_neg hl,if_pos h2]
   rw [e] at hne hhd ⊢
   refine ⟨hne,hhd,?_,fun t=>?_⟩
   ·rcases h2 with h2 | h2 <;> rw [h2] <;> decide
   ·rcases h2 with h2 | h2
    ·rw [h2];unfold wordLen
     rw [if_neg (by show ¬ 0 < (List.takeWhile letB (45 :: 62 :: 32 :: t)).length;rw [List.takeWhile_cons,show letB 45 = false by decide];simp),if_pos (Or.inl (by rfl))];rfl
    ·rw [h2];unfold wordLen
     rw [if_neg (by show ¬ 0 < (List.takeWhile letB (33 :: 61 :: 32 :: t)).length;rw [List.takeWhile_cons,show letB 33 = false by decide];simp),if_pos (Or.inr (by rfl))];rfl
  ·have e:wordLen (c :: r) = if signB c.toNat then 1 else 0:=by unfold wordLen;rw [if_neg hl,if_neg h2]
   have hs:signB c.toNat = true:=by
    cases hs:signB c.toNat with
    | true=>rfl
    | false=>rw [e,hs] at h0;simp at h0
   have e1:wordLen (c :: r) = 1:=by rw [e,hs];rfl
   have hlc:letB c = false:=by
    cases hc:letB c with
    | false=>rfl
    | true=>exfalso;apply hl;unfold lettersN;rw [List.takeWhile_cons,hc];simp
   have hln:∀ t,¬ 0 < lettersN (c :: t):=fun t=>by unfold lettersN;rw [List.takeWhile_cons,hlc];simp
   rw [e1] at hne hhd ⊢
   refine ⟨hne,hhd,?_,fun t=>?_⟩
   ·show wordLen [c] = 1
    unfold wordLen
    rw [if_neg (hln []),if_neg (by simp)]
    show (if signB c.toNat = true then 1 else 0) = 1
    rw [hs];rfl
   ·show wordLen (c :: 32 :: t) = 1
    unfold wordLen
    rw [if_neg (hln _),if_neg (by simp)]
    show (if signB c.toNat = true then 1 else 0) = 1
    rw [hs];rfl
theorem splF_wd:∀ (f:Nat) (l:List UInt8) (L:List (List UInt8)),splitF f l = some L→∀ x∈L,Wd x
 | _,[],L,h=>by
  have:L = []:=by cases ‹Nat› <;> simpa [splitF] using h.symm
  rw [this]
  intro x hx
  simp at hx
 | 0,_ :: _,L,h=>by simp [splitF] at h
 | f + 1,c :: r,L,h=>by
  simp only [splitF] at h
  split at h
  ·exact splF_wd f r L h
  ·rename_i hb
   split at h
   ·cases h
   ·rename_i h0
    obtain ⟨L',h1,rfl⟩:=Option.map_eq_some_iff.1 h
    intro x hx
    rcases List.mem_cons.1 hx with rfl | hx
    ·exact wd_of hb h0
    ·exact splF_wd f _ L' h1 x hx
theorem spl_wd {l:List UInt8} {L:List (List UInt8)} (h:spl l = some L):∀ x∈L,Wd x:=splF_wd _ l L h
theorem spl_front {x rest:List UInt8} (hx:Wd x) (hr:rest = []∨∃ t,rest = 32 :: t):spl (x ++ rest) = (spl rest).map (x :: ·):=by
 have hw:wordLen (x ++ rest) = x.length:=by
  rcases hr with rfl | ⟨t,rfl⟩
  ·rw [List.append_nil];exact hx.wl
  ·exact hx.wr t
 cases x with
 | nil=>exact absurd rfl hx.ne
 | cons c r =>
  rw [List.cons_append] at hw ⊢
  rw [spl_word c (r ++ rest) (hx.hd c r rfl) (by rw [hw];simp),hw]
  have e1:(c :: (r ++ rest)).drop (c :: r).length = rest:=by rw [← List.cons_append,List.drop_left]
  have e2:(c :: (r ++ rest)).take (c :: r).length = c :: r:=by rw [← List.cons_append,List.take_left]
  rw [e1,e2]
theorem spl_tail:∀ (r:List ByteArray),(∀ y∈r,Wd y.data.toList)→spl (r.flatMap (fun y=>32 :: y.data.toList)) = some (r.map (·.data.toList))
 | [],_=>rfl
 | y :: r,h=>by
  have e:(y :: r).flatMap (fun y=>32 :: y.data.toList) = 32 :: (y.data.toList ++ r.flatMap (fun y=>32 :: y.data.toList)):=by simp
  rw [e,spl_blank _ _ (Or.inl rfl),spl_front (h y (by simp)) (by cases r with | nil=>exact Or.inl rfl | cons z r=>exact Or.inr ⟨_,by simp;rfl⟩),spl_tail r (fun z hz=>h z (by simp [hz]))]
  rfl
theorem spl_jn {ws:List ByteArray} (h:∀ y∈ws,Wd y.data.toList):spl (jn ws) = some (ws.map (·.data.toList)):=by
 cases ws with
 | nil=>rfl
 | cons x r =>
  show spl (x.data.toList ++ r.flatMap (fun y=>32 :: y.data.toList)) = _
  rw [spl_front (h x (by simp)) (by cases r with | nil=>exact Or.inl rfl | cons z r=>exact Or.inr ⟨_,by simp;rfl⟩),spl_tail r (fun z hz=>h z (by simp [hz]))]
  rfl
theorem rd_again {l:List UInt8} (h:rdE l = 0):rdW (jn (rdW l)) = rdW l∧((jn (rdW l)).length≤240→rdE (jn (rdW l)) = 0):=by
 obtain ⟨h1,h2,h3,h4,h5⟩:=rd_parts h
 cases hs:spl l with
 | none=>exact absurd hs h2
 | some L =>
  have e:spl l = some ((rdW l).map (·.data.toList)):=by
   unfold rdW
   rw [hs]
   simp only [Option.getD_some,List.map_map]
   congr 1
   exact (List.map_id' L).symm
  have hw:∀ y∈rdW l,Wd y.data.toList:=fun y hy=>spl_wd e _ (List.mem_map.2 ⟨y,hy,rfl⟩)
  have hj:=spl_jn hw
  have hr:rdW (jn (rdW l)) = rdW l:=rdW_of hj
  have hS:rdS (jn (rdW l)) = rdS l:=by unfold rdS;rw [hr]
  refine ⟨hr,fun hle=>rdE_ok (by omega) (by rw [hj];simp) (by rw [hS];exact h3) (by rw [hS];omega)⟩
theorem alC_get {l:List (Nat × Nat)} {i:Nat} (hi:i < l.length):(alC l)[i * 2]? = some (.int .i64 (l[i].1:Int))∧(alC l)[i * 2 + 1]? = some (.int .i64 (l[i].2:Int)):=by
 induction l generalizing i with
 | nil=>simp at hi
 | cons a l ih =>
  cases i with
  | zero=>exact ⟨rfl,rfl⟩
  | succ i =>
   have:=ih (i:=i) (by simpa using hi)
   unfold alC at this ⊢
   rw [List.flatMap_cons,show (i + 1) * 2 = (i * 2) + 1 + 1 by omega,show i * 2 + 1 + 1 + 1 = (i * 2 + 1) + 1 + 1 by omega]
   exact this
theorem take_two {xs:List Value} {k:Nat} {a b:Value} (h:k * 2 + 1 < xs.length):((xs.set (k * 2) a).set (k * 2 + 1) b).take ((k + 1) * 2) = xs.take (k * 2) ++ [a,b]:=by
 rw [show (k + 1) * 2 = k * 2 + 1 + 1 by omega,List.take_add_one,List.take_add_one,List.take_set_of_le (by omega),List.take_set_of_le (Nat.le_refl _),List.getElem?_set_ne (by omega),List.getElem?_set_self (by omega),List.getElem?_set_self (by rw [List.length_set];exact h)]
 simp
section
variable {w w':World} {X Q:Nat} {ws:List ByteArray} {ps:PS} {al:List Atm} {vv pv nv fv:Value} {Z:List Nat}
set_option maxRecDepth 100000 in
set_option maxHeartbeats 8000000 in
theorem alarms_any (h:Pa w X Q ws ps al vv pv nv fv Z) (hA:An ps al) (hl:(anR ps.nodes ps.vars.length al).al.length≤1000000) :
  Calls Tryz.prog 41 #[.pointer (some ⟨X,0,none⟩)] w fun e w'=>∃ v,e = .returned v∧w'.ownsRow w.heap.size 82 2 v (anR ps.nodes ps.vars.length al).al.length (alC (anR ps.nodes ps.vars.length al).al)∧((anR ps.nodes ps.vars.length al).al = []→v = .slice none 0 0)∧∃ RB w1,AnaP w X Q ws ps al vv pv nv Z RB w1∧Below w1.heap.size w1 w':=by
 obtain ⟨j0,hj0,hy0,hy1,hy2⟩:=info_parts Tryz.infoAl
 have HEM:=hide (lempty_any h.bx)
 have HAN:Hid (∀ n,Calls Tryz.prog 60 #[.pointer (some ⟨X,0,none⟩)] (w.drewN n) fun e w'=>∃ RB,e = .returned (.pointer (some ⟨RB,0,none⟩))∧AnaP w X Q ws ps al vv pv nv Z RB w'):=hide (fun n=>(analyse_any (w:=w.drewN n) (h.of_eq (w':=w.drewN n) (fun _ _=>rfl)) hA).mono (by
  rintro e w' ⟨RB,he,av,kv,FV,L,p1,p2,p3,p4⟩
  exact ⟨RB,he,av,kv,FV,L,p1,p2,⟨p3.os,p3.tape,p3.output,p3.size,p3.block,p3.foot⟩,p4⟩))
 obtain ⟨R,hR⟩:∃ R,R = (anR ps.nodes ps.vars.length al).al:=⟨_,rfl⟩
 rw [← hR] at hl ⊢
 have HR:=hide hR
 clear h hA hR
 go_enter Tryz.func41,Tryz.ntmps41
 go_wp2_with (first | (go_at_call 53;refine (uh HEM).mono ?_;rintro e w1 ⟨rfl,n,rfl⟩))
 refine (uh HAN _).mono ?_
 rintro e w2 ⟨RB,rfl,hP⟩
 have hsz:w.heap.size≤w2.heap.size:=by obtain ⟨av,kv,FV,L,p1,p2,p3,p4⟩:=hP;exact p3.size
 obtain ⟨av,hc1,hrow⟩:∃ av,w2.cell? ⟨RB,1,none⟩ = some av∧w2.ownsRow 0 82 2 av R.length (alC R):=by
  obtain ⟨av,kv,FV,L,p1,p2,p3,p4⟩:=hP
  exact ⟨av,p2.bk.cell 1 rfl,by rw [uh HR];exact p2.al⟩
 obtain ⟨aa,ac,hav,-,-⟩:=own_slc hrow
 subst hav
 have HP:=hide hP
 have HROW:=hide hrow
 clear hP hrow HAN HEM
 by_cases h0:R = []
 ·have d0:((R.length:Int) == (0:Int)) = true:=by rw [h0];rfl
  have HE:=hide h0
  clear h0
  go_wp2_with fail
  go_ret
  refine ⟨_,rfl,?_,fun _=>rfl,RB,w2,uh HP,Below.refl _ _⟩
  rw [uh HE]
  exact ⟨rfl,.inl ⟨rfl,rfl⟩⟩
 ·have d0:((R.length:Int) == (0:Int)) = false:=by
   have:R.length≠0:=fun e=>h0 (List.length_eq_zero_iff.1 e)
   simp;omega
  have HNE:=hide h0
  clear h0
  go_wp2_with (at_make;refine wpList_make_full _ rfl _ _ 55 rfl w2.heap.size 82 j0 (.agg #[.int .i64 0,.int .i64 0]) 2 Tryz.underlying55 hj0 hy0 hy1 .i64 .i64 _ _ R.length rfl rfl rfl rfl (by rw [hy2];omega) (by unfold maxLen;omega) (Nat.le_refl _) ?_)
  intro w3 hown3 hgrow3
  have hb3:Below w2.heap.size w2 w3:=(Below.refl _ _).grown hgrow3 (Nat.le_refl _) (fun k h=>by cases h)
  obtain ⟨b,hbe⟩:∃ b,b = w2.heap.size:=⟨_,rfl⟩
  have hown3':w3.ownsRow w2.heap.size 82 2 (.slice (some ⟨b,0,none⟩) R.length R.length) R.length (madeCells (Value.agg #[.int .i64 0,.int .i64 0]).cells (R.length * 2)).toList:=by rw [hbe];exact hown3
  have HI0:Hid (w3.ownsRow w2.heap.size 82 2 (.slice (some ⟨b,0,none⟩) R.length R.length) R.length (madeCells (Value.agg #[.int .i64 0,.int .i64 0]).cells (R.length * 2)).toList∧((madeCells (Value.agg #[.int .i64 0,.int .i64 0]).cells (R.length * 2)).toList).take (0 * 2) = alC (R.take 0)∧Below w2.heap.size w2 w3):=hide ⟨hown3',by simp [alC],hb3⟩
  have hRl:=World.block_lt_of_cell? w2 _ hc1
  rw [← hbe]
  have HBE:=hide hbe
  clear hown3 hgrow3 hb3 hown3' hbe
  go_wp2_with fail
  go_loopg [5] R.length (fun gn iv wx=>∃ (k:Nat) (xs:List Value),k + gn = R.length∧iv = .int .i64 k∧Hid (wx.ownsRow w2.heap.size 82 2 (.slice (some ⟨b,0,none⟩) R.length R.length) R.length xs∧xs.take (k * 2) = alC (R.take k)∧Below w2.heap.size w2 wx))
  case atStart=>exact ⟨0,_,by omega,rfl,HI0⟩
  case round =>
   clear HI0
   obtain ⟨k,xs,hkn,rfl,hI⟩:=hrel
   obtain ⟨G1,hG1⟩:∃ G1,G1 = gk:=⟨_,rfl⟩
   obtain ⟨h1,h2,h3⟩:=uh hI
   by_cases hlt:k < R.length
   ·have hd:decide ((k:Int) < (R.length:Int)) = true:=by simp;omega
    have c1:=(h3.cell hRl).trans hc1
    have hr2:=own_bw (uh HROW) h3
    obtain ⟨g,cap,hgv,-,-⟩:=own_pos hr2 (by omega)
    simp only [Value.slice.injEq,true_and] at hgv
    obtain ⟨rfl,rfl⟩:=hgv
    have x0:=(hr2.cellAt (k * 2) (by omega)).trans (alC_get hlt).1
    have x1:=(hr2.cellAt (k * 2 + 1) (by omega)).trans (alC_get hlt).2
    have hxl:=h1.1
    obtain ⟨u0,y0⟩:∃ u,wr.cell? ⟨b,k * 2,none⟩ = some u:=⟨_,(h1.cellAt (k * 2) (by omega)).trans (List.getElem?_eq_getElem (by omega))⟩
    obtain ⟨u1,y1⟩:∃ u,wr.cell? ⟨b,k * 2 + 1,none⟩ = some u:=⟨_,(h1.cellAt (k * 2 + 1) (by omega)).trans (List.getElem?_eq_getElem (by omega))⟩
    have z0:=h1.frozenAt (k * 2)
    have z1:=h1.frozenAt (k * 2 + 1)
    have hst:R.take (k + 1) = R.take k ++ [R[k]]:=List.take_succ_eq_append_getElem hlt
    obtain ⟨p,hp⟩:∃ p,p = R[k]:=⟨_,rfl⟩
    rw [← hp] at x0 x1 hst
    have r6:=((h1.stored (k * 2) (.int .i64 (p.1:Int))).1.stored (k * 2 + 1) (.int .i64 (p.2:Int))).1
    have hbw:w2.heap.size≤b:=by rw [uh HBE];exact Nat.le_refl _
    have b6:=(h3.setCell (p:=⟨b,k * 2,none⟩) hbw (.int .i64 (p.1:Int))).setCell (p:=⟨b,k * 2 + 1,none⟩) hbw (.int .i64 (p.2:Int))
    have t6:((xs.set (k * 2) (.int .i64 (p.1:Int))).set (k * 2 + 1) (.int .i64 (p.2:Int))).take ((k + 1) * 2) = alC (R.take (k + 1)):=by
     rw [take_two (by omega),h2,hst,alC_app]
     rfl
    have HN:=hide (And.intro r6 (And.intro t6 b6))
    have k1:(0:Int)≤(k:Int):=by omega
    have k2:(k:Int) < (R.length:Int):=by omega
    obtain ⟨p1,p2⟩:=p
    simp only at x0 x1 HN
    clear h1 h2 h3 hr2 hxl hst hp r6 hbw b6 t6 hI
    go_wp2_with fail
    go_roundg (G1 - 1)
    case rel=>exact ⟨k + 1,_,by omega,by go_num,HN⟩
    case measure=>omega
   ·have hd:decide ((k:Int) < (R.length:Int)) = false:=by simp;omega
    have hxs:xs = alC R:=by
     have h4:=h2
     rw [List.take_of_length_le (by rw [h1.1];omega),List.take_of_length_le (by omega)] at h4
     exact h4
    have HN:=hide (And.intro (show wr.ownsRow w2.heap.size 82 2 (.slice (some ⟨b,0,none⟩) R.length R.length) R.length (alC R) by rw [← hxs];exact h1) h3)
    clear h1 h2 h3 hI hxs
    go_wp2_with fail
    go_ret
    exact ⟨_,rfl,own_le (uh HN).1 hsz,fun e=>absurd e (uh HNE),RB,w2,uh HP,(uh HN).2⟩
end
end Go.Proofs.YtciihepbeacppaaGreat
