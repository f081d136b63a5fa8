import Derived.Test.YtciihepbeacppabGreatM18
import Derived.Test.YtciihepbeacppabGreatIE
import Derived.Test.YtciihepbeacppabGreatM26
import Derived.Test.YtciihepbeacppabGreatM02
import Derived.Test.YtciihepbeacppabGreatM05
import Derived.Test.YtciihepbeacppabGreatM06
import Derived.Test.YtciihepbeacppabGreatM08
import Derived.Deep.RegionHeld3
import Derived.Deep.LoopGhost
namespace Go.Proofs.YtciihepbeacppabGreat
open Go.RowKit
set_option linter.unusedVariables false
def KnB (s : Sr) : Prop:=∀ l ∈ s.kn,l.length ≤ big + 1
theorem layS_kb {c : Cd} {n : Nat} {f : CF} {s : Sr} (h : KnB s) (hok : (layS c n f s).ok = true) : KnB (layS c n f s):=by
 have hb:=(layS_mono hok).2
 unfold layS
 split
 ·exact h
 ·show ∀ l ∈ s.kn.set n ((knA s n).filter (fun e=>!wiB e.f (layN c n f)) ++ [⟨layN c n f,false⟩]),l.length ≤ big + 1
  intro l hl
  rcases List.mem_or_eq_of_mem_set hl with p | p
  ·exact h l p
  ·rw [p,List.length_append,List.length_singleton]
   have:=List.length_filter_le (fun e=>!wiB e.f (layN c n f)) (knA s n)
   omega
theorem layF_kb {c : Cd} {n : Nat} : ∀ (l : List CF) {s : Sr},KnB s → (l.foldl (fun s g=>layS c n g s) s).ok = true → KnB (l.foldl (fun s g=>layS c n g s) s)
 | [],_,h,_=>h
 | _ :: l,_,h,hok=>layF_kb l (layS_kb h (layF_mono l hok)) hok
theorem arS_kb {c : Cd} {fuel a b : Nat} {f : CF} {s : Sr} (hf : Td f) (h : KnB s) (hok : (arS c fuel a b f s).ok = true) : KnB (arS c fuel a b f s):=by
 unfold arS at hok ⊢
 split
 ·rename_i hc
  rw [if_pos hc] at hok
  exact layS_kb h hok
 ·rename_i hc
  rw [if_neg hc] at hok
  have h1 : CsOk [f]:=fun x hx=>by rw [List.mem_singleton] at hx; subst hx; exact hf
  obtain ⟨-,g2,-⟩:=fgN_ok (c:=c) fuel 0 (r:=([f],wrS a 2 s)) (res:=[]) h1 (fun x hx=>by simp at hx)
  refine layF_kb _ ?_ hok
  unfold KnB
  rw [g2]
  exact h
theorem arF_kb {c : Cd} {fuel a b : Nat} : ∀ (l : List CF) {s : Sr},CsOk l → KnB s → (l.foldl (fun s g=>arS c fuel a b g s) s).ok = true → KnB (l.foldl (fun s g=>arS c fuel a b g s) s)
 | [],_,_,h,_=>h
 | g :: l,_,hl,h,hok=>arF_kb l (fun x hx=>hl x (by simp [hx])) (arS_kb (hl g (by simp)) h (arF_mono l hok)) hok
theorem stS_kb {c : Cd} {fuel n : Nat} {f : CF} {s : Sr} (hv : (c.nds.getD n nd0).v < 4) (ha : (c.nds.getD n nd0).ai < 4) (hf : Td f) (h : KnB s) (hok : (stS c fuel n f s).ok = true) : KnB (stS c fuel n f s):=by
 obtain ⟨h1,h2⟩:=efO_td hv ha hf
 unfold stS at hok ⊢
 simp only at hok ⊢
 refine arF_kb _ h2 (arF_kb _ h1 ?_ (arF_mono _ hok)) hok
 unfold KnB
 show ∀ l ∈ (wrI _ n 4 (wrI _ n 3 (wrI _ n 2 s))).kn,_
 rw [wrI_kn,wrI_kn,wrI_kn]
 exact h
theorem viN_kb {c : Cd} {fuel n : Nat} (hv : (c.nds.getD n nd0).v < 4) (ha : (c.nds.getD n nd0).ai < 4) : ∀ (l : List CF) {s : Sr},CsOk l → KnB s → (viN c fuel n l s).ok = true → KnB (viN c fuel n l s)
 | [],_,_,h,_=>h
 | f :: l,s,hl,h,hok=>by
  unfold viN at hok ⊢
  split
  ·exact h
  ·rename_i hc
   rw [if_neg hc] at hok
   exact viN_kb hv ha l (fun x hx=>hl x (by simp [hx])) (stS_kb hv ha (hl f (by simp)) h (viN_mono l hok)) hok
theorem viS_kb {c : Cd} {fuel n : Nat} (hv : (c.nds.getD n nd0).v < 4) (ha : (c.nds.getD n nd0).ai < 4) {s : Sr} (hi : InS s) (h : KnB s) (hok : (viS c fuel n s).ok = true) : KnB (viS c fuel n s):=by
 unfold viS at hok ⊢
 refine viN_kb hv ha _ (fun f hf=>?_) ?_ hok
 ·unfold frE at hf
  obtain ⟨e,he,rfl⟩:=List.mem_map.1 hf
  exact hi.at n e (List.mem_filter.1 he).1
 ·show ∀ l ∈ s.kn.set n _,l.length ≤ big + 1
  intro l hl
  rcases List.mem_or_eq_of_mem_set hl with p | p
  ·exact h l p
  ·rw [p,List.length_map]
   unfold knA
   by_cases hn : n < s.kn.length
   ·rw [getD_at hn]
    exact h _ (List.getElem_mem hn)
   ·rw [List.getD_eq_getElem?_getD,List.getElem?_eq_none (by omega)]
    exact Nat.zero_le _
theorem viS_mono {c : Cd} {fuel n : Nat} {s : Sr} (hok : (viS c fuel n s).ok = true) : s.ok = true:=by
 unfold viS at hok
 have h1:=viN_mono _ hok
 exact h1
theorem ruN_mono {c : Cd} {fuel : Nat} : ∀ (n : Nat) {s : Sr},(ruN c fuel n s).ok = true → s.ok = true
 | 0,_,h=>by simp [ruN] at h
 | n + 1,s,h=>by
  unfold ruN at h
  split at h
  ·exact h
  ·split at h
   ·exact h
   ·exact viS_mono (ruN_mono n h)
theorem KnB.at {s : Sr} (h : KnB s) (n : Nat) : (knA s n).length ≤ big + 1:=by
 unfold knA
 by_cases hn : n < s.kn.length
 ·rw [getD_at hn]; exact h _ (List.getElem_mem hn)
 ·rw [List.getD_eq_getElem?_getD,List.getElem?_eq_none (by omega)]; exact Nat.zero_le _
section
variable {w W W' : World} {S : Nat} {c : Cd} {c0 hv kv wv : Value} {KV WV : List Value} {K : List (List En)} {s : Sr}
theorem Sh.inS (h : Sh w S c c0 hv kv wv KV WV K s) : InS s:=by
 intro l hl e he
 rw [h.km] at hl
 obtain ⟨l0,h0,rfl⟩:=List.mem_map.1 hl
 obtain ⟨e0,h1,rfl⟩:=List.mem_map.1 he
 exact (h.dr l0 h0 e0 h1).2
theorem Sh.kb (h : Sh w S c c0 hv kv wv KV WV K s) (hb : KnB s) : ∀ l ∈ K,l.length ≤ big + 1:=fun l hl=>by
 have:=hb (l.map En.m) (by rw [h.km]; exact List.mem_map_of_mem hl)
 rw [List.length_map] at this
 exact this
theorem Gon.low {F F' D D' : List Nat} (h : Gon W W' F F' D D' []) (hb : Below w.heap.size w W) (hF : ∀ k ∈ F,w.heap.size ≤ k) : Below w.heap.size w W' :=
 ⟨h.st.os.trans hb.os,h.st.tape.trans hb.tape,h.st.output.trans hb.output,Nat.le_trans hb.size h.st.size,fun k hk=>(h.st.block k (Nat.lt_of_lt_of_le hk hb.size) (fun e=>by
  rw [List.append_nil] at e
  have:=hF k e
  omega)).trans (hb.block k hk)⟩
theorem Rz.from {RB vd : Nat} {av kv : Value} {al : List (Nat × Nat)} {FV : List Value} {L : List (List FE)} (h : Rz W W' RB vd av kv al FV L) (hb : Below w.heap.size w W) : Rz w W' RB vd av kv al FV L :=
 ⟨h.bk,h.al,h.kr,h.ke,h.ap,fun k hk=>Nat.le_trans hb.size (h.ge k hk),hb.trans (h.bl.mono hb.size)⟩
end
def FouP (w : World) (r : Rs) (RB : Nat) (w' : World) : Prop:=∃ av kv FV L,Rz w w' RB r.vd av kv r.al FV L ∧ L.map (fun l=>l.map (fun x=>x.f)) = r.kn ∧ ∀ l ∈ L,∀ x ∈ l,IsF w' x.A x.f x.av x.ov ∧ Td x.f ∧ ∀ k ∈ x.bs,w.heap.size ≤ k
section
variable {w : World} {Q : Nat} {ws : List ByteArray} {ps : PS} {al : List Atm} {vv pv nv : Value}
set_option maxRecDepth 100000 in
set_option maxHeartbeats 16000000 in
theorem ofA_any (h : Cp w Q ws ps al vv pv nv) (hA : AOk al) (hN : NdO ps.nodes) (hnl : ps.nodes.length ≤ 100000) (hn0 : 0 < ps.nodes.length) (hvl : ps.vars.length ≤ 4) (fuel N : Nat)
  (hok : (ruN (cdO ps.nodes ps.vars.length al) fuel N (enS' (cdO ps.nodes ps.vars.length al) fuel ps.vars.length al (sr0 ps.nodes))).ok = true) :
  Calls Tryz.prog 26 #[.pointer (some ⟨Q,0,none⟩)] w fun e w'=>∃ RB,e = .returned (.pointer (some ⟨RB,0,none⟩)) ∧ FouP w (rsO (ruN (cdO ps.nodes ps.vars.length al) fuel N (enS' (cdO ps.nodes ps.vars.length al) fuel ps.vars.length al (sr0 ps.nodes)))) RB w':=by
 obtain ⟨c,hc⟩ : ∃ c,c = cdO ps.nodes ps.vars.length al:=⟨_,rfl⟩
 have hcn : c.nds = ps.nodes:=by rw [hc]; rfl
 rw [← hc] at hok ⊢
 obtain ⟨R,hR⟩ : ∃ R,R = ruN c fuel N (enS' c fuel ps.vars.length al (sr0 ps.nodes)):=⟨_,rfl⟩
 rw [← hR] at hok ⊢
 have HBE:=hide (begin_sh h hA hnl (by omega))
 rw [← hc] at HBE
 have H:=hide h
 have HA:=hide (And.intro hA (And.intro hN hcn))
 have HR:=hide hR
 have HOK:=hide hok
 obtain ⟨POST,hPOST⟩ : ∃ POST : Nat → World → Prop,POST = fun RB w'=>FouP w (rsO R) RB w':=⟨_,rfl⟩
 have HPOST:=hide hPOST
 rw [show (fun (e : Ending) (w' : World)=>∃ RB,e = .returned (.pointer (some ⟨RB,0,none⟩)) ∧ FouP w (rsO R) RB w') = (fun e w'=>∃ RB,e = .returned (.pointer (some ⟨RB,0,none⟩)) ∧ POST RB w') by rw [hPOST]]
 clear h hA hN hc hcn hR hok hPOST
 go_enter Tryz.func26,Tryz.ntmps26
 go_wp2_with fail
 refine (uh HBE).mono ?_
 rintro e w1 ⟨S,rfl,hv,kv,wv,WV,hS1,hb1,hge1⟩
 have hC1:=(uh H).below hb1
 have hKl : (List.replicate ps.nodes.length ([] : List En)).length = ps.nodes.length:=List.length_replicate
 have hoke : (enS' c fuel ps.vars.length al (sr0 ps.nodes)).ok = true:=ruN_mono N (by rw [← uh HR]; exact uh HOK)
 have HEN:=hide (enter_sh (fuel:=fuel) hS1 hC1 (uh HA).2.2 (uh HA).1 hvl (by rw [hKl]; exact hn0) (by rw [hKl]; exact hnl) hoke)
 have H1:=hide (And.intro hS1 (And.intro hb1 (And.intro hge1 hC1)))
 have hkb0 : KnB (enS' c fuel ps.vars.length al (sr0 ps.nodes)):=by
  have h0 : KnB (sr0 ps.nodes):=fun l hl=>by
   have : l = []:=List.eq_of_mem_replicate (show l ∈ List.replicate ps.nodes.length [] from hl)
   rw [this]; exact Nat.zero_le _
  unfold enS' at hoke ⊢
  split
  ·exact h0
  ·rename_i hf
   rw [if_neg hf] at hoke
   exact arS_kb (enC_fok (cf_fok (uh HA).1.tm (by simpa using hf)) _).tidy h0 hoke
 have HKB:=hide hkb0
 clear hS1 hb1 hge1 hC1 hoke HBE hkb0
 go_wp2_with fail
 refine (uh HEN).mono ?_
 rintro e w2 ⟨rfl,KV2,K2,p1,p2,p3⟩
 rw [hKl] at p2
 have HPE:=hide (pending_sh p1 (by omega))
 have H2:=hide (And.intro p1 (And.intro p2 p3))
 clear p1 p2 p3 HEN
 go_wp2_with fail
 refine (uh HPE).mono ?_
 rintro e w3 ⟨rfl,hb3⟩
 have HI0 : Hid (Sh w3 S c (.pointer (some ⟨Q,0,none⟩)) hv kv wv KV2 WV K2 (enS' c fuel ps.vars.length al (sr0 ps.nodes)) ∧ K2.length = ps.nodes.length ∧ Gon w1 w3 (shF S hv kv wv (List.replicate ps.nodes.length vNil) WV) (shF S hv kv wv KV2 WV) (drF (List.replicate ps.nodes.length [])) (drF K2) [] ∧ KnB (enS' c fuel ps.vars.length al (sr0 ps.nodes)) ∧ ruN c fuel N (enS' c fuel ps.vars.length al (sr0 ps.nodes)) = R):=hide ⟨(uh H2).1.below hb3,(uh H2).2.1,(uh H2).2.2.trans (Gon.below (X:=[]) hb3) (fun k hk=>by simp at hk),uh HKB,(uh HR).symm⟩
 clear hb3 HPE H2 HKB HR
 go_wp2_with fail
 go_loopg [4] N (fun gn iv wx=>∃ (KV : List Value) (K : List (List En)) (s' : Sr),iv = .int .i64 (opI (peS s')) ∧ Hid (Sh wx S c (.pointer (some ⟨Q,0,none⟩)) hv kv wv KV WV K s' ∧ K.length = ps.nodes.length ∧ Gon w1 wx (shF S hv kv wv (List.replicate ps.nodes.length vNil) WV) (shF S hv kv wv KV WV) (drF (List.replicate ps.nodes.length [])) (drF K) [] ∧ KnB s' ∧ ruN c fuel gn s' = R))
 case atStart=>exact ⟨KV2,K2,_,rfl,HI0⟩
 case round =>
  clear HI0
  obtain ⟨KV,K,s',rfl,hI⟩:=hrel
  obtain ⟨h1,h2,h3,h4,h5⟩:=uh hI
  have c8:=h1.bs.cell 8 rfl
  have hcp : Cp wr Q ws ps al vv pv nv ∧ ∀ k ∈ cpB Q vv pv nv,k ∉ shF S hv kv wv KV WV:=by
   have hlow:=h3.low (uh H1).2.1 (uh H1).2.2.1
   refine ⟨(uh H).below hlow,fun k hk e=>?_⟩
   have hk1:=(uh H).lt k hk
   rcases h3.st.foot k e with p | p
   ·rw [List.append_nil] at p
    have:=(uh H1).2.2.1 k p
    omega
   ·have:=(uh H1).2.1.size
    omega
  have HEND : Hid (s' = R → Calls Tryz.prog 46 #[.pointer (some ⟨S,0,none⟩)] wr fun e w'=>∃ RB,e = .returned (.pointer (some ⟨RB,0,none⟩)) ∧ POST RB w'):=hide (fun e=>(result_sh h1 (by omega) (h1.kb h4)).mono (fun e2 w' hp=>by
   obtain ⟨RB,hr1,av,kv',FV,L,hr2,hr3,hr4⟩:=hp
   refine ⟨RB,hr1,?_⟩
   have hlow:=h3.low (uh H1).2.1 (uh H1).2.2.1
   rw [uh HPOST,← e]
   refine ⟨av,kv',FV,L,hr2.from hlow,hr3,fun l hl x hx=>?_⟩
   obtain ⟨l0,h0,e0,he0,rfl⟩:=hr4 l hl x hx
   have hok0:=h1.dr l0 h0 e0 he0
   refine ⟨(hok0.1.below hr2.bl).ff,hok0.2,fun k hk=>?_⟩
   have hkd : k ∈ drF K:=mem_drF.2 ⟨l0,h0,e0,he0,List.mem_cons_of_mem _ hk⟩
   rcases h3.dr k hkd with p | p | p
   ·obtain ⟨l2,h2',e2,he2,-⟩:=mem_drF.1 p
    rw [List.eq_of_mem_replicate h2'] at he2
    simp at he2
   ·simp at p
   ·exact Nat.le_trans (uh H1).2.1.size p))
  cases gk with
  | zero =>
   have hno:=uh HOK
   rw [← h5] at hno
   simp [ruN] at hno
  | succ g =>
   unfold ruN at h5
   cases hp : peS s' with
   | none =>
    rw [hp] at h5
    have HE:=hide (uh HEND h5)
    rw [show opI (none : Option Nat) = -1 from rfl]
    clear h1 h2 h3 h4 h5 hcp hp hI HEND
    go_wp2_with fail
    refine (uh HE).mono ?_
    rintro e w5 ⟨RB,rfl,hP⟩
    have HP:=hide hP
    clear hP HE
    go_wp2_with fail
    go_ret
    exact ⟨RB,rfl,uh HP⟩
   | some k =>
    rw [hp] at h5
    rw [show opI (some k) = (k : Int) from rfl]
    cases hfu : s'.fu
    ·rw [hfu] at c8
     simp only [hfu] at h5
     rw [if_neg (by decide)] at h5
     have hkl : k < K.length:=by
      unfold peS at hp
      rw [List.findIdx?_eq_some_iff_getElem] at hp
      obtain ⟨h9,-⟩:=hp
      rw [h1.km,List.length_map] at h9
      exact h9
     have hokv : (viS c fuel k s').ok = true:=ruN_mono g (by rw [h5]; exact uh HOK)
     have hvk : (c.nds.getD k nd0).v < 4 ∧ (c.nds.getD k nd0).ai < 4:=by rw [(uh HA).2.2]; exact (uh HA).2.1.v k
     have hNc : NdO c.nds:=by rw [(uh HA).2.2]; exact (uh HA).2.1
     have HVI:=hide (visit_sh (fuel:=fuel) h1 hcp.1 hcp.2 (uh HA).2.2 hNc hkl (by omega) hokv (h4.at k))
     have HKB2:=hide (viS_kb hvk.1 hvk.2 h1.inS h4 hokv)
     have HI:=hide (And.intro h2 (And.intro h3 h5))
     have hg0 : decide ((0 : Int) ≤ (k : Int)) = true:=by simp
     clear h1 h2 h3 h4 h5 hcp hp hI HEND hkl hokv hvk hNc hfu
     go_wp2_with fail
     refine (uh HVI).mono ?_
     rintro e w5 ⟨rfl,KV3,K3,p1,p2,p3⟩
     obtain ⟨h2,h3,h5⟩:=uh HI
     have hK3:=p2.trans h2
     have HPE:=hide (pending_sh p1 (by omega))
     have H5:=hide (And.intro p1 (And.intro hK3 (And.intro (h3.trans p3 (fun k hk=>by simp at hk)) (And.intro (uh HKB2) h5))))
     clear p1 p2 p3 h2 h3 h5 hK3 HVI HKB2 HI c8
     go_wp2_with fail
     refine (uh HPE).mono ?_
     rintro e w6 ⟨rfl,hb6⟩
     have HN:=hide (And.intro ((uh H5).1.below hb6) (And.intro (uh H5).2.1 (And.intro ((uh H5).2.2.1.trans (Gon.below (X:=[]) hb6) (fun k hk=>by simp at hk)) (uh H5).2.2.2)))
     clear hb6 HPE H5
     go_wp2_with fail
     go_roundg g
     case rel=>exact ⟨KV3,K3,_,rfl,HN⟩
     case measure=>omega
    ·rw [hfu] at c8
     simp only [hfu,if_true] at h5
     have HE:=hide (uh HEND h5)
     have hg0 : decide ((0 : Int) ≤ (k : Int)) = true:=by simp
     clear h1 h2 h3 h4 h5 hcp hp hI HEND hfu
     go_wp2_with fail
     refine (uh HE).mono ?_
     rintro e w5 ⟨RB,rfl,hP⟩
     have HP:=hide hP
     clear hP HE
     go_wp2_with fail
     go_ret
     exact ⟨RB,rfl,uh HP⟩
end
section
variable {w : World} {X Q : Nat} {ws : List ByteArray} {s : PS} {al : List Atm} {vv pv nv sv0 lv fv : Value} {st ls : List Int}
set_option maxRecDepth 100000 in
set_option maxHeartbeats 1000000 in
theorem lempty_any (hX : Bk w X 48 [ptrA Q,fv]) : Calls Tryz.prog 14 #[.pointer (some ⟨X,0,none⟩)] w fun e w'=>e = .returned (.bool false) ∧ ∃ n,w' = w.drewN n:=by
 have c0 : w.cell? ⟨X,0,none⟩ = some (.pointer (some ⟨Q,0,none⟩)):=hX.cell 0 rfl
 clear hX
 go_enter Tryz.func14,Tryz.ntmps14
 go_wp2_with fail
 go_ret
 exact ⟨rfl,0,rfl⟩
end
def anS (nds : List Nd) (nv : Nat) (al : List Atm) : Sr:=ruN (cdO nds nv al) 4000 1000000 (enS' (cdO nds nv al) 4000 nv al (sr0 nds))
def anR (nds : List Nd) (nv : Nat) (al : List Atm) : Rs:=rsO (anS nds nv al)
structure An (ps : PS) (al : List Atm) : Prop where
 a : AOk al
 n : NdO ps.nodes
 l : ps.nodes.length ≤ 100000
 p : 0 < ps.nodes.length
 v : ps.vars.length ≤ 4
 ok : (anS ps.nodes ps.vars.length al).ok = true
structure Fd (W : World) (RB : Nat) (r : Rs) (av kv : Value) (FV : List Value) (L : List (List FE)) : Prop where
 bk : Bk W RB 53 [.int .i64 (r.vd : Int),av,kv]
 al : W.ownsRow 0 167 2 av r.al.length (alC r.al)
 kr : W.ownsRow 0 162 1 kv L.length FV
 ke : ∀ i,i < L.length → W.ownsRow 0 66 1 (FV.getD i vNil) (L.getD i []).length ((L.getD i []).map FE.p)
 km : L.map (fun l=>l.map (fun x=>x.f)) = r.kn
 fm : ∀ l ∈ L,∀ x ∈ l,IsF W x.A x.f x.av x.ov ∧ Td x.f
def fdB (RB : Nat) (av kv : Value) (FV : List Value) (L : List (List FE)) : List Nat:=fpt (rzO RB av kv FV) ++ L.flatMap (fun l=>l.flatMap FE.bs)
section
variable {w w' : World} {RB : Nat} {r : Rs} {av kv : Value} {FV : List Value} {L : List (List FE)}
theorem Fd.fl (h : Fd w RB r av kv FV L) : FV.length = L.length:=by have:=h.kr.1; omega
theorem Fd.of_eq (h : Fd w RB r av kv FV L) (he : ∀ k ∈ fdB RB av kv FV L,w'.heap[k]? = w.heap[k]?) : Fd w' RB r av kv FV L:=by
 have hf:=h.fl
 have h1 : ∀ i k,(rzO RB av kv FV)[i]? = some (some k) → w'.heap[k]? = w.heap[k]?:=fun i k hi=>he k (List.mem_append_left _ (mem_fpt.2 ⟨i,hi⟩))
 exact ⟨h.bk.of_eq (h1 0 RB rfl),ownsRow_of_eq h.al (fun k hk=>h1 1 k (congrArg some hk)),ownsRow_of_eq h.kr (fun k hk=>h1 2 k (congrArg some hk)),fun i hi=>ownsRow_of_eq (h.ke i hi) (fun k hk=>h1 _ k ((rz_k (by omega)).trans (congrArg some hk))),h.km,fun l hl x hx=>⟨(h.fm l hl x hx).1.of_eq (fun k hk=>he k (List.mem_append_right _ (List.mem_flatMap.2 ⟨l,hl,List.mem_flatMap.2 ⟨x,hx,hk⟩⟩))),(h.fm l hl x hx).2⟩⟩
theorem FouP.fd {w0 : World} (h : FouP w0 r RB w) : ∃ av kv FV L,Fd w RB r av kv FV L ∧ (∀ k ∈ fdB RB av kv FV L,w0.heap.size ≤ k) ∧ Below w0.heap.size w0 w:=by
 obtain ⟨av,kv,FV,L,h1,h2,h3⟩:=h
 refine ⟨av,kv,FV,L,⟨h1.bk,h1.al,h1.kr,h1.ke,h2,fun l hl x hx=>⟨(h3 l hl x hx).1,(h3 l hl x hx).2.1⟩⟩,fun k hk=>?_,h1.bl⟩
 rcases List.mem_append.1 hk with hk | hk
 ·exact h1.ge k hk
 ·obtain ⟨l,hl,hk⟩:=List.mem_flatMap.1 hk
  obtain ⟨x,hx,hk⟩:=List.mem_flatMap.1 hk
  exact (h3 l hl x hx).2.2 k hk
end
structure Pa (w : World) (X Q : Nat) (ws : List ByteArray) (ps : PS) (al : List Atm) (vv pv nv : Value) (fv : Value) (Z : List Nat) : Prop where
 bx : Bk w X 48 [ptrA Q,fv]
 cp : Cp w Q ws ps al vv pv nv
 fd : (fv = .pointer none ∧ Z = []) ∨ ∃ RB av kv FV L,fv = .pointer (some ⟨RB,0,none⟩) ∧ Fd w RB (anR ps.nodes ps.vars.length al) av kv FV L ∧ Z = fdB RB av kv FV L
 nx : X ∉ cpB Q vv pv nv ∧ X ∉ Z
section
variable {w w' : World} {X Q : Nat} {ws : List ByteArray} {ps : PS} {al : List Atm} {vv pv nv fv : Value} {Z : List Nat}
theorem Pa.of_eq (h : Pa w X Q ws ps al vv pv nv fv Z) (he : ∀ k,k = X ∨ k ∈ cpB Q vv pv nv ∨ k ∈ Z → w'.heap[k]? = w.heap[k]?) : Pa w' X Q ws ps al vv pv nv fv Z:=by
 refine ⟨h.bx.of_eq (he X (Or.inl rfl)),h.cp.of_eq (fun k hk=>he k (Or.inr (Or.inl hk))),?_,h.nx⟩
 rcases h.fd with h1 | ⟨RB,av,kv,FV,L,h1,h2,h3⟩
 ·exact Or.inl h1
 ·exact Or.inr ⟨RB,av,kv,FV,L,h1,h2.of_eq (fun k hk=>he k (Or.inr (Or.inr (by rw [h3]; exact hk)))),h3⟩
def AnaP (w : World) (X Q : Nat) (ws : List ByteArray) (ps : PS) (al : List Atm) (vv pv nv : Value) (Z : List Nat) (RB : Nat) (w' : World) : Prop :=
 ∃ av kv FV L,Pa w' X Q ws ps al vv pv nv (.pointer (some ⟨RB,0,none⟩)) (fdB RB av kv FV L) ∧ Fd w' RB (anR ps.nodes ps.vars.length al) av kv FV L ∧ Stp [X] w [X] w' ∧ ∀ k ∈ fdB RB av kv FV L,k ∈ Z ∨ w.heap.size ≤ k
set_option maxRecDepth 100000 in
set_option maxHeartbeats 4000000 in
theorem analyse_any (h : Pa w X Q ws ps al vv pv nv fv Z) (hA : An ps al) :
  Calls Tryz.prog 15 #[.pointer (some ⟨X,0,none⟩)] w fun e w'=>∃ RB,e = .returned (.pointer (some ⟨RB,0,none⟩)) ∧ AnaP w X Q ws ps al vv pv nv Z RB w':=by
 have c0 : w.cell? ⟨X,0,none⟩ = some (.pointer (some ⟨Q,0,none⟩)):=h.bx.cell 0 rfl
 have c1:=h.bx.cell 1 rfl
 rcases h.fd with ⟨hf,hZ⟩ | ⟨RB,av,kv,FV,L,hf,hd,hZ⟩
 ·subst hf
  have HOF:=hide (ofA_any h.cp hA.a hA.n hA.l hA.p hA.v 4000 1000000 hA.ok)
  have hXl:=h.bx.lt
  have H:=hide h
  clear h hA hZ
  go_enter Tryz.func15,Tryz.ntmps15
  go_wp2_with fail
  refine (uh HOF).mono ?_
  rintro e w1 ⟨RB,rfl,hP⟩
  obtain ⟨av,kv,FV,L,h1,h2,h3⟩:=hP.fd
  have b1:=(uh H).bx.below h3
  have d1:=b1.cell 1 rfl
  have z1:=b1.frz 1
  have b2:=b1.set 1 (.pointer (some ⟨RB,0,none⟩))
  have d2:=b2.cell 1 rfl
  have hne : ∀ k,k ≠ X → (w1.setCell ⟨X,1,none⟩ (.pointer (some ⟨RB,0,none⟩))).heap[k]? = w1.heap[k]?:=fun k hk=>Below.heap_setCell _ _ _ _ hk
  have hPost : AnaP w X Q ws ps al vv pv nv Z RB (w1.setCell ⟨X,1,none⟩ (.pointer (some ⟨RB,0,none⟩))):=by
   have hZX : X ∉ fdB RB av kv FV L:=fun e=>by have:=h2 X e; omega
   have hF2 : Fd (w1.setCell ⟨X,1,none⟩ (.pointer (some ⟨RB,0,none⟩))) RB (anR ps.nodes ps.vars.length al) av kv FV L:=h1.of_eq (fun k hk=>hne k (fun e=>hZX (by rw [← e]; exact hk)))
   refine ⟨av,kv,FV,L,⟨b2,((uh H).cp.below h3).of_eq (fun k hk=>hne k (fun e=>(uh H).nx.1 (by rw [← e]; exact hk))),Or.inr ⟨RB,av,kv,FV,L,rfl,hF2,rfl⟩,(uh H).nx.1,hZX⟩,hF2,((Stp.ofBw (F:=[X]) h3)).setCell (p:=⟨X,1,none⟩) (Or.inl (by simp)) _,fun k hk=>Or.inr (h2 k hk)⟩
  have HP:=hide hPost
  clear hP h1 h2 h3 b1 b2 hne hPost HOF
  go_wp2_with fail
  go_ret
  exact ⟨RB,rfl,uh HP⟩
 ·subst hf
  have HP : Hid (AnaP w X Q ws ps al vv pv nv Z RB w):=hide ⟨av,kv,FV,L,by rw [← hZ]; exact h,hd,Stp.refl _ _,fun k hk=>Or.inl (by rw [hZ]; exact hk)⟩
  clear h hA hd hZ
  go_enter Tryz.func15,Tryz.ntmps15
  go_wp2_with fail
  go_ret
  exact ⟨RB,rfl,uh HP⟩
set_option maxRecDepth 100000 in
set_option maxHeartbeats 4000000 in
theorem verdict_any (h : Pa w X Q ws ps al vv pv nv fv Z) (hA : An ps al) :
  Calls Tryz.prog 9 #[.pointer (some ⟨X,0,none⟩)] w fun e w'=>e = .returned (.int .i64 ((anR ps.nodes ps.vars.length al).vd : Nat)) ∧ ∃ RB,AnaP w X Q ws ps al vv pv nv Z RB w':=by
 have HEM:=hide (lempty_any h.bx)
 have HAN : Hid (∀ n,Calls Tryz.prog 15 #[.pointer (some ⟨X,0,none⟩)] (w.drewN n) fun e w'=>∃ RB,e = .returned (.pointer (some ⟨RB,0,none⟩)) ∧ AnaP w X Q ws ps al vv pv nv Z RB w'):=hide (fun n=>(analyse_any (w:=w.drewN n) (h.of_eq (w':=w.drewN n) (fun _ _=>rfl)) hA).mono (by
  rintro e w' ⟨RB,he,av,kv,FV,L,p1,p2,p3,p4⟩
  exact ⟨RB,he,av,kv,FV,L,p1,p2,⟨p3.os,p3.tape,p3.output,p3.size,p3.block,p3.foot⟩,p4⟩))
 clear h hA
 go_enter Tryz.func9,Tryz.ntmps9
 go_wp2_with (first | (go_at_call 14; refine (uh HEM).mono ?_; rintro e w1 ⟨rfl,n,rfl⟩))
 refine (uh HAN _).mono ?_
 rintro e w2 ⟨RB,rfl,hP⟩
 have c0 : w2.cell? ⟨RB,0,none⟩ = some (.int .i64 ((anR ps.nodes ps.vars.length al).vd : Nat)):=by
  obtain ⟨av,kv,FV,L,p1,p2,p3,p4⟩:=hP
  exact p2.bk.cell 0 rfl
 have HP:=hide hP
 clear hP
 go_wp2_with fail
 go_ret
 exact ⟨rfl,RB,uh HP⟩
end
def Rd (ws : List ByteArray) (s : PS) (r : List ByteArray) : Prop:=s.failed = false ∧ ws.drop s.pos = r ∧ s.pos ≤ ws.length
def Res (ws : List ByteArray) (s : PS) : Option (List ByteArray) → Prop
 | none=>s.failed = true
 | some r=>Rd ws s r
structure Par (ws : List ByteArray) (F : PS → PS) (f : List ByteArray → Option (List ByteArray)) : Prop where
 ok : ∀ s r,Rd ws s r → Res ws (F s) (f r)
 bad : ∀ s,s.failed = true → (F s).failed = true
 nd : ∀ s,(F s).nodes = s.nodes
def hdB (k : ByteArray) : List ByteArray → Bool
 | []=>false
 | x :: _=>eqW x k
def pEx (k : ByteArray) : List ByteArray → Option (List ByteArray)
 | []=>none
 | x :: r=>if eqW x k then some r else none
theorem pk_rd {ws : List ByteArray} {s : PS} {x : ByteArray} {r : List ByteArray} (h : Rd ws s (x :: r)) : pk ws s = x:=by
 unfold pk; rw [if_neg (by simp [h.1])]
 have : ws[s.pos]? = some x:=by rw [← List.head?_drop,h.2.1]; rfl
 rw [this]; rfl
theorem pk_nil {ws : List ByteArray} {s : PS} (h : Rd ws s []) : pk ws s = ⟨#[]⟩:=by
 apply pk_end
 have:=congrArg List.length h.2.1
 simp only [List.length_drop,List.length_nil] at this
 omega
theorem adv_rd {ws : List ByteArray} {s : PS} {x : ByteArray} {r : List ByteArray} (h : Rd ws s (x :: r)) : Rd ws s.adv r :=
 ⟨h.1,by show ws.drop (s.pos + 1) = r; rw [← List.drop_drop,h.2.1]; rfl,by
  have:=congrArg List.length h.2.1
  simp only [List.length_drop,List.length_cons] at this
  show s.pos + 1 ≤ ws.length
  omega⟩
theorem em_l3 : (⟨#[]⟩ : ByteArray).toList = []:=ByteArray.toList_eq _
theorem acB_rd {ws : List ByteArray} {s : PS} {k : ByteArray} {r : List ByteArray} (hk : k.toList ≠ []) (h : Rd ws s r) : acB ws k s = hdB k r:=by
 cases r with
 | nil=>unfold acB; rw [pk_nil h,em_l3]; cases hk' : k.toList with
  | nil=>exact absurd hk' hk
  | cons _ _=>rfl
 | cons x r=>unfold acB; rw [pk_rd h]; rfl
theorem acB_bad {ws : List ByteArray} {s : PS} {k : ByteArray} (hk : k.toList ≠ []) (h : s.failed = true) : acB ws k s = false:=by
 unfold acB; rw [pk_failed h,em_l3]; cases hk' : k.toList with
  | nil=>exact absurd hk' hk
  | cons _ _=>rfl
theorem Par.comp {ws : List ByteArray} {F G : PS → PS} {f g : List ByteArray → Option (List ByteArray)} (hF : Par ws F f) (hG : Par ws G g) : Par ws (fun s=>G (F s)) (fun r=>(f r).bind g):=by
 refine ⟨fun s r h=>?_,fun s h=>hG.bad _ (hF.bad _ h),fun s=>(hG.nd _).trans (hF.nd s)⟩
 have:=hF.ok s r h
 cases hf : f r with
 | none=>rw [hf] at this; exact hG.bad _ this
 | some r'=>rw [hf] at this; exact hG.ok _ _ this
theorem Par.ite {ws : List ByteArray} {A B : PS → PS} {a b : List ByteArray → Option (List ByteArray)} {k : ByteArray} (hk : k.toList ≠ []) (hA : ∀ s x r,Rd ws s (x :: r) → Res ws (A s) (a (x :: r))) (hN : ∀ s,(A s).nodes = s.nodes) (hB : Par ws B b) : Par ws (fun s=>if acB ws k s then A s else B s) (fun r=>if hdB k r then a r else b r):=by
 refine ⟨fun s r h=>?_,fun s h=>?_,fun s=>by split; exact hN s; exact hB.nd s⟩
 ·rw [acB_rd hk h]
  cases r with
  | nil=>simp only [hdB,Bool.false_eq_true,if_false]; exact hB.ok _ _ h
  | cons x r =>
   split
   ·exact hA _ _ _ h
   ·exact hB.ok _ _ h
 ·rw [acB_bad hk h]; exact hB.bad _ h
theorem par_ex {ws : List ByteArray} {k : ByteArray} (hk : k.toList ≠ []) : Par ws (exS ws k) (pEx k):=by
 refine ⟨fun s r h=>?_,fun s h=>?_,fun s=>by unfold exS; split <;> rfl⟩
 ·unfold exS; rw [acB_rd hk h]
  cases r with
  | nil=>simp [hdB,pEx,Res,PS.fail]
  | cons x r =>
   show Res ws (if eqW x k = true then s.adv else s.fail) (if eqW x k = true then some r else none)
   by_cases hx : eqW x k = true
   ·rw [if_pos hx,if_pos hx]; exact adv_rd h
   ·rw [if_neg hx,if_neg hx]; rfl
 ·unfold exS; rw [acB_bad hk h]; simp [PS.fail]
def pVa : List ByteArray → Option (List ByteArray)
 | []=>none
 | x :: r=>if lowB x then some r else none
theorem lowB_em : lowB ⟨#[]⟩ = false:=rfl
theorem upB_em : upB ⟨#[]⟩ = false:=rfl
theorem par_va {ws : List ByteArray} : Par ws (vaS ws) pVa:=by
 refine ⟨fun s r h=>?_,fun s h=>?_,fun s=>by unfold vaS; split <;> rfl⟩
 ·unfold vaS
  cases r with
  | nil=>rw [pk_nil h,lowB_em]; simp [pVa,Res,PS.fail]
  | cons x r =>
   rw [pk_rd h]; simp only [pVa]
   split
   ·exact ⟨h.1,(adv_rd h).2⟩
   ·simp [Res,PS.fail]
 ·unfold vaS; rw [pk_failed h,lowB_em]; simp [PS.fail]
theorem kNil_n : kNil.toList ≠ []:=by rw [ByteArray.toList_eq]; simp [kNil]
theorem kEq_n : kEq.toList ≠ []:=by rw [ByteArray.toList_eq]; simp [kEq]
theorem kNe_n : kNe.toList ≠ []:=by rw [ByteArray.toList_eq]; simp [kNe]
theorem kTo_n : kTo.toList ≠ []:=by rw [ByteArray.toList_eq]; simp [kTo]
theorem kOpen_n : kOpen.toList ≠ []:=by rw [ByteArray.toList_eq]; simp [kOpen]
theorem kComma_n : kComma.toList ≠ []:=by rw [ByteArray.toList_eq]; simp [kComma]
theorem kClose_n : kClose.toList ≠ []:=by rw [ByteArray.toList_eq]; simp [kClose]
theorem kEmp_n : kEmp.toList ≠ []:=by rw [ByteArray.toList_eq]; simp [kEmp]
theorem kLs_n : kLs.toList ≠ []:=by rw [ByteArray.toList_eq]; simp [kLs]
theorem kStar_n : kStar.toList ≠ []:=by rw [ByteArray.toList_eq]; simp [kStar]
def pVal (r : List ByteArray) : Option (List ByteArray):=if hdB kNil r then some r.tail else pVa r
theorem par_val {ws : List ByteArray} : Par ws (valS ws) pVal:=Par.ite kNil_n (fun _ _ _ h=>adv_rd h) (fun _=>rfl) par_va
def pTe : List ByteArray → Option (List ByteArray)
 | []=>none
 | x :: r=>if upB x then some r else pVal (x :: r)
theorem par_te {ws : List ByteArray} : Par ws (teS ws) pTe:=by
 refine ⟨fun s r h=>?_,fun s h=>?_,fun s=>by unfold teS; split; rfl; exact par_val.nd s⟩
 ·unfold teS
  cases r with
  | nil=>rw [pk_nil h,upB_em]; exact par_val.ok _ _ h
  | cons x r =>
   rw [pk_rd h]; simp only [pTe]
   cases hx : upB x with
   | true=>exact ⟨h.1,(adv_rd h).2⟩
   | false=>exact par_val.ok _ _ h
 ·unfold teS; rw [pk_failed h,upB_em]; exact par_val.bad _ h
def pRel (r : List ByteArray) : Option (List ByteArray):=if hdB kEq r then some r.tail else if hdB kNe r then some r.tail else pEx kTo r
theorem par_rel {ws : List ByteArray} : Par ws (relS ws) pRel:=Par.ite kEq_n (fun _ _ _ h=>adv_rd h) (fun _=>rfl) (Par.ite kNe_n (fun _ _ _ h=>adv_rd h) (fun _=>rfl) (par_ex kTo_n))
def pLi (r : List ByteArray) : Option (List ByteArray):=((((pEx kOpen r).bind pTe).bind (pEx kComma)).bind pTe).bind (pEx kClose)
theorem par_li {ws : List ByteArray} : Par ws (liS ws) pLi:=((((par_ex kOpen_n).comp par_te).comp (par_ex kComma_n)).comp par_te).comp (par_ex kClose_n)
def pAtom (r : List ByteArray) : Option (List ByteArray):=if hdB kEmp r then some r.tail else if hdB kLs r then pLi r.tail else ((pTe r).bind pRel).bind pTe
theorem par_atom {ws : List ByteArray} : Par ws (atS ws) pAtom :=
 Par.ite kEmp_n (fun _ _ _ h=>adv_rd h) (fun _=>rfl) (Par.ite kLs_n (fun _ _ _ h=>par_li.ok _ _ (adv_rd h)) (fun s=>par_li.nd s.adv) ((par_te.comp par_rel).comp par_te))
theorem par_id {ws : List ByteArray} : Par ws (fun s=>s) some:=⟨fun _ _ h=>h,fun _ h=>h,fun _=>rfl⟩
def pFoG : Nat → List ByteArray → Option (List ByteArray)
 | 0,r=>some r
 | n + 1,r=>if hdB kStar r then (pAtom r.tail).bind (pFoG n) else some r
theorem par_foG {ws : List ByteArray} (n : Nat) : Par ws (fun s=>(foG ws n s).2) (pFoG n):=by
 induction n with
 | zero=>exact par_id
 | succ n ih =>
  have e : (fun s=>(foG ws (n + 1) s).2) = (fun s=>if acB ws kStar s then (foG ws n (atS ws s.adv)).2 else s):=by
   funext s; simp only [foG]; split <;> rfl
  rw [e]
  exact Par.ite kStar_n (fun _ _ _ h=>(par_atom.comp ih).ok _ _ (adv_rd h)) (fun s=>(par_atom.comp ih).nd s.adv) par_id
def pFor (n : Nat) (r : List ByteArray) : Option (List ByteArray):=(pAtom r).bind (pFoG n)
theorem par_for {ws : List ByteArray} : Par ws (foS ws) (pFor (ws.length + 1)):=par_atom.comp (par_foG (ws.length + 1))
def n0 (f : List ByteArray → Option (List ByteArray)) (r : List ByteArray) : Option (List ByteArray × Nat):=(f r).map (fun q=>(q,0))
def n1 (f : List ByteArray → Option (List ByteArray)) (r : List ByteArray) : Option (List ByteArray × Nat):=(f r).map (fun q=>(q,1))
def one (r : List ByteArray) : Option (List ByteArray × Nat):=some (r,1)
theorem pTe_cons (x : ByteArray) (r : List ByteArray) : pTe (x :: r) = if nameB x = true then some r else none:=by
 show (if upB x = true then some r else if eqW x nilW = true then some r else if lowB x = true then some r else none) = if (eqW x nilW || lowB x || upB x) = true then some r else none
 cases upB x <;> cases eqW x nilW <;> cases lowB x <;> rfl
def relB (x : ByteArray) : Bool:=eqW x eqSW || eqW x neSW || eqW x toW
theorem pRel_cons (x : ByteArray) (r : List ByteArray) : pRel (x :: r) = if relB x = true then some r else none:=by
 show (if eqW x eqSW = true then some r else if eqW x neSW = true then some r else if eqW x toW = true then some r else none) = if (eqW x eqSW || eqW x neSW || eqW x toW) = true then some r else none
 cases eqW x eqSW <;> cases eqW x neSW <;> cases eqW x toW <;> rfl
theorem pAtom_cons (x : ByteArray) (r : List ByteArray) : pAtom (x :: r) = if eqW x empW = true then some r else if eqW x lsW = true then pLi r else ((if nameB x = true then some r else none).bind pRel).bind pTe:=by
 rw [← pTe_cons]; rfl
theorem pEx_cons (k x : ByteArray) (r : List ByteArray) : pEx k (x :: r) = if eqW x k = true then some r else none:=rfl
theorem name_emp {x : ByteArray} (h : eqW x empW = true) : nameB x = false:=by
 have hx : x.toList = [101,109,112]:=by simpa [eqW,empW_l] using h
 have hd : x.data.toList = [101,109,112]:=by rw [← ByteArray.toList_eq]; exact hx
 simp [nameB,eqW,lowB,upB,hd,hx,show nilW.toList = [110,105,108] from ByteArray.toList_eq _]
theorem name_ls {x : ByteArray} (h : eqW x lsW = true) : nameB x = false:=by
 have hx : x.toList = [108,115]:=by simpa [eqW,lsW_l] using h
 have hd : x.data.toList = [108,115]:=by rw [← ByteArray.toList_eq]; exact hx
 simp [nameB,eqW,lowB,upB,hd,hx,show nilW.toList = [110,105,108] from ByteArray.toList_eq _]
theorem pEx_some {k : ByteArray} {r q : List ByteArray} : pEx k r = some q ↔ ∃ x,eqW x k = true ∧ r = x :: q:=by
 cases r with
 | nil=>simp [pEx]
 | cons y r =>
  rw [pEx_cons]
  by_cases h : eqW y k = true
  ·rw [if_pos h]
   exact ⟨fun e=>by cases e; exact ⟨y,h,rfl⟩,fun ⟨x,_,e⟩=>by cases e; rfl⟩
  ·rw [if_neg h]
   exact ⟨fun e=>(by cases e),fun ⟨x,hx,e⟩=>by cases e; exact absurd hx h⟩
theorem pTe_some {r q : List ByteArray} : pTe r = some q ↔ ∃ x,nameB x = true ∧ r = x :: q:=by
 cases r with
 | nil=>simp [pTe]
 | cons y r =>
  rw [pTe_cons]
  by_cases h : nameB y = true
  ·rw [if_pos h]
   exact ⟨fun e=>by cases e; exact ⟨y,h,rfl⟩,fun ⟨x,_,e⟩=>by cases e; rfl⟩
  ·rw [if_neg h]
   exact ⟨fun e=>(by cases e),fun ⟨x,hx,e⟩=>by cases e; exact absurd hx h⟩
theorem pRel_some {r q : List ByteArray} : pRel r = some q ↔ ∃ x,relB x = true ∧ r = x :: q:=by
 cases r with
 | nil=>simp [pRel,hdB,pEx]
 | cons y r =>
  rw [pRel_cons]
  by_cases h : relB y = true
  ·rw [if_pos h]
   exact ⟨fun e=>by cases e; exact ⟨y,h,rfl⟩,fun ⟨x,_,e⟩=>by cases e; rfl⟩
  ·rw [if_neg h]
   exact ⟨fun e=>(by cases e),fun ⟨x,hx,e⟩=>by cases e; exact absurd hx h⟩
theorem pLi_some {r q : List ByteArray} : pLi r = some q ↔ ∃ b c d e f,eqW b opW = true ∧ nameB c = true ∧ eqW d cmW = true ∧ nameB e = true ∧ eqW f clW = true ∧ r = b :: c :: d :: e :: f :: q:=by
 constructor
 ·intro h
  unfold pLi at h
  obtain ⟨r4,h,h5⟩:=Option.bind_eq_some_iff.1 h
  obtain ⟨r3,h,h4⟩:=Option.bind_eq_some_iff.1 h
  obtain ⟨r2,h,h3⟩:=Option.bind_eq_some_iff.1 h
  obtain ⟨r1,h1,h2⟩:=Option.bind_eq_some_iff.1 h
  obtain ⟨b,hb,rfl⟩:=pEx_some.1 h1
  obtain ⟨c,hc,rfl⟩:=pTe_some.1 h2
  obtain ⟨d,hd,rfl⟩:=pEx_some.1 h3
  obtain ⟨e,he,rfl⟩:=pTe_some.1 h4
  obtain ⟨f,hf,rfl⟩:=pEx_some.1 h5
  exact ⟨b,c,d,e,f,hb,hc,hd,he,hf,rfl⟩
 ·rintro ⟨b,c,d,e,f,hb,hc,hd,he,hf,rfl⟩
  show ((((pEx opW (b :: c :: d :: e :: f :: q)).bind pTe).bind (pEx cmW)).bind pTe).bind (pEx clW) = some q
  rw [pEx_some.2 ⟨b,hb,rfl⟩,Option.bind_some,pTe_some.2 ⟨c,hc,rfl⟩,Option.bind_some,pEx_some.2 ⟨d,hd,rfl⟩,Option.bind_some,pTe_some.2 ⟨e,he,rfl⟩,Option.bind_some,pEx_some.2 ⟨f,hf,rfl⟩]
theorem pAtom_some {l q : List ByteArray} : pAtom l = some q ↔ ∃ p,raB p = true ∧ l = p ++ q:=by
 constructor
 ·intro h
  cases l with
  | nil=>simp [pAtom,hdB,pTe] at h
  | cons a r =>
   rw [pAtom_cons] at h
   by_cases h1 : eqW a empW = true
   ·rw [if_pos h1] at h; simp only [Option.some.injEq] at h; subst h; exact ⟨[a],h1,rfl⟩
   ·rw [if_neg h1] at h
    by_cases h2 : eqW a lsW = true
    ·rw [if_pos h2] at h
     obtain ⟨b,c,d,e,f,hb,hc,hd,he,hf,rfl⟩:=pLi_some.1 h
     exact ⟨[a,b,c,d,e,f],by simp [raB,h2,hb,hc,hd,he,hf],rfl⟩
    ·rw [if_neg h2] at h
     obtain ⟨r2,h,h5⟩:=Option.bind_eq_some_iff.1 h
     obtain ⟨r1,h3,h4⟩:=Option.bind_eq_some_iff.1 h
     by_cases h6 : nameB a = true
     ·rw [if_pos h6] at h3
      simp only [Option.some.injEq] at h3
      subst h3
      obtain ⟨b,hb,rfl⟩:=pRel_some.1 h4
      obtain ⟨c,hc,rfl⟩:=pTe_some.1 h5
      exact ⟨[a,b,c],by simp only [raB,h6,hc,Bool.true_and]; exact hb,rfl⟩
     ·rw [if_neg h6] at h3; cases h3
 ·rintro ⟨p,hp,rfl⟩
  match p,hp with
  | [a],hp=>show pAtom (a :: q) = some q; rw [pAtom_cons,if_pos (show eqW a empW = true from hp)]
  | [a,b,c],hp =>
   simp only [raB,Bool.and_eq_true] at hp
   show pAtom (a :: b :: c :: q) = some q
   have h1 : ¬ eqW a empW = true:=fun h=>by rw [name_emp h] at hp; simp at hp
   have h2 : ¬ eqW a lsW = true:=fun h=>by rw [name_ls h] at hp; simp at hp
   rw [pAtom_cons,if_neg h1,if_neg h2,if_pos hp.1.1,Option.bind_some,pRel_some.2 ⟨b,hp.2,rfl⟩,Option.bind_some,pTe_some.2 ⟨c,hp.1.2,rfl⟩]
  | [a,b,c,d,e,f],hp =>
   simp only [raB,Bool.and_eq_true] at hp
   obtain ⟨⟨⟨⟨ha,hb⟩,hd⟩,hf⟩,hc,he⟩:=hp
   show pAtom (a :: b :: c :: d :: e :: f :: q) = some q
   have h1 : ¬ eqW a empW = true:=fun h=>by
    have e1 : a.toList = [101,109,112]:=by simpa [eqW,empW_l] using h
    have e2 : a.toList = [108,115]:=by simpa [eqW,lsW_l] using ha
    rw [e1] at e2; simp at e2
   rw [pAtom_cons,if_neg h1,if_pos ha]
   exact pLi_some.2 ⟨b,c,d,e,f,hb,hc,hd,he,hf,rfl⟩
theorem eqW_iff {x k : ByteArray} : eqW x k = true ↔ x = k:=by
 constructor
 ·intro h
  have h1 : x.toList = k.toList:=by simpa [eqW] using h
  rw [ByteArray.toList_eq,ByteArray.toList_eq] at h1
  obtain ⟨⟨a⟩⟩:=x
  obtain ⟨⟨b⟩⟩:=k
  simp only at h1
  rw [h1]
 ·rintro rfl; simp [eqW]
theorem eqW_ne {x k : ByteArray} (h : x ≠ k) : eqW x k = false:=by
 cases hk : eqW x k with
 | false=>rfl
 | true=>exact absurd (eqW_iff.1 hk) h
theorem eqW_rfl (k : ByteArray) : eqW k k = true:=eqW_iff.2 rfl
theorem low_ne {x k : ByteArray} (h : lowB x = true) (hk : lowB k = false) : x ≠ k:=by
 rintro rfl; rw [h] at hk; cases hk
theorem data_ne {x k : ByteArray} (h : x.data.toList ≠ k.data.toList) : x ≠ k:=fun e=>h (by rw [e])
theorem pEx_eq {k : ByteArray} {r q : List ByteArray} : pEx k r = some q ↔ r = k :: q:=by
 rw [pEx_some]
 exact ⟨fun ⟨x,hx,e⟩=>by rw [e,eqW_iff.1 hx],fun e=>⟨k,eqW_rfl k,e⟩⟩
theorem pEx_self (k : ByteArray) (q : List ByteArray) : pEx k (k :: q) = some q:=pEx_eq.2 rfl
def Cnd (l : List ByteArray) : Prop :=
 ∀ R : List ByteArray → Prop,R [starW] → (∀ {a b c : ByteArray},lowB a = true → (b = eqSW ∨ b = neSW) → (c = nilW ∨ lowB c = true) → R [a,b,c]) → R l
theorem Cnd.star : Cnd [starW]:=fun _ h _=>h
theorem Cnd.two {a b c : ByteArray} (ha : lowB a = true) (hb : b = eqSW ∨ b = neSW) (hc : c = nilW ∨ lowB c = true) : Cnd [a,b,c]:=fun _ _ h=>h ha hb hc
theorem Cnd.ind {motive : (l : List ByteArray) → Cnd l → Prop} (star : motive [starW] Cnd.star)
  (two : ∀ {a b c : ByteArray} (ha : lowB a = true) (hb : b = eqSW ∨ b = neSW) (hc : c = nilW ∨ lowB c = true),motive [a,b,c] (Cnd.two ha hb hc)) {l : List ByteArray} (h : Cnd l) : motive l h:=by
 obtain ⟨_,h2⟩:=h (fun l=>∃ h,motive l h) ⟨_,star⟩ (fun ha hb hc=>⟨_,two ha hb hc⟩)
 exact h2
theorem rcB_iff {l : List ByteArray} : rcB l = true ↔ Cnd l:=by
 constructor
 ·intro h
  match l,h with
  | [a],h=>rw [eqW_iff.1 (show eqW a starW = true from h)]; exact Cnd.star
  | [a,b,c],h =>
   simp only [rcB,Bool.and_eq_true,Bool.or_eq_true,eqW_iff] at h
   exact Cnd.two h.1.1 h.2 (h.1.2.symm)
 ·intro h
  cases h using Cnd.ind with
  | star=>exact eqW_rfl _
  | two ha hb hc=>simp only [rcB,Bool.and_eq_true,Bool.or_eq_true,eqW_iff]; exact ⟨⟨ha,hc.symm⟩,hb⟩
def Sim (l : List ByteArray) : Prop :=
 ∀ R : List ByteArray → Prop,R [skipW] → (∀ {b : ByteArray},lowB b = true → R [freeW,b]) → (∀ {a c : ByteArray},lowB a = true → (c = newW ∨ c = nilW ∨ lowB c = true) → R [a,eqSW,c]) →
  (∀ {a c : ByteArray},lowB a = true → lowB c = true → R [a,eqSW,c,dotW,nW]) → (∀ {a e : ByteArray},lowB a = true → (e = nilW ∨ lowB e = true) → R [a,dotW,nW,eqSW,e]) → R l
theorem Sim.skip : Sim [skipW]:=fun _ h _ _ _ _=>h
theorem Sim.free {b : ByteArray} (hb : lowB b = true) : Sim [freeW,b]:=fun _ _ h _ _ _=>h hb
theorem Sim.val {a c : ByteArray} (ha : lowB a = true) (hc : c = newW ∨ c = nilW ∨ lowB c = true) : Sim [a,eqSW,c]:=fun _ _ _ h _ _=>h ha hc
theorem Sim.load {a c : ByteArray} (ha : lowB a = true) (hc : lowB c = true) : Sim [a,eqSW,c,dotW,nW]:=fun _ _ _ _ h _=>h ha hc
theorem Sim.store {a e : ByteArray} (ha : lowB a = true) (he : e = nilW ∨ lowB e = true) : Sim [a,dotW,nW,eqSW,e]:=fun _ _ _ _ _ h=>h ha he
theorem Sim.ind {motive : (l : List ByteArray) → Sim l → Prop} (skip : motive [skipW] Sim.skip) (free : ∀ {b : ByteArray} (hb : lowB b = true),motive [freeW,b] (Sim.free hb))
  (val : ∀ {a c : ByteArray} (ha : lowB a = true) (hc : c = newW ∨ c = nilW ∨ lowB c = true),motive [a,eqSW,c] (Sim.val ha hc)) (load : ∀ {a c : ByteArray} (ha : lowB a = true) (hc : lowB c = true),motive [a,eqSW,c,dotW,nW] (Sim.load ha hc))
  (store : ∀ {a e : ByteArray} (ha : lowB a = true) (he : e = nilW ∨ lowB e = true),motive [a,dotW,nW,eqSW,e] (Sim.store ha he)) {l : List ByteArray} (h : Sim l) : motive l h:=by
 obtain ⟨_,h2⟩:=h (fun l=>∃ h,motive l h) ⟨_,skip⟩ (fun hb=>⟨_,free hb⟩) (fun ha hc=>⟨_,val ha hc⟩) (fun ha hc=>⟨_,load ha hc⟩) (fun ha he=>⟨_,store ha he⟩)
 exact h2
theorem hdB_some {k : ByteArray} {r : List ByteArray} (h : hdB k r = true) : r = k :: r.tail:=by
 cases r with
 | nil=>cases h
 | cons x r=>rw [eqW_iff.1 (show eqW x k = true from h)]; rfl
theorem sim_out {p : List ByteArray} (h : Sim p) {k : ByteArray} (h1 : k ≠ skipW) (h2 : k ≠ freeW) (h3 : k ≠ eqSW) (h4 : k ≠ newW) (h5 : k ≠ nilW) (h6 : k ≠ dotW) (h7 : k ≠ nW) (h8 : lowB k = false) : ∀ x ∈ p,x ≠ k:=by
 intro x hx
 cases h using Sim.ind with
 | skip=>simp only [List.mem_cons,List.not_mem_nil,or_false] at hx; subst hx; exact h1.symm
 | free hb =>
  simp only [List.mem_cons,List.not_mem_nil,or_false] at hx
  rcases hx with rfl | rfl
  ·exact h2.symm
  ·exact low_ne hb h8
 | val ha hc =>
  simp only [List.mem_cons,List.not_mem_nil,or_false] at hx
  rcases hx with rfl | rfl | rfl
  ·exact low_ne ha h8
  ·exact h3.symm
  ·rcases hc with rfl | rfl | hc
   ·exact h4.symm
   ·exact h5.symm
   ·exact low_ne hc h8
 | load ha hc =>
  simp only [List.mem_cons,List.not_mem_nil,or_false] at hx
  rcases hx with rfl | rfl | rfl | rfl | rfl
  ·exact low_ne ha h8
  ·exact h3.symm
  ·exact low_ne hc h8
  ·exact h6.symm
  ·exact h7.symm
 | store ha hc =>
  simp only [List.mem_cons,List.not_mem_nil,or_false] at hx
  rcases hx with rfl | rfl | rfl | rfl | rfl
  ·exact low_ne ha h8
  ·exact h6.symm
  ·exact h7.symm
  ·exact h3.symm
  ·rcases hc with rfl | hc
   ·exact h5.symm
   ·exact low_ne hc h8
def FmG (l : List ByteArray) : Prop :=
 ∀ R : List ByteArray → Prop,(∀ {p : List ByteArray},raB p = true → R p) → (∀ {p r : List ByteArray},raB p = true → R r → R (p ++ starW :: r)) → R l
theorem FmG.one {p : List ByteArray} (hp : raB p = true) : FmG p:=fun _ h _=>h hp
theorem FmG.more {p r : List ByteArray} (hp : raB p = true) (hr : FmG r) : FmG (p ++ starW :: r):=fun R h1 h2=>h2 hp (hr R h1 h2)
theorem FmG.ind {motive : (l : List ByteArray) → FmG l → Prop} (one : ∀ {p : List ByteArray} (hp : raB p = true),motive p (FmG.one hp)) (more : ∀ {p r : List ByteArray} (hp : raB p = true) (hr : FmG r),motive r hr → motive _ (FmG.more hp hr)) {l : List ByteArray} (h : FmG l) : motive l h:=by
 obtain ⟨_,h2⟩:=h (fun l=>∃ h,motive l h) (fun hp=>⟨_,one hp⟩) (fun hp ⟨hr,ih⟩=>⟨_,more hp hr ih⟩)
 exact h2
theorem upB_ne {x k : ByteArray} (h : upB x = true) (hk : upB k = false) : x ≠ k:=by
 rintro rfl; rw [h] at hk; cases hk
theorem name_out {x k : ByteArray} (h : nameB x = true) (h1 : k ≠ nilW) (h2 : lowB k = false) (h3 : upB k = false) : x ≠ k:=by
 simp only [nameB,Bool.or_eq_true,eqW_iff] at h
 rcases h with (rfl | h) | h
 ·exact h1.symm
 ·exact low_ne h h2
 ·exact upB_ne h h3
theorem atom_out {p : List ByteArray} (h : raB p = true) {k : ByteArray} (h1 : k ≠ empW) (h2 : k ≠ lsW) (h3 : k ≠ opW) (h4 : k ≠ cmW) (h5 : k ≠ clW) (h6 : k ≠ eqSW) (h7 : k ≠ neSW) (h8 : k ≠ toW) (h9 : k ≠ nilW) (hl : lowB k = false) (hu : upB k = false) : ∀ x ∈ p,x ≠ k:=by
 intro x hx
 match p,h with
 | [a],h =>
  have e:=eqW_iff.1 (show eqW a empW = true from h)
  simp only [List.mem_cons,List.not_mem_nil,or_false] at hx
  subst hx; subst e; exact h1.symm
 | [a,b,c],h =>
  simp only [raB,Bool.and_eq_true,Bool.or_eq_true,eqW_iff] at h
  obtain ⟨⟨ha,hc⟩,hb⟩:=h
  simp only [List.mem_cons,List.not_mem_nil,or_false] at hx
  rcases hx with rfl | rfl | rfl
  ·exact name_out ha h9 hl hu
  ·rcases hb with (rfl | rfl) | rfl
   ·exact h6.symm
   ·exact h7.symm
   ·exact h8.symm
  ·exact name_out hc h9 hl hu
 | [a,b,c,d,e,f],h =>
  simp only [raB,Bool.and_eq_true,eqW_iff] at h
  obtain ⟨⟨⟨⟨rfl,rfl⟩,rfl⟩,rfl⟩,hc,he⟩:=h
  simp only [List.mem_cons,List.not_mem_nil,or_false] at hx
  rcases hx with rfl | rfl | rfl | rfl | rfl | rfl
  ·exact h2.symm
  ·exact h3.symm
  ·exact name_out hc h9 hl hu
  ·exact h4.symm
  ·exact name_out he h9 hl hu
  ·exact h5.symm
theorem atom_star {p : List ByteArray} (h : raB p = true) : ∀ x ∈ p,x ≠ starW :=
 atom_out h (data_ne (by simp [starW,empW])) (data_ne (by simp [starW,lsW])) (data_ne (by simp [starW,opW])) (data_ne (by simp [starW,cmW])) (data_ne (by simp [starW,clW])) (data_ne (by simp [starW,eqSW])) (data_ne (by simp [starW,neSW])) (data_ne (by simp [starW,toW])) (data_ne (by simp [starW,nilW])) rfl rfl
theorem foG_sound (n : Nat) : ∀ {r q : List ByteArray},pFoG n r = some q → r = q ∨ ∃ f,FmG f ∧ r = starW :: (f ++ q):=by
 induction n with
 | zero=>intro r q h; cases h; exact Or.inl rfl
 | succ n ih =>
  intro r q h
  simp only [pFoG] at h
  by_cases h1 : hdB kStar r = true
  ·rw [if_pos h1] at h
   obtain ⟨t,h2,h3⟩:=Option.bind_eq_some_iff.1 h
   obtain ⟨p,hp,e⟩:=pAtom_some.1 h2
   have e1 : r = starW :: r.tail:=hdB_some h1
   right
   rcases ih h3 with rfl | ⟨f,hf,rfl⟩
   ·exact ⟨p,FmG.one hp,by rw [e1,e]⟩
   ·exact ⟨_,FmG.more hp hf,by rw [e1,e]; simp⟩
  ·rw [if_neg h1] at h; cases h; exact Or.inl rfl
theorem for_sound {n : Nat} {r q : List ByteArray} (h : pFor n r = some q) : ∃ f,FmG f ∧ r = f ++ q:=by
 obtain ⟨t,h2,h3⟩:=Option.bind_eq_some_iff.1 h
 obtain ⟨p,hp,rfl⟩:=pAtom_some.1 h2
 rcases foG_sound n h3 with rfl | ⟨f,hf,rfl⟩
 ·exact ⟨p,FmG.one hp,rfl⟩
 ·exact ⟨_,FmG.more hp hf,by simp⟩
theorem for_complete {f : List ByteArray} (h : FmG f) : ∀ {n : Nat} {q : List ByteArray},f.length ≤ n → hdB starW q = false → pFor n (f ++ q) = some q:=by
 induction h using FmG.ind with
 | one hp =>
  intro n q _ hq
  unfold pFor
  rw [pAtom_some.2 ⟨_,hp,rfl⟩,Option.bind_some]
  cases n with
  | zero=>rfl
  | succ n=>show (if hdB starW q = true then _ else some q) = _; rw [hq,if_neg (by simp)]
 | @more p r hp _ ih =>
  intro n q hn hq
  simp only [List.length_append,List.length_cons] at hn
  unfold pFor
  rw [List.append_assoc,pAtom_some.2 ⟨_,hp,rfl⟩,Option.bind_some]
  cases n with
  | zero=>omega
  | succ n =>
   show (if eqW starW starW = true then (pAtom (r ++ q)).bind (pFoG n) else _) = _
   rw [if_pos (eqW_rfl _)]
   exact ih (by omega) hq
theorem rfo_sound : ∀ {r cur : List ByteArray} {al : List RAt},rfo cur r = some al → FmG (cur ++ r):=by
 intro r
 induction r with
 | nil =>
  intro cur al h
  by_cases h1 : raB cur = true
  ·rw [List.append_nil]; exact FmG.one h1
  ·simp only [rfo,if_neg h1] at h; cases h
 | cons x r ih =>
  intro cur al h
  simp only [rfo] at h
  by_cases h1 : eqW x starW = true
  ·rw [if_pos h1] at h
   by_cases h2 : raB cur = true
   ·rw [if_pos h2] at h
    obtain ⟨a,ha,_⟩:=Option.map_eq_some_iff.1 h
    rw [eqW_iff.1 h1]
    exact FmG.more h2 (ih ha)
   ·rw [if_neg h2] at h; cases h
  ·rw [if_neg h1] at h
   have:=ih h
   rwa [List.append_assoc] at this
theorem rfo_run {p : List ByteArray} (h : ∀ x ∈ p,x ≠ starW) : ∀ cur r,rfo cur (p ++ r) = rfo (cur ++ p) r:=by
 induction p with
 | nil=>intro cur r; rw [List.append_nil]; rfl
 | cons x p ih =>
  intro cur r
  show rfo cur (x :: (p ++ r)) = _
  simp only [rfo]
  rw [eqW_ne (h x (by simp)),if_neg (by simp),ih (fun y hy=>h y (by simp [hy])),List.append_assoc]
  rfl
theorem rfo_complete {f : List ByteArray} (h : FmG f) : ∃ al,rfo [] f = some al:=by
 induction h using FmG.ind with
 | @one p hp =>
  have:=rfo_run (atom_star hp) [] []
  rw [List.append_nil] at this
  rw [this]
  exact ⟨_,by simp only [rfo,List.nil_append,if_pos hp]; rfl⟩
 | @more p r hp _ ih =>
  obtain ⟨al,ha⟩:=ih
  rw [rfo_run (atom_star hp)]
  exact ⟨_,by simp only [rfo,List.nil_append,eqW_rfl,if_true,if_pos hp,ha]; rfl⟩
def one1 (c : UInt8) : ByteArray:=⟨#[c]⟩
theorem low_one {x : ByteArray} (h : lowB x = true) : x = one1 (hd0 x):=by
 obtain ⟨⟨l⟩⟩:=x
 match l,h with
 | [c],_=>rfl
theorem up_one {x : ByteArray} (h : upB x = true) : x = one1 (hd0 x):=by
 obtain ⟨⟨l⟩⟩:=x
 match l,h with
 | [c],_=>rfl
theorem fnd_plc (l : List UInt8) (c : UInt8) : fndL (l.map one1) (one1 c) = plc l c:=by
 induction l with
 | nil=>rfl
 | cons a l ih =>
  show (if eqW (one1 a) (one1 c) = true then 0 else fndL (l.map one1) (one1 c) + 1) = if a = c then 0 else plc l c + 1
  by_cases h : a = c
  ·rw [if_pos h,if_pos (by rw [h]; exact eqW_rfl _)]
  ·rw [if_neg h,if_neg,ih]
   intro e
   have:=eqW_iff.1 e
   simp only [one1,ByteArray.mk.injEq,Array.mk.injEq,List.cons.injEq,and_true] at this
   exact h this
theorem add_put (l : List UInt8) (c : UInt8) : addIf true (l.map one1) (one1 c) = (put l c).map one1:=by
 have h1:=plc_le l c
 unfold addIf put amI
 rw [fnd_plc]
 simp only [List.length_map,Bool.true_and]
 by_cases h : plc l c = l.length
 ·rw [if_pos h,if_pos (by rw [h]; simp)]
  simp
 ·rw [if_neg h,if_neg]
  rw [if_pos (by omega)]
  simp
theorem pk_of {ws : List ByteArray} {s : PS} (h : s.failed = false) : pk ws s = ws[s.pos]?.getD em:=by
 unfold pk; rw [if_neg (by simp [h])]; rfl
theorem acB_pk {ws : List ByteArray} {s : PS} {k : ByteArray} (h : acB ws k s = true) : pk ws s = k:=eqW_iff.1 h
def nmI (z l : List ByteArray) : Nat → List ByteArray
 | 0=>z
 | k + 1=>addIf (lowB (l[k]?.getD em) && !dotB l k) (nmI z l k) (l[k]?.getD em)
theorem nmI_len (z l : List ByteArray) (k : Nat) : (nmI z l k).length ≤ z.length + k:=by
 induction k with
 | zero=>simp [nmI]
 | succ k ih=>have:=addIf_len (lowB (l[k]?.getD em) && !dotB l k) (nmI z l k) (l[k]?.getD em); simp only [nmI]; omega
def InvZ (z ws : List ByteArray) (s : PS) : Prop :=
 s.failed = false → dotB ws s.pos = false ∧ nmI z ws s.pos = s.vars.map one1 ∧ nmH ws s.pos = s.hid.map one1
def KeepZ (z ws : List ByteArray) (F : PS → PS) : Prop:=∀ s,InvZ z ws s → InvZ z ws (F s)
theorem iz_fail (z ws : List ByteArray) (s : PS) : InvZ z ws s.fail:=fun h=>(by cases h)
theorem nz_no {z ws : List ByteArray} {n : Nat} (hl : lowB (ws[n]?.getD em) = false) (hu : upB (ws[n]?.getD em) = false) : nmI z ws (n + 1) = nmI z ws n ∧ nmH ws (n + 1) = nmH ws n:=by
 constructor
 ·show addIf (lowB (ws[n]?.getD em) && !dotB ws n) _ _ = _; rw [hl]; rfl
 ·show addIf (upB (ws[n]?.getD em)) _ _ = _; rw [hu]; rfl
theorem kz_adv {z ws : List ByteArray} {s : PS} {k : ByteArray} (h : InvZ z ws s) (ha : acB ws k s = true) (hl : lowB k = false) (hu : upB k = false) (hd : k ≠ dotW) : InvZ z ws s.adv:=by
 intro hf
 have hf' : s.failed = false:=hf
 have hk:=(pk_of (ws:=ws) hf').symm.trans (acB_pk ha)
 obtain ⟨_,h2,h3⟩:=h hf'
 have hn:=nz_no (z:=z) (ws:=ws) (n:=s.pos) (by rw [hk]; exact hl) (by rw [hk]; exact hu)
 refine ⟨?_,hn.1.trans h2,hn.2.trans h3⟩
 show eqW (ws[s.pos]?.getD em) dotW = false
 rw [hk]; exact eqW_ne hd
theorem kz_ex {z ws : List ByteArray} {k : ByteArray} (hl : lowB k = false) (hu : upB k = false) (hd : k ≠ dotW) : KeepZ z ws (exS ws k):=by
 intro s h
 unfold exS
 by_cases ha : acB ws k s = true
 ·rw [if_pos ha]; exact kz_adv h ha hl hu hd
 ·rw [if_neg ha]; exact iz_fail _ _ _
theorem kz_va {z ws : List ByteArray} : KeepZ z ws (vaS ws):=by
 intro s h
 unfold vaS
 by_cases hl : lowB (pk ws s) = true
 ·rw [if_pos hl]
  intro hf
  have hf' : s.failed = false:=hf
  obtain ⟨h1,h2,h3⟩:=h hf'
  have hk:=pk_of (ws:=ws) hf'
  rw [hk] at hl
  have ho:=low_one hl
  refine ⟨?_,?_,?_⟩
  ·show eqW (ws[s.pos]?.getD em) dotW = false
   exact eqW_ne (low_ne hl rfl)
  ·show addIf (lowB (ws[s.pos]?.getD em) && !dotB ws s.pos) (nmI z ws s.pos) (ws[s.pos]?.getD em) = (put s.vars (hd0 (pk ws s))).map one1
   rw [h1,hl,h2,hk]
   conv=>lhs; rw [ho]
   exact add_put _ _
  ·show addIf (upB (ws[s.pos]?.getD em)) (nmH ws s.pos) _ = _
   rw [low_up _ hl]; exact h3
 ·rw [if_neg hl]; exact iz_fail _ _ _
theorem kz_val {z ws : List ByteArray} : KeepZ z ws (valS ws):=by
 intro s h
 unfold valS
 by_cases ha : acB ws kNil s = true
 ·rw [if_pos ha]; exact kz_adv h ha rfl rfl (data_ne (by simp [kNil,dotW]))
 ·rw [if_neg ha]; exact kz_va s h
theorem kz_te {z ws : List ByteArray} : KeepZ z ws (teS ws):=by
 intro s h
 unfold teS
 by_cases hl : upB (pk ws s) = true
 ·rw [if_pos hl]
  intro hf
  have hf' : s.failed = false:=hf
  obtain ⟨h1,h2,h3⟩:=h hf'
  have hk:=pk_of (ws:=ws) hf'
  rw [hk] at hl
  have ho:=up_one hl
  have hlo : lowB (ws[s.pos]?.getD em) = false:=by
   cases hx : lowB (ws[s.pos]?.getD em) with
   | false=>rfl
   | true=>rw [low_up _ hx] at hl; cases hl
  refine ⟨?_,?_,?_⟩
  ·show eqW (ws[s.pos]?.getD em) dotW = false
   exact eqW_ne (upB_ne hl rfl)
  ·show addIf (lowB (ws[s.pos]?.getD em) && !dotB ws s.pos) (nmI z ws s.pos) (ws[s.pos]?.getD em) = _
   rw [hlo]; exact h2
  ·show addIf (upB (ws[s.pos]?.getD em)) (nmH ws s.pos) (ws[s.pos]?.getD em) = (put s.hid (hd0 (pk ws s))).map one1
   rw [hl,h3,hk]
   conv=>lhs; rw [ho]
   exact add_put _ _
 ·rw [if_neg hl]; exact kz_val s h
theorem kz_ite {z ws : List ByteArray} {k : ByteArray} {A B : PS → PS} (hA : ∀ s,InvZ z ws s → acB ws k s = true → InvZ z ws (A s)) (hB : KeepZ z ws B) : KeepZ z ws (fun s=>if acB ws k s then A s else B s):=by
 intro s h
 dsimp only
 by_cases ha : acB ws k s = true
 ·rw [if_pos ha]; exact hA s h ha
 ·rw [if_neg ha]; exact hB s h
theorem zOpen {z ws : List ByteArray} : KeepZ z ws (exS ws kOpen):=kz_ex rfl rfl (data_ne (by simp [kOpen,dotW]))
theorem zClose {z ws : List ByteArray} : KeepZ z ws (exS ws kClose):=kz_ex rfl rfl (data_ne (by simp [kClose,dotW]))
theorem zComma {z ws : List ByteArray} : KeepZ z ws (exS ws kComma):=kz_ex rfl rfl (data_ne (by simp [kComma,dotW]))
theorem zTo {z ws : List ByteArray} : KeepZ z ws (exS ws kTo):=kz_ex rfl rfl (data_ne (by simp [kTo,dotW]))
theorem kz_rel {z ws : List ByteArray} : KeepZ z ws (relS ws) :=
 kz_ite (fun _ h ha=>kz_adv h ha rfl rfl (data_ne (by simp [kEq,dotW]))) (kz_ite (fun _ h ha=>kz_adv h ha rfl rfl (data_ne (by simp [kNe,dotW]))) zTo)
theorem kz_li {z ws : List ByteArray} : KeepZ z ws (liS ws):=fun _ h=>zClose _ (kz_te _ (zComma _ (kz_te _ (zOpen _ h))))
theorem kz_at {z ws : List ByteArray} : KeepZ z ws (atS ws) :=
 kz_ite (fun _ h ha=>kz_adv h ha rfl rfl (data_ne (by simp [kEmp,dotW]))) (kz_ite (fun _ h ha=>kz_li _ (kz_adv h ha rfl rfl (data_ne (by simp [kLs,dotW])))) (fun _ h=>kz_te _ (kz_rel _ (kz_te _ h))))
theorem kz_foG {z ws : List ByteArray} (n : Nat) : KeepZ z ws (fun s=>(foG ws n s).2):=by
 induction n with
 | zero=>exact fun _ h=>h
 | succ n ih =>
  intro s h
  simp only [foG]
  by_cases ha : acB ws kStar s = true
  ·rw [if_pos ha]; exact ih _ (kz_at _ (kz_adv h ha rfl rfl (data_ne (by simp [kStar,dotW]))))
  ·rw [if_neg ha]; exact h
theorem kz_fo {z ws : List ByteArray} : KeepZ z ws (foS ws):=fun s h=>kz_foG (ws.length + 1) _ (kz_at s h)
def plB (a : RAt) : Bool:=eqW a.k toW || eqW a.k lsW
def hold (ad nx : List Int) (ns : List ByteArray) (vs : List Int) (f : List RAt) : Bool:=celM ad nx (f.filter (fun a=>!plB a)) (f.filter plB).length (f.filter plB) ns vs (List.replicate ad.length true)
end Go.Proofs.YtciihepbeacppabGreat
