import Derived.Test.YtciihepbeacppaaGreatM05
import Derived.Test.YtciihepbeacppaaGreatM28
import Derived.Test.YtciihepbeacppaaGreatM29
import Derived.BigQuiet
import Derived.Deep.QuietTactic
namespace Go.Proofs.YtciihepbeacppaaGreat
open Go.RowKit
set_option linter.unusedVariables false
def anW (ws:List ByteArray):Rs:=anR (prS ws ini).nodes (prS ws ini).vars.length (prA ws ini)
def AnW (ws:List ByteArray):Prop:=An (prS ws ini) (prA ws ini)
def Prg (w:World) (X:Nat) (ws:List ByteArray) (G:List Nat):Prop :=
 ∃ Q vv pv nv fv Z,Pa w X Q ws (prS ws ini) (prA ws ini) vv pv nv fv Z∧G = X :: (cpB Q vv pv nv ++ Z)
section
variable {w w':World} {X:Nat} {ws:List ByteArray} {G:List Nat}
theorem Prg.of_eq (h:Prg w X ws G) (he:∀ k∈G,w'.heap[k]? = w.heap[k]?):Prg w' X ws G:=by
 obtain ⟨Q,vv,pv,nv,fv,Z,h1,rfl⟩:=h
 refine ⟨Q,vv,pv,nv,fv,Z,h1.of_eq (fun k hk=>he k ?_),rfl⟩
 rcases hk with rfl | hk | hk
 ·exact List.mem_cons_self
 ·exact List.mem_cons_of_mem _ (List.mem_append_left _ hk)
 ·exact List.mem_cons_of_mem _ (List.mem_append_right _ hk)
theorem Prg.lt (h:Prg w X ws G):∀ k∈G,k < w.heap.size:=by
 obtain ⟨Q,vv,pv,nv,fv,Z,h1,rfl⟩:=h
 intro k hk
 refine h1.lt k ?_
 rcases List.mem_cons.1 hk with rfl | hk
 ·exact Or.inl rfl
 ·rcases List.mem_append.1 hk with hk | hk
  ·exact Or.inr (Or.inl hk)
  ·exact Or.inr (Or.inr hk)
theorem Prg.mem (h:Prg w X ws G):X∈G:=by
 obtain ⟨Q,vv,pv,nv,fv,Z,h1,rfl⟩:=h
 exact List.mem_cons_self
theorem Prg.below (h:Prg w X ws G) (hb:Below w.heap.size w w'):Prg w' X ws G:=h.of_eq (fun k hk=>hb.block k (h.lt k hk))
theorem IsL.prg {B:Nat} (h:IsL B w X ws (prS ws ini) (prA ws ini)):∃ G,Prg w X ws G∧∀ k∈G,B≤k:=by
 obtain ⟨Q,h0,hB,h1⟩:=h
 obtain ⟨vv,pv,nv,hC,hge⟩:=h1.cp
 have hbx:Bk w X 88 [ptrA Q,.pointer none]:=h0
 have hrow:∀ {e sz n:Nat} {v:Value} {xs:List Value},w.ownsRow 0 e sz v n xs→e≠88→∀ k,v.ownBlock = some k→X≠k:=by
  intro e sz n v xs hr hne k hk hXk
  rcases hr.2 with ⟨rfl,-⟩ | ⟨g,cap,cur,rfl,-,hg,-⟩
  ·cases hk
  ·have e1:g = k:=by injection hk
   rw [e1,← hXk] at hg
   unfold Bk at hbx
   rw [hbx] at hg
   injection hg with hg
   injection hg with _ hg
   exact hne hg.symm
 have hPa:Pa w X Q ws (prS ws ini) (prA ws ini) vv pv nv (.pointer none) []:=by
  refine ⟨hbx,hC,Or.inl ⟨rfl,rfl⟩,fun hm=>?_,by simp⟩
  simp only [cpB,List.mem_cons,List.mem_append,Option.mem_toList] at hm
  rcases hm with rfl | hm | hm | hm
  ·have h2:=hC.bk
   unfold Bk at h2 hbx
   rw [h2] at hbx
   injection hbx with hbx
   injection hbx with _ hbx
   revert hbx
   decide
  ·exact hrow hC.vr (by decide) X hm rfl
  ·exact hrow hC.pr (by decide) X hm rfl
  ·exact hrow hC.nr (by decide) X hm rfl
 refine ⟨_,⟨Q,vv,pv,nv,_,[],hPa,rfl⟩,fun k hk=>?_⟩
 rcases List.mem_cons.1 hk with rfl | hk
 ·exact hB
 ·rw [List.append_nil] at hk
  exact hge k hk
structure Ask (w:World) (X:Nat) (ws:List ByteArray) (G G':List Nat) (w':World):Prop where
 pg:Prg w' X ws G'
 st:Stp [X] w [X] w'
 gr:∀ k∈G',k∈G∨w.heap.size≤k
theorem AnaP.ask {Q RB:Nat} {vv pv nv:Value} {Z:List Nat} {w1:World} (hG:G = X :: (cpB Q vv pv nv ++ Z)) (h:AnaP w X Q ws (prS ws ini) (prA ws ini) vv pv nv Z RB w1) (hb:Below w1.heap.size w1 w'):∃ G',Ask w X ws G G' w':=by
 obtain ⟨av,kv,FV,L,h1,-,h3,h4⟩:=h
 refine ⟨X :: (cpB Q vv pv nv ++ fdB RB av kv FV L),⟨Q,vv,pv,nv,_,_,h1.below hb,rfl⟩,⟨hb.os.trans h3.os,hb.tape.trans h3.tape,hb.output.trans h3.output,Nat.le_trans h3.size hb.size,fun k hk hX=>(hb.block k (Nat.lt_of_lt_of_le hk h3.size)).trans (h3.block k hk hX),fun k hk=>Or.inl hk⟩,fun k hk=>?_⟩
 rw [hG]
 rcases List.mem_cons.1 hk with rfl | hk
 ·exact Or.inl List.mem_cons_self
 ·rcases List.mem_append.1 hk with hk | hk
  ·exact Or.inl (List.mem_cons_of_mem _ (List.mem_append_left _ hk))
  ·rcases h4 k hk with hk | hk
   ·exact Or.inl (List.mem_cons_of_mem _ (List.mem_append_right _ hk))
   ·exact Or.inr hk
theorem Prg.verdict (h:Prg w X ws G) (hA:AnW ws):Calls Tryz.prog 33 #[.pointer (some ⟨X,0,none⟩)] w fun e w'=>e = .returned (.int .i64 ((anW ws).vd:Nat))∧∃ G',Ask w X ws G G' w':=by
 obtain ⟨Q,vv,pv,nv,fv,Z,h1,hG⟩:=h
 refine (verdict_any h1 hA).mono ?_
 rintro e w1 ⟨rfl,RB,hP⟩
 exact ⟨rfl,hP.ask hG (Below.refl _ _)⟩
theorem Prg.alarms (h:Prg w X ws G) (hA:AnW ws):Calls Tryz.prog 41 #[.pointer (some ⟨X,0,none⟩)] w fun e w'=>∃ v,e = .returned v∧w'.ownsRow w.heap.size 82 2 v (anW ws).al.length (alC (anW ws).al)∧((anW ws).al = []→v = .slice none 0 0)∧∃ G',Ask w X ws G G' w':=by
 obtain ⟨Q,vv,pv,nv,fv,Z,h1,hG⟩:=h
 refine (alarms_any h1 hA (an_alarms hA)).mono ?_
 rintro e w2 ⟨v,rfl,g1,g2,RB,w1,hP,hb⟩
 exact ⟨v,rfl,g1,g2,hP.ask hG hb⟩
theorem Prg.invariant2 (h:Prg w X ws G) (hA:AnW ws) (z:Int):Calls Tryz.prog 37 #[.pointer (some ⟨X,0,none⟩),.int .i64 z] w fun e w'=>∃ v,e = .returned v∧w'.ownsRow w.heap.size 9 1 v (ivT (prS ws ini).vars (anW ws) z).length (stC (ivT (prS ws ini).vars (anW ws) z))∧(ivT (prS ws ini).vars (anW ws) z = []→v = .slice none 0 0)∧∃ G',Ask w X ws G G' w'∧∀ k,v.ownBlock = some k→k ∉ G':=by
 obtain ⟨Q,vv,pv,nv,fv,Z,h1,hG⟩:=h
 refine (invariant_any h1 hA (an_lists hA) z).mono ?_
 rintro e w2 ⟨v,rfl,g1,g2,RB,w1,hP,hb,g3⟩
 obtain ⟨G1,h2⟩:=hP.ask (w':=w1) hG (Below.refl _ _)
 refine ⟨v,rfl,g1,g2,G1,⟨h2.pg.below hb,⟨hb.os.trans h2.st.os,hb.tape.trans h2.st.tape,hb.output.trans h2.st.output,Nat.le_trans h2.st.size hb.size,fun k hk hX=>(hb.block k (Nat.lt_of_lt_of_le hk h2.st.size)).trans (h2.st.block k hk hX),fun k hk=>Or.inl hk⟩,h2.gr⟩,fun k hk hm=>?_⟩
 have:=g3 k hk
 have:=h2.pg.lt k hm
 omega
theorem Prg.invariant (h:Prg w X ws G) (hA:AnW ws) (z:Int):Calls Tryz.prog 37 #[.pointer (some ⟨X,0,none⟩),.int .i64 z] w fun e w'=>∃ v,e = .returned v∧w'.ownsRow w.heap.size 9 1 v (ivT (prS ws ini).vars (anW ws) z).length (stC (ivT (prS ws ini).vars (anW ws) z))∧(ivT (prS ws ini).vars (anW ws) z = []→v = .slice none 0 0)∧∃ G',Ask w X ws G G' w' :=
 (h.invariant2 hA z).mono (fun _ _ ⟨v,e,g1,g2,G',h1,_⟩=>⟨v,e,g1,g2,G',h1⟩)
set_option maxRecDepth 100000 in
set_option maxHeartbeats 1000000 in
theorem Prg.text (h:Prg w X ws G):Calls Tryz.prog 27 #[.pointer (some ⟨X,0,none⟩)] w fun e w'=>e = .returned (.string ⟨(jn ws).toArray⟩)∧∃ n,w' = w.drewN n:=by
 obtain ⟨Q,vv,pv,nv,fv,Z,h1,-⟩:=h
 have HE:=hide (lempty_any h1.bx)
 have c0:w.cell? ⟨X,0,none⟩ = some (.pointer (some ⟨Q,0,none⟩)):=h1.bx.cell 0 rfl
 have q0:=h1.cp.bk.cell 0 rfl
 clear h1
 go_enter Tryz.func27,Tryz.ntmps27
 go_wp2_with (go_at_call 53;refine (uh HE).mono ?_;rintro e w' ⟨rfl,n,rfl⟩)
 go_ret
 exact ⟨rfl,_,rfl⟩
set_option maxRecDepth 100000 in
set_option maxHeartbeats 1000000 in
theorem Prg.nodes (h:Prg w X ws G):Calls Tryz.prog 29 #[.pointer (some ⟨X,0,none⟩)] w fun e w'=>e = .returned (.int .i64 (prS ws ini).nodes.length)∧∃ n,w' = w.drewN n:=by
 obtain ⟨Q,vv,pv,nv,fv,Z,h1,-⟩:=h
 have HE:=hide (lempty_any h1.bx)
 have c0:w.cell? ⟨X,0,none⟩ = some (.pointer (some ⟨Q,0,none⟩)):=h1.bx.cell 0 rfl
 have q0:=h1.cp.bk.cell 3 rfl
 obtain ⟨aa,ac,hav,-,-⟩:=own_slc h1.cp.nr
 subst hav
 clear h1
 go_enter Tryz.func29,Tryz.ntmps29
 go_wp2_with (go_at_call 53;refine (uh HE).mono ?_;rintro e w' ⟨rfl,n,rfl⟩)
 go_ret
 exact ⟨rfl,_,rfl⟩
end
def Dsk (w:World) (Y X:Nat) (s:ByteArray):Prop:=Bk w Y 36 [.pointer (some ⟨X,0,none⟩),.string s,.slice none 0 0,.slice none 0 0]
set_option maxRecDepth 100000 in
set_option maxHeartbeats 2000000 in
theorem desk_any (s:ByteArray) (w:World):Calls Tryz.prog 16 #[.string s] w fun e w'=>Below w.heap.size w w'∧(((240 < s.size∨rdE s.data.toList≠0)∧e = .returned (.tuple #[.pointer none,.bool true])) ∨
  (s.size≤240∧rdE s.data.toList = 0∧∃ Y X G,e = .returned (.tuple #[.pointer (some ⟨Y,0,none⟩),.bool true])∧Dsk w' Y X s∧w.heap.size≤Y∧Y ∉ G∧Prg w' X (rdW s.data.toList) G∧∀ k∈G,w.heap.size≤k)):=by
 by_cases hl:240 < s.size
 ·have d0:decide ((240:Int) < (s.size:Int)) = true:=by simp;omega
  go_enter Tryz.func16,Tryz.ntmps16
  go_wp2_with fail
  go_ret2
  exact ⟨Below.refl _ _,Or.inl ⟨Or.inl hl,rfl⟩⟩
 ·have d0:decide ((240:Int) < (s.size:Int)) = false:=by simp;omega
  have HLD:=hide (load_any s w (by omega))
  go_enter Tryz.func16,Tryz.ntmps16
  go_wp2_with fail
  refine (uh HLD).mono ?_
  rintro e w1 ⟨hb,⟨hne,rfl⟩ | ⟨h0,X,rfl,hL⟩⟩
  ·have d1:((rdE s.data.toList:Int) == 0) = false:=by simp;omega
   obtain ⟨z,hz⟩:∃ z,z = rdE s.data.toList:=⟨_,rfl⟩
   rw [← hz] at d1 hne ⊢
   have HB:=hide hb
   have HZ:=hide hz
   clear hb HLD hz
   go_wp2_with fail
   go_ret2
   have hz1:((z:Int) != 0) = true:=by simp;omega
   exact ⟨uh HB,Or.inl ⟨Or.inr (by rw [← uh HZ];exact hne),by rw [← hz1];rfl⟩⟩
  ·obtain ⟨G,hG,hge⟩:=IsL.prg (show IsL w.heap.size w1 X (rdW s.data.toList) (prS (rdW s.data.toList) ini) (prA (rdW s.data.toList) ini) from hL)
   have HN:Hid (Below w.heap.size w (w1.alloc (.cells #[.pointer (some ⟨X,0,none⟩),.string s,.slice none 0 0,.slice none 0 0] 36))∧Dsk (w1.alloc (.cells #[.pointer (some ⟨X,0,none⟩),.string s,.slice none 0 0,.slice none 0 0] 36)) w1.heap.size X s∧w.heap.size≤w1.heap.size∧w1.heap.size ∉ G∧Prg (w1.alloc (.cells #[.pointer (some ⟨X,0,none⟩),.string s,.slice none 0 0,.slice none 0 0] 36)) X (rdW s.data.toList) G∧∀ k∈G,w.heap.size≤k):=hide ⟨hb.trans ((below_boxQ w1 _).mono hb.size),Bk.new w1 _ _,hb.size,fun hm=>by have:=hG.lt _ hm;omega,hG.below (below_boxQ w1 _),hge⟩
   have H0:=hide h0
   clear hb hL hG hge HLD h0
   go_wp2_with fail
   go_ret2
   exact ⟨(uh HN).1,Or.inr ⟨by omega,uh H0,_,X,G,rfl,(uh HN).2⟩⟩
def shA (k:Nat) (l:List (Nat × Nat)):List (Nat × Nat):=l.map (fun p=>(p.1 + k,p.2))
section
variable {w:World} {B B':Nat} {va vb:Value}
set_option maxRecDepth 100000 in
set_option maxHeartbeats 4000000 in
theorem sameTexts_any {a b:List (List UInt8)} (ha:w.ownsRow B 9 1 va a.length (stC a)) (hb:w.ownsRow B' 9 1 vb b.length (stC b)) :
  Calls Tryz.prog 43 #[va,vb] w fun e w'=>e = .returned (.bool (decide (a = b)))∧∃ n,w' = w.drewN n:=by
 obtain ⟨aa,ac,rfl,ha1,ha2⟩:=own_slc ha
 obtain ⟨ba,bc,rfl,hb1,hb2⟩:=own_slc hb
 by_cases hl:a.length = b.length
 ·have d0:((a.length:Int) == (b.length:Int)) = true:=by simp;omega
  have HL:=hide hl
  have HA:=hide ha
  have HB:=hide hb
  rw [← hl] at hb1 d0
  rw [← hl]
  clear ha hb
  go_enter Tryz.func43,Tryz.ntmps43
  clear hl
  go_wp2_with fail
  go_loopg [5] a.length (fun gn iv wx=>∃ (k:Nat),k + gn = a.length∧iv = .int .i64 k∧Hid ((∃ n,wx = w.drewN n)∧∀ i,(hi:i < a.length)→(hj:i < b.length)→i < k→a[i] = b[i]))
  case atStart=>exact ⟨0,by omega,rfl,hide ⟨⟨0,rfl⟩,fun i _ _ h=>by omega⟩⟩
  case round =>
   obtain ⟨k,hkn,rfl,hI⟩:=hrel
   obtain ⟨G1,hG1⟩:∃ G1,G1 = gk:=⟨_,rfl⟩
   obtain ⟨⟨n,rfl⟩,hall⟩:=uh hI
   by_cases hlt:k < a.length
   ·have hd:decide ((k:Int) < (a.length:Int)) = true:=by simp;omega
    have hlb:k < b.length:=by have:=uh HL;omega
    obtain ⟨g,cap,hgv,-,-⟩:=own_pos (uh HA) (by omega)
    simp only [Value.slice.injEq,true_and] at hgv
    obtain ⟨rfl,rfl⟩:=hgv
    obtain ⟨g2,cap2,hgv2,-,-⟩:=own_pos (uh HB) (by omega)
    simp only [Value.slice.injEq,true_and] at hgv2
    obtain ⟨rfl,rfl⟩:=hgv2
    have x0:w.cell? ⟨g,k,none⟩ = some (.string ⟨(a.getD k []).toArray⟩):=((uh HA).cellAt k (by omega)).trans (stC_get hlt)
    have y0:w.cell? ⟨g2,k,none⟩ = some (.string ⟨(b.getD k []).toArray⟩):=((uh HB).cellAt k (by omega)).trans (stC_get hlb)
    have x1:=x0
    have y1:=y0
    have ea:a.getD k [] = a[k]:=by simp [hlt]
    have eb:b.getD k [] = b[k]:=by simp [hlb]
    obtain ⟨p,hp⟩:∃ p,p = a.getD k []:=⟨_,rfl⟩
    obtain ⟨q,hq⟩:∃ q,q = b.getD k []:=⟨_,rfl⟩
    rw [← hp] at x1 ea
    rw [← hq] at y1 eb
    have k1:(0:Int)≤(k:Int):=by omega
    have k2:(k:Int) < (a.length:Int):=by omega
    by_cases hpq:p = q
    ·have e0:(p == q) = true:=by rw [beq_iff_eq];exact hpq
     have HN:Hid (∀ i,(hi:i < a.length)→(hj:i < b.length)→i < k + 1→a[i] = b[i]):=hide (fun i hi hj h=>by
      by_cases e:i = k
      ·subst e;rw [← ea,← eb,hpq]
      ·exact hall i hi hj (by omega))
     clear hpq ea eb hp hq x0 y0 hall hI
     go_upto_region 6 with fail
     go_quiet (fail)
     go_wp2_with fail
     go_roundg (G1 - 1)
     case rel=>exact ⟨k + 1,by omega,by go_num,hide ⟨⟨_,rfl⟩,uh HN⟩⟩
     case measure=>omega
    ·have e0:(p == q) = false:=by rw [beq_eq_false_iff_ne];exact hpq
     have HN:Hid (decide (a = b) = false):=hide (by
      rw [decide_eq_false_iff_not]
      intro e
      subst e
      exact hpq (by rw [ea,eb]))
     clear hpq ea eb hp hq x0 y0 hall hI
     go_upto_region 6 with fail
     go_quiet (fail)
     go_wp2_with fail
     go_ret
     exact ⟨by rw [uh HN];rfl,by first | exact ⟨_,rfl⟩ | exact ⟨_,World.drewN_drewN _ _ _⟩⟩
   ·have hd:decide ((k:Int) < (a.length:Int)) = false:=by simp;omega
    have HN:Hid (decide (a = b) = true):=hide (by rw [decide_eq_true_eq];exact List.ext_getElem (uh HL) (fun i h1 h2=>hall i h1 h2 (by omega)))
    clear hall hI
    go_wp2_with fail
    go_ret
    exact ⟨by rw [uh HN];rfl,by first | exact ⟨_,rfl⟩ | exact ⟨_,World.drewN_drewN _ _ _⟩⟩
 ·have d0:((a.length:Int) == (b.length:Int)) = false:=by simp;omega
  have HN:Hid (decide (a = b) = false):=hide (by rw [decide_eq_false_iff_not];intro e;exact hl (by rw [e]))
  clear ha hb hl
  go_enter Tryz.func43,Tryz.ntmps43
  go_wp2_with fail
  go_ret
  exact ⟨by rw [uh HN];rfl,0,rfl⟩
set_option maxRecDepth 100000 in
set_option maxHeartbeats 4000000 in
theorem sameAlarms_any {a b:List (Nat × Nat)} (m:Nat) (hm:m≤1000) (ha:w.ownsRow B 82 2 va a.length (alC a)) (hb:w.ownsRow B' 82 2 vb b.length (alC b)) (hs:∀ p∈a,p.1≤1000000) :
  Calls Tryz.prog 42 #[va,vb,.int .i64 m] w fun e w'=>e = .returned (.bool (decide (shA m a = b)))∧∃ n,w' = w.drewN n:=by
 obtain ⟨aa,ac,rfl,ha1,ha2⟩:=own_slc ha
 obtain ⟨ba,bc,rfl,hb1,hb2⟩:=own_slc hb
 have hsl:(shA m a).length = a.length:=by simp [shA]
 by_cases hl:a.length = b.length
 ·have d0:((a.length:Int) == (b.length:Int)) = true:=by simp;omega
  have HL:=hide hl
  have HA:=hide ha
  have HB:=hide hb
  rw [← hl] at hb1 d0
  rw [← hl]
  clear ha hb
  go_enter Tryz.func42,Tryz.ntmps42
  clear hl
  go_wp2_with fail
  go_loopg [7] a.length (fun gn iv wx=>∃ (k:Nat),k + gn = a.length∧iv = .int .i64 k∧Hid ((∃ n,wx = w.drewN n)∧∀ i,(hi:i < a.length)→(hj:i < b.length)→i < k→(a[i].1 + m,a[i].2) = b[i]))
  case atStart=>exact ⟨0,by omega,rfl,hide ⟨⟨0,rfl⟩,fun i _ _ h=>by omega⟩⟩
  case round =>
   obtain ⟨k,hkn,rfl,hI⟩:=hrel
   obtain ⟨G1,hG1⟩:∃ G1,G1 = gk:=⟨_,rfl⟩
   obtain ⟨⟨n,rfl⟩,hall⟩:=uh hI
   by_cases hlt:k < a.length
   ·have hd:decide ((k:Int) < (a.length:Int)) = true:=by simp;omega
    have hlb:k < b.length:=by have:=uh HL;omega
    obtain ⟨g,cap,hgv,-,-⟩:=own_pos (uh HA) (by omega)
    simp only [Value.slice.injEq,true_and] at hgv
    obtain ⟨rfl,rfl⟩:=hgv
    obtain ⟨g2,cap2,hgv2,-,-⟩:=own_pos (uh HB) (by omega)
    simp only [Value.slice.injEq,true_and] at hgv2
    obtain ⟨rfl,rfl⟩:=hgv2
    have x0:w.cell? ⟨g,k * 2,none⟩ = some (.int .i64 (a[k].1:Int)):=((uh HA).cellAt (k * 2) (by omega)).trans (alC_get hlt).1
    have x1:w.cell? ⟨g,k * 2 + 1,none⟩ = some (.int .i64 (a[k].2:Int)):=((uh HA).cellAt (k * 2 + 1) (by omega)).trans (alC_get hlt).2
    have y0:w.cell? ⟨g2,k * 2,none⟩ = some (.int .i64 (b[k].1:Int)):=((uh HB).cellAt (k * 2) (by omega)).trans (alC_get hlb).1
    have y1:w.cell? ⟨g2,k * 2 + 1,none⟩ = some (.int .i64 (b[k].2:Int)):=((uh HB).cellAt (k * 2 + 1) (by omega)).trans (alC_get hlb).2
    have hsk:=hs a[k] (List.getElem_mem hlt)
    obtain ⟨p,hp⟩:∃ p,p = a[k]:=⟨_,rfl⟩
    obtain ⟨q,hq⟩:∃ q,q = b[k]:=⟨_,rfl⟩
    rw [← hp] at x0 x1 hsk
    rw [← hq] at y0 y1
    obtain ⟨p1,p2⟩:=p
    obtain ⟨q1,q2⟩:=q
    simp only at x0 x1 y0 y1 hsk
    have k1:(0:Int)≤(k:Int):=by omega
    have k2:(k:Int) < (a.length:Int):=by omega
    have ewr:IntKind.i64.wrap ((p1:Int) + (m:Int)) = (p1:Int) + (m:Int):=by rw [IntKind.wrap_i64];omega
    by_cases h2:p2 = q2
    ·have e2:((p2:Int) != (q2:Int)) = false:=by simp;omega
     by_cases h1:p1 + m = q1
     ·have e1:((p1:Int) + (m:Int) != (q1:Int)) = false:=by simp;omega
      have HN:Hid (∀ i,(hi:i < a.length)→(hj:i < b.length)→i < k + 1→(a[i].1 + m,a[i].2) = b[i]):=hide (fun i hi hj h=>by
       by_cases e:i = k
       ·subst e;rw [← hp,← hq];simp only;rw [h1,h2]
       ·exact hall i hi hj (by omega))
      clear h1 h2 hp hq hall hI hsk hs hsl
      go_upto_region 6 with fail
      go_quiet (fail)
      go_wp2_with fail
      go_roundg (G1 - 1)
      case rel=>exact ⟨k + 1,by omega,by go_num,hide ⟨⟨_,rfl⟩,uh HN⟩⟩
      case measure=>omega
     ·have e1:((p1:Int) + (m:Int) != (q1:Int)) = true:=by simp;omega
      have HN:Hid (decide (shA m a = b) = false):=hide (by
       rw [decide_eq_false_iff_not]
       intro e
       have h9:(shA m a)[k]? = b[k]?:=by rw [e]
       rw [List.getElem?_eq_getElem hlb,← hq] at h9
       unfold shA at h9
       rw [List.getElem?_map,List.getElem?_eq_getElem hlt,← hp] at h9
       simp at h9
       exact h1 h9.1)
      clear h1 h2 hp hq hall hI hsk hs hsl
      go_upto_region 6 with fail
      go_quiet (fail)
      go_wp2_with fail
      go_ret
      exact ⟨by rw [uh HN];rfl,by first | exact ⟨_,rfl⟩ | exact ⟨_,World.drewN_drewN _ _ _⟩⟩
    ·have e2:((p2:Int) != (q2:Int)) = true:=by simp;omega
     have HN:Hid (decide (shA m a = b) = false):=hide (by
      rw [decide_eq_false_iff_not]
      intro e
      have h9:(shA m a)[k]? = b[k]?:=by rw [e]
      rw [List.getElem?_eq_getElem hlb,← hq] at h9
      unfold shA at h9
      rw [List.getElem?_map,List.getElem?_eq_getElem hlt,← hp] at h9
      simp at h9
      exact h2 h9.2)
     clear h2 hp hq hall hI hsk hs hsl
     go_upto_region 6 with fail
     go_quiet (fail)
     go_wp2_with fail
     go_ret
     exact ⟨by rw [uh HN];rfl,by first | exact ⟨_,rfl⟩ | exact ⟨_,World.drewN_drewN _ _ _⟩⟩
   ·have hd:decide ((k:Int) < (a.length:Int)) = false:=by simp;omega
    have HN:Hid (decide (shA m a = b) = true):=hide (by
     rw [decide_eq_true_eq]
     refine List.ext_getElem (by rw [hsl];exact uh HL) (fun i h1 h2=>?_)
     have h3:i < a.length:=by omega
     rw [← hall i h3 h2 (by omega)]
     simp [shA])
    clear hall hI hs hsl
    go_wp2_with fail
    go_ret
    exact ⟨by rw [uh HN];rfl,by first | exact ⟨_,rfl⟩ | exact ⟨_,World.drewN_drewN _ _ _⟩⟩
 ·have d0:((a.length:Int) == (b.length:Int)) = false:=by simp;omega
  have HN:Hid (decide (shA m a = b) = false):=hide (by rw [decide_eq_false_iff_not];intro e;exact hl (by rw [← hsl,e]))
  clear ha hb hl hs hsl
  go_enter Tryz.func42,Tryz.ntmps42
  go_wp2_with fail
  go_ret
  exact ⟨by rw [uh HN];rfl,0,rfl⟩
end
structure Duo (w0 w:World) (Y X1 X2:Nat) (s:ByteArray) (ws1 ws2:List ByteArray) (G1 G2:List Nat):Prop where
 dk:Dsk w Y X1 s
 p1:Prg w X1 ws1 G1
 p2:Prg w X2 ws2 G2
 y1:Y ∉ G1
 y2:Y ∉ G2
 dj:∀ k∈G1,k ∉ G2
 b1:∀ k∈G1,w0.heap.size≤k
 b2:∀ k∈G2,w0.heap.size≤k
 bw:Below w0.heap.size w0 w
theorem row_ask {w w':World} {X base n sz:Nat} {e:TypeId} {v:Value} {xs:List Value} (hr:w.ownsRow base e sz v n xs) (hX:X < base) (st:Stp [X] w [X] w'):w'.ownsRow base e sz v n xs :=
 ownsRow_of_eq hr (fun k hk=>st.block k (hr.lt k hk).2 (by have:=(hr.lt k hk).1;simp;omega))
section
variable {w0 w w':World} {Y X1 X2:Nat} {s:ByteArray} {ws1 ws2:List ByteArray} {G1 G2 G':List Nat}
theorem Duo.below (h:Duo w0 w Y X1 X2 s ws1 ws2 G1 G2) (hb:Below w.heap.size w w'):Duo w0 w' Y X1 X2 s ws1 ws2 G1 G2 :=
 ⟨Bk.below h.dk hb,h.p1.below hb,h.p2.below hb,h.y1,h.y2,h.dj,h.b1,h.b2,h.bw.trans (hb.mono h.bw.size)⟩
theorem Duo.ask1 (h:Duo w0 w Y X1 X2 s ws1 ws2 G1 G2) (a:Ask w X1 ws1 G1 G' w'):Duo w0 w' Y X1 X2 s ws1 ws2 G' G2:=by
 have hYl:Y < w.heap.size:=Bk.lt h.dk
 have hX:=h.p1.mem
 refine ⟨Bk.stp h.dk a.st (by simp only [List.mem_singleton];intro e;exact h.y1 (by rw [e];exact hX)),a.pg,h.p2.of_eq (fun k hk=>a.st.block k (h.p2.lt k hk) (by simp only [List.mem_singleton];intro e;exact h.dj X1 hX (by rw [← e];exact hk))),fun hk=>?_,h.y2,fun k hk hk2=>?_,fun k hk=>?_,h.b2,?_⟩
 ·rcases a.gr Y hk with hk | hk
  ·exact h.y1 hk
  ·omega
 ·rcases a.gr k hk with hk | hk
  ·exact h.dj k hk hk2
  ·have:=h.p2.lt k hk2;omega
 ·rcases a.gr k hk with hk | hk
  ·exact h.b1 k hk
  ·have:=h.bw.size;omega
 ·exact h.bw.trans (a.st.below h.bw.size (fun k hk=>by rw [List.mem_singleton.1 hk];exact h.b1 X1 hX))
theorem Duo.ask2 (h:Duo w0 w Y X1 X2 s ws1 ws2 G1 G2) (a:Ask w X2 ws2 G2 G' w'):Duo w0 w' Y X1 X2 s ws1 ws2 G1 G':=by
 have hYl:Y < w.heap.size:=Bk.lt h.dk
 have hX:=h.p2.mem
 refine ⟨Bk.stp h.dk a.st (by simp only [List.mem_singleton];intro e;exact h.y2 (by rw [e];exact hX)),h.p1.of_eq (fun k hk=>a.st.block k (h.p1.lt k hk) (by simp only [List.mem_singleton];intro e;exact h.dj k hk (by rw [e];exact hX))),a.pg,h.y1,fun hk=>?_,fun k hk hk2=>?_,h.b1,fun k hk=>?_,?_⟩
 ·rcases a.gr Y hk with hk | hk
  ·exact h.y2 hk
  ·omega
 ·rcases a.gr k hk2 with hk2 | hk2
  ·exact h.dj k hk hk2
  ·have:=h.p1.lt k hk;omega
 ·rcases a.gr k hk with hk | hk
  ·exact h.b2 k hk
  ·have:=h.bw.size;omega
 ·exact h.bw.trans (a.st.below h.bw.size (fun k hk=>by rw [List.mem_singleton.1 hk];exact h.b2 X2 hX))
end
theorem alL_lt {wr:List (List Bool)}:∀ p∈alL wr,p.1 < wr.length:=by
 intro p hp
 unfold alL at hp
 obtain ⟨n,hn,hp⟩:=List.mem_flatMap.1 hp
 obtain ⟨k,-,rfl⟩:=List.mem_map.1 hp
 exact List.mem_range.1 hn
theorem anW_lt {ws:List ByteArray}:∀ p∈(anW ws).al,p.1 < (prS ws ini).nodes.length:=by
 unfold anW anR rsO
 split
 ·intro p hp;simp at hp
 ·intro p hp
  have:=alL_lt p hp
  rw [an_wl] at this
  exact this
theorem shA_zero (l:List (Nat × Nat)):shA 0 l = l:=by unfold shA;simp
section
variable {w0 w:World} {Y X:Nat} {s:ByteArray} {ws:List ByteArray} {G:List Nat}
set_option maxRecDepth 100000 in
set_option maxHeartbeats 8000000 in
theorem again_any (hdk:Dsk w Y X s) (hp:Prg w X ws G) (hY:Y ∉ G) (hge:∀ k∈G,w0.heap.size≤k) (hbw:Below w0.heap.size w0 w) (hA:AnW ws) (hnl:(prS ws ini).nodes.length≤100000) (hjl:(jn ws).length≤20000) (hr:rdW (jn ws) = ws) (hE:(jn ws).length≤240→rdE (jn ws) = 0) :
  Calls Tryz.prog 22 #[.pointer (some ⟨Y,0,none⟩)] w fun e w'=>e = .returned (.bool true)∧Below w0.heap.size w0 w':=by
 have c0:w.cell? ⟨Y,0,none⟩ = some (.pointer (some ⟨X,0,none⟩)):=hdk.cell 0 rfl
 have HTX:=hide hp.text
 have H:=hide (And.intro hdk (And.intro hp (And.intro hY (And.intro hge hbw))))
 have HA:=hide hA
 have HR:=hide hr
 have HEE:=hide hE
 clear hdk hp hY hge hbw hA hr hE
 go_enter Tryz.func22,Tryz.ntmps22
 go_wp2_with fail
 refine (uh HTX).mono ?_
 rintro e w1 ⟨rfl,n,rfl⟩
 have hb1:Below w.heap.size w (w.drewN n):=bw_drewN w n
 obtain ⟨W1,hW1⟩:∃ W1,W1 = w.drewN n:=⟨_,rfl⟩
 rw [← hW1] at hb1 ⊢
 have HB1:=hide hb1
 clear hb1 hW1 HTX c0
 by_cases hl:240 < (jn ws).length
 ·have d0:decide ((240:Int) < ((jn ws).length:Int)) = true:=by simp;omega
  have HN:Hid (Below w0.heap.size w0 W1):=hide ((uh H).2.2.2.2.trans ((uh HB1).mono (uh H).2.2.2.2.size))
  clear hl
  go_wp2_with fail
  go_ret
  exact ⟨rfl,uh HN⟩
 ·have d0:decide ((240:Int) < ((jn ws).length:Int)) = false:=by simp;omega
  have hE0:=uh HEE (by omega)
  have HLD:=hide (load_any ⟨(jn ws).toArray⟩ W1 (by show (jn ws).toArray.size≤20000;simpa using hjl))
  have HE0:=hide hE0
  clear hl hE0 HEE
  go_wp2_with fail
  refine (uh HLD).mono ?_
  rintro e w2 ⟨hb2,⟨hne,-⟩ | ⟨-,X2,rfl,hL⟩⟩
  ·exact absurd (uh HE0) hne
  ·rw [uh HR] at hL
   have hS:rdS (jn ws) = prS ws ini:=by unfold rdS;rw [uh HR]
   rw [hS] at hL
   obtain ⟨G2,hG2,hge2⟩:=hL.prg
   have hD:Duo w0 w2 Y X X2 s ws ws G G2:=by
    obtain ⟨h1,h2,h3,h4,h5⟩:=uh H
    have hbb:=(uh HB1).trans (hb2.mono (uh HB1).size)
    have hs1:=(uh HB1).size
    exact ⟨Bk.below h1 hbb,h2.below hbb,hG2,h3,fun hm=>by have:=hge2 _ hm;have:=Bk.lt h1;omega,fun k hk hk2=>by have:=hge2 _ hk2;have:=h2.lt k hk;omega,h4,fun k hk=>by have:=hge2 k hk;have:=h5.size;omega,h5.trans (hbb.mono h5.size)⟩
   have HTX:=hide hG2.text
   have HD:=hide hD
   clear hb2 hL hS hG2 hge2 hD HLD H HB1 HR HE0 d0
   go_wp2_with fail
   refine (uh HTX).mono ?_
   rintro e w3 ⟨rfl,n3,rfl⟩
   have hD3:=(uh HD).below (bw_drewN w2 n3)
   obtain ⟨W3,hW3⟩:∃ W3,W3 = w2.drewN n3:=⟨_,rfl⟩
   rw [← hW3] at hD3 ⊢
   have c3:W3.cell? ⟨Y,0,none⟩ = some (.pointer (some ⟨X,0,none⟩)):=hD3.dk.cell 0 rfl
   have HV:=hide (hD3.p1.verdict (uh HA))
   have HD3:=hide hD3
   clear hD3 hW3 HTX HD
   go_wp2_with fail
   refine (uh HV).mono ?_
   rintro e w4 ⟨rfl,G1',ha⟩
   have hD4:=(uh HD3).ask1 ha
   have HV4:=hide (hD4.p2.verdict (uh HA))
   have HD4:=hide hD4
   clear hD4 ha HV HD3 c3
   go_wp2_with fail
   refine (uh HV4).mono ?_
   rintro e w5 ⟨rfl,G2',ha⟩
   have hD5:=(uh HD4).ask2 ha
   have c5:w5.cell? ⟨Y,0,none⟩ = some (.pointer (some ⟨X,0,none⟩)):=hD5.dk.cell 0 rfl
   have HAL:=hide (hD5.p1.alarms (uh HA))
   have HD5:=hide hD5
   clear hD5 ha HV4 HD4
   go_wp2_with fail
   refine (uh HAL).mono ?_
   rintro e w6 ⟨v1,rfl,hr1,-,G1'',ha⟩
   have hD6:=(uh HD5).ask1 ha
   have hX2l:X2 < w5.heap.size:=(uh HD5).p2.lt X2 (uh HD5).p2.mem
   have HAL6:=hide (hD6.p2.alarms (uh HA))
   have HD6:=hide (And.intro hD6 hr1)
   clear hD6 hr1 ha HAL HD5 c5
   go_wp2_with fail
   refine (uh HAL6).mono ?_
   rintro e w7 ⟨v2,rfl,hr2,-,G2'',ha⟩
   have hr1:=row_ask (uh HD6).2 hX2l ha.st
   have hD7:=(uh HD6).1.ask2 ha
   have HSA:=hide (sameAlarms_any 0 (by omega) hr1 hr2 (fun p hp=>by have:=anW_lt p hp;omega))
   rw [shA_zero,decide_eq_true (rfl:(anW ws).al = (anW ws).al)] at HSA
   have HD7:=hide hD7
   clear hD7 hr1 hr2 ha HAL6 HD6
   go_wp2_with fail
   refine (uh HSA).mono ?_
   rintro e w8 ⟨rfl,n8,rfl⟩
   have hD8:=(uh HD7).below (bw_drewN w7 n8)
   obtain ⟨W8,hW8⟩:∃ W8,W8 = w7.drewN n8:=⟨_,rfl⟩
   rw [← hW8] at hD8 ⊢
   have HNO:=hide hD8.p2.nodes
   have HD8:=hide hD8
   clear hD8 hW8 HSA HD7
   go_wp2_with fail
   refine (uh HNO).mono ?_
   rintro e w9 ⟨rfl,n9,rfl⟩
   have hD9:=(uh HD8).below (bw_drewN W8 n9)
   obtain ⟨W9,hW9⟩:∃ W9,W9 = W8.drewN n9:=⟨_,rfl⟩
   rw [← hW9] at hD9 ⊢
   have HD9:=hide hD9
   clear hD9 hW9 HNO HD8
   obtain ⟨N,hN⟩:∃ N,N = (prS ws ini).nodes.length:=⟨_,rfl⟩
   rw [← hN] at hnl ⊢
   clear hN
   go_wp2_with fail
   go_loopg [11,13] N (fun gn ov iv wx=>∃ (k:Nat),k + gn = N∧iv = .int .i64 k∧ov = .bool true∧Hid (∃ G1 G2,Duo w0 wx Y X X2 s ws ws G1 G2))
   case atStart=>exact ⟨0,by omega,rfl,rfl,hide ⟨_,_,uh HD9⟩⟩
   case round =>
    clear HD9
    obtain ⟨k,hkn,rfl,rfl,hI⟩:=hrel
    obtain ⟨H1,hH1⟩:∃ H1,H1 = gk:=⟨_,rfl⟩
    obtain ⟨Ga,Gb,hDk⟩:=uh hI
    by_cases hlt:k < N
    ·have hd:decide ((k:Int) < (N:Int)) = true:=by simp;omega
     have c1:wr.cell? ⟨Y,0,none⟩ = some (.pointer (some ⟨X,0,none⟩)):=hDk.dk.cell 0 rfl
     have HIV:=hide (hDk.p1.invariant (uh HA) (k:Int))
     have HDk:=hide hDk
     clear hDk hI
     go_wp2_with fail
     refine (uh HIV).mono ?_
     rintro e w10 ⟨v1,rfl,hr1,-,Ga',ha⟩
     have hD10:=(uh HDk).ask1 ha
     have hX2k:X2 < wr.heap.size:=(uh HDk).p2.lt X2 (uh HDk).p2.mem
     have HIV2:=hide (hD10.p2.invariant (uh HA) (k:Int))
     have HD10:=hide (And.intro hD10 hr1)
     clear hD10 hr1 ha HIV c1
     go_wp2_with fail
     refine (uh HIV2).mono ?_
     rintro e w11 ⟨v2,rfl,hr2,-,Gb',ha⟩
     have hr1:=row_ask (uh HD10).2 hX2k ha.st
     have hD11:=(uh HD10).1.ask2 ha
     have HST:=hide (sameTexts_any hr1 hr2)
     rw [decide_eq_true (rfl:ivT (prS ws ini).vars (anW ws) (k:Int) = ivT (prS ws ini).vars (anW ws) (k:Int))] at HST
     have HD11:=hide hD11
     clear hD11 hr1 hr2 ha HIV2 HD10
     go_wp2_with fail
     refine (uh HST).mono ?_
     rintro e w12 ⟨rfl,n12,rfl⟩
     have HN:Hid (∃ G1 G2,Duo w0 (w11.drewN n12) Y X X2 s ws ws G1 G2):=hide ⟨_,_,(uh HD11).below (bw_drewN w11 n12)⟩
     clear HST HD11
     go_wp2_with fail
     go_roundg (H1 - 1)
     case rel=>exact ⟨k + 1,by omega,by go_num,rfl,HN⟩
     case measure=>omega
    ·have hd:decide ((k:Int) < (N:Int)) = false:=by simp;omega
     have HN:=hide hDk.bw
     clear hDk hI
     go_wp2_with fail
     go_ret
     exact ⟨by simp,uh HN⟩
end
end Go.Proofs.YtciihepbeacppaaGreat
