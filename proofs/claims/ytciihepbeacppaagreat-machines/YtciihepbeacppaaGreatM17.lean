import Derived.Test.YtciihepbeacppaaGreatM16
import Derived.Test.YtciihepbeacppaaGreatM15
namespace Go.Proofs.YtciihepbeacppaaGreat
open Go.RowKit
theorem cells5R {w : World} {r : Nat} {a b c d e : Value} {t : TypeId} (h : w.heap[r]? = some (.cells #[a,b,c,d,e] t (0,0))) :
  (w.cell? ⟨r,0,none⟩ = some a ∧ w.cell? ⟨r,1,none⟩ = some b ∧ w.cell? ⟨r,2,none⟩ = some c ∧ w.cell? ⟨r,3,none⟩ = some d ∧ w.cell? ⟨r,4,none⟩ = some e) ∧
  w.frozen? ⟨r,0,none⟩ = false ∧ w.frozen? ⟨r,1,none⟩ = false ∧ w.frozen? ⟨r,2,none⟩ = false ∧ w.frozen? ⟨r,3,none⟩ = false ∧ w.frozen? ⟨r,4,none⟩ = false:=by
 simp [World.cell?,World.frozen?,h]
theorem fndL_at (c : ByteArray) : ∀ (l : List ByteArray),fndL l c < l.length → eqW (l[fndL l c]?.getD em) c = true:=by
 intro l
 induction l with
 | nil=>simp
 | cons x r ih =>
  intro h
  cases hx : eqW x c with
  | true=>simp only [fndL,hx]; simpa using hx
  | false =>
   simp only [fndL,hx] at h ⊢
   simp at h
   simpa using ih h
set_option maxRecDepth 100000 in
set_option maxHeartbeats 1000000 in
theorem rread_mid (s : ByteArray) (w : World) (hlong : ¬ 240 < s.size) (hgood : ¬ ((rrW s.data.toList).length = 0 ∨ eqW ((rrW s.data.toList)[0]?.getD em) preW = false ∨ fndL (rrW s.data.toList) lbW = (rrW s.data.toList).length)) (hbad : rrE s.data.toList ≠ 0) :
  Calls Tryz.prog 26 #[.string s] w fun e w'=>RrPost s w e w':=by
 have HL : Hid (¬ 240 < s.data.toList.length):=hide (by rw [size_toList]; exact hlong)
 have hd : decide ((240 : Int) < (s.size : Int)) = false:=by simp; omega
 have HGOOD:=hide hgood
 have HBAD:=hide hbad
 clear hgood hbad
 go_enter Tryz.func26,Tryz.ntmps26
 go_wp2_with fail
 refine (rsplit_any s w (by omega)).mono ?_
 rintro e w1 ⟨hbl,(⟨hnone,rfl⟩ | ⟨ws,v,hsome,hown,rfl⟩)⟩
 ·exact absurd (Or.inl (by simp [rrW,hnone])) (uh HGOOD)
 ·have hlen:=rlen hsome
  rw [size_toList] at hlen
  have HW : Hid (rrW s.data.toList = ws):=hide (rrW_of hsome)
  have hgood:=uh HGOOD
  rw [uh HW] at hgood
  have HNN : Hid (spl s.data.toList ≠ none):=hide (by rw [hsome]; simp)
  have HSYN : Hid (rrS ws = none → rrE s.data.toList = 3):=hide (fun h=>rrE_syn (uh HL) (uh HNN) (by rw [uh HW]; exact h))
  have hst:=StrB.of (Strs.of_own hown)
  have hsz:=hbl.size
  obtain ⟨b,hb⟩ : ∃ b,fndL ws lbW = b:=⟨_,rfl⟩
  have hbl2:=fndL_le ws lbW
  have HAT : Hid (b < ws.length → eqW (ws[b]?.getD em) lbW = true):=hide (fun h=>by have:=fndL_at lbW ws (by rw [hb]; exact h); rw [hb] at this; exact this)
  obtain ⟨x,r,hws⟩ : ∃ x r,ws = x :: r:=by
   cases ws with
   | nil=>exact absurd (Or.inl rfl) hgood
   | cons x r=>exact ⟨x,r,rfl⟩
  obtain ⟨g,off,n,cap,hg,rfl,hn,hncap,hm,c0,hcell⟩:=(hws ▸ hst : StrB w1.heap.size w1 v (x :: r)).open
  have hx : (x.toList == [112,114,101]) = true:=by
   cases hx : (x.toList == [112,114,101]) with
   | true=>rfl
   | false=>exact absurd (Or.inr (Or.inl (by rw [hws]; simp only [List.getElem?_cons_zero,Option.getD_some]; unfold eqW; rw [preW_l]; exact hx))) hgood
  have hb1 : 1 ≤ b:=by
   have hx0 : eqW x lbW = false:=by
    unfold eqW; rw [lbW_l2,show x.toList = [112,114,101] by simpa using hx]; rfl
   rw [← hb,hws]; simp only [fndL,hx0]; simp
  rw [← hws] at hn hcell
  have HG:=hide hgood
  rw [hb] at hbl2 hgood
  have hbn : b < n:=by
   rcases Nat.lt_or_ge b n with h | h
   ·exact h
   ·exact absurd (Or.inr (Or.inr (by omega))) hgood
  have HB:=hide hb
  have HN:=hide hn
  have HST:=hide hst
  have HBL:=hide hbl
  obtain ⟨o0,ho0⟩ : ∃ o0 : Obj,o0 = (.cells #[.slice none 0 0,.slice none 0 0,.slice none 0 0,.slice none 0 0,.string ⟨#[]⟩] 54):=⟨_,rfl⟩
  have hb12 : Below w1.heap.size w1 (w1.alloc o0):=(Below.refl _ _).alloc (Nat.le_refl _) o0
  have HST2:=hide ((uh HST).below hb12)
  have HF:=hide (find_lb (uh HST2).str (by omega) b hb)
  obtain ⟨q,hq⟩ : ∃ q,q = shI ws b:=⟨_,rfl⟩
  have HSH:=hide (shut_at b (uh HST2).str (by omega) (by omega) (uh HAT (by omega)))
  have HFO:=hide (rformula_any ((uh HST2).part rfl 1 b hb1 (by omega) (some ⟨g,off + 1,none⟩) (fun g' off' e _=>by simp only [Option.some.injEq,Addr.mk.injEq] at e; obtain ⟨rfl,rfl,_⟩:=e; rfl)).str (by simp; omega))
  have c2 : (w1.alloc o0).cell? ⟨g,off,none⟩ = some (.string x):=by rw [hb12.cell (p:=⟨g,off,none⟩) hg]; exact c0
  rw [← hq] at HSH
  rw [ho0] at HSH HFO HF c2
  have HQ:=hide hq
  have HB12:=hide hb12
  have HO0:=hide ho0
  have hc1 : ¬ cap = 1:=by omega
  have hne0 : ((n : Int) == 0) = false:=by simp; omega
  have hneb : ((b : Int) == (n : Int)) = false:=by simp; omega
  unfold maxLen at hm
  clear hq hgood hst hbl hb12 hb hn hcell c0 hown hsome hws HAT ho0 HGOOD
  go_wp2_with first | (go_at_call 48; refine (uh HF).mono ?_; rintro e w' ⟨rfl,rfl⟩) | (go_at_call 49; refine (uh HSH).mono ?_; rintro e w' ⟨rfl,rfl⟩)
  refine (uh HFO).mono ?_
  rintro e w3 ⟨hb3,hres3⟩
  rw [← uh HO0] at hb3 hres3
  have hs3:=hb3.size
  simp only [World.size_alloc] at hs3
  have HB13:=hide ((uh HB12).trans (hb3.mono (by simp)))
  have HBW3:=hide ((uh HBL).trans ((uh HB13).mono hsz))
  have hX3 : w3.heap[w1.heap.size]? = some o0:=by rw [hb3.block _ (by simp)]; exact heap_alloc_new w1 o0
  have HX3:=hide hX3
  clear hb3 hX3 HFO HF HSH c2
  rcases hres3 with ⟨hfn,rfl⟩ | ⟨al,fv,hfs,hownf,rfl⟩
  ·have HE:=hide (uh HSYN (rrS_none2 (Or.inl (by rw [uh HB]; exact hfn))))
   clear hfn
   go_wp2_with fail
   go_ret2
   exact RrPost.bad (uh HBW3) (uh HE) (by decide)
  ·obtain ⟨af,capf,rfl⟩:=slice_of_own hownf
   have HFS:=hide hfs
   clear hfs hownf
   by_cases hqn : q = (n : Int) - 1
   ·obtain ⟨e2,he2,heb,hel⟩ : ∃ e : Nat,shI ws b = (e : Int) ∧ b + 1 ≤ e ∧ e < ws.length:=shI_bd (by rw [← uh HQ]; omega)
    obtain rfl : q = (e2 : Int):=(uh HQ).trans he2
    have he3 : e2 + 1 = n:=by omega
    have HGET:=hide (rrS_get (uh HG) (by rw [uh HB]; exact uh HFS) (by rw [uh HB,← uh HN,← uh HQ]; exact hqn))
    have hqt : ((e2 : Int) == (n : Int) - 1) = true:=by simp; omega
    have hcb : ¬ cap = b + 1:=by omega
    have hst3:=StrB.of ((uh HST).below (uh HB13)).str
    have HBC:=hide (rbl_ok (ws.length + 1) w3 _ (.slice none 0 0) _ [] (hst3.part rfl (b + 1) e2 heb (by omega) (some ⟨g,off + (b + 1),none⟩) (fun g' off' e _=>by simp only [Option.some.injEq,Addr.mk.injEq] at e; obtain ⟨rfl,rfl,_⟩:=e; rfl)) (Nat.le_refl _) ⟨by simp [insCells],.inl ⟨rfl,rfl⟩⟩ (by simp only [List.length_take,List.length_drop]; omega) (by simp only [List.length_take,List.length_drop,List.length_nil]; have:=uh HN; omega))
    have HGET2 : Hid (rrS ws = (rbl (ws.length + 1) ((ws.drop (b + 1)).take (e2 - (b + 1))) []).map (fun cl=>(al,cl))):=hide (by
     have:=uh HGET
     rw [uh HB,show ws.length - 1 = e2 by have:=uh HN; omega] at this
     exact this)
    clear hst3 HGET he2 hqn HQ
    go_wp2_with fail
    refine (uh HBC).mono ?_
    rintro _ w4 ⟨c4,cl4,ok,rfl,hown4,hstp4,hge4,hle4,hres4⟩
    have hb4 : Below w3.heap.size w3 w4:=hstp4.below (Nat.le_refl _) (by simp [Value.ownBlock])
    have HB14:=hide ((uh HB13).trans (hb4.mono (by omega)))
    have HBW4:=hide ((uh HBW3).trans (hb4.mono (by omega)))
    have hs4:=hb4.size
    have HX4 : Hid (w4.heap[w1.heap.size]? = some o0):=hide (by rw [hb4.block _ (by omega)]; exact uh HX3)
    have HNM:=hide (names_any ((uh HST).below (uh HB14)).str (by omega))
    clear hown4 hstp4 hle4 hge4 hb4 HBC HX3 HBW3 HB13
    rcases hres4 with ⟨rfl,hrb⟩ | ⟨rfl,hrb⟩
    ·have HE:=hide (uh HSYN (by rw [uh HGET2,hrb]; rfl))
     clear hrb
     go_wp2_with fail
     go_ret2
     exact RrPost.bad (uh HBW4) (uh HE) (by decide)
    ·have HNS : Hid (rrS (rrW s.data.toList) ≠ none):=hide (by rw [uh HW,uh HGET2,hrb]; simp)
     clear hrb
     go_wp2_with fail
     refine (uh HNM).mono ?_
     rintro _ w5 ⟨vv,hv,rfl,hnm⟩
     obtain ⟨a1,k1,rfl⟩:=slice_of_own hnm.rv
     obtain ⟨a2,k2,rfl⟩:=slice_of_own hnm.rh
     have hX5 : w5.heap[w1.heap.size]? = some o0:=by rw [hnm.bl.block _ (by omega)]; exact uh HX4
     rw [uh HO0] at hX5
     obtain ⟨⟨q0,q1,q2,q3,q4⟩,f0,f1,f2,f3,f4⟩:=cells5R hX5
     have HBW5:=hide ((uh HBW4).trans (hnm.bl.mono (by omega)))
     have HE4 : Hid (4 < (nmV ws ws.length).length ∨ 8 < (nmH ws ws.length).length → rrE s.data.toList = 4):=hide (fun h=>rrE_names (uh HL) (uh HNN) (uh HNS) (by rw [uh HW]; exact h))
     have HE0 : Hid (¬ (4 < (nmV ws ws.length).length ∨ 8 < (nmH ws ws.length).length) → rrE s.data.toList = 0):=hide (fun h=>rrE_ok (uh HL) (uh HNN) (uh HNS) (by rw [uh HW]; exact h))
     have HP4 : Hid (∀ a b,rrE s.data.toList = 4 → RrPost s w (.returned (.tuple #[.pointer none,.int .i64 4])) ((w5.setCell ⟨w1.heap.size,0,none⟩ a).setCell ⟨w1.heap.size,1,none⟩ b)):=hide (fun a b h=>RrPost.bad (((uh HBW5).setCell (p:=⟨w1.heap.size,0,none⟩) hsz a).setCell (p:=⟨w1.heap.size,1,none⟩) hsz b) h (by decide))
     clear hnm HNM HX4 hX5 HBW4 HB14
     generalize hnv : (nmV ws ws.length).length = nv at *
     generalize hnh : (nmH ws ws.length).length = nh at *
     by_cases h4 : 4 < nv
     ·have HE:=hide (uh HE4 (Or.inl h4))
      go_wp2_with fail
      go_ret2
      exact uh HP4 _ _ (uh HE)
     ·by_cases h8 : 8 < nh
      ·have HE:=hide (uh HE4 (Or.inr h8))
       go_wp2_with fail
       go_ret2
       exact uh HP4 _ _ (uh HE)
      ·exact absurd (uh HE0 (by omega)) (uh HBAD)
   ·have HE:=hide (uh HSYN (rrS_none2 (Or.inr (by rw [uh HB,← uh HN,← uh HQ]; exact hqn))))
    have hqf : (q == (n : Int) - 1) = false:=by simpa using hqn
    clear hqn
    go_wp2_with fail
    go_ret2
    exact RrPost.bad (uh HBW3) (uh HE) (by decide)
theorem own_setX {w : World} {B : Nat} {e : TypeId} {sz n r j : Nat} {v : Value} {xs : List Value} (h : w.ownsRow B e sz v n xs) (hr : ∀ k,v.ownBlock = some k → k ≠ r) (u : Value) : (w.setCell ⟨r,j,none⟩ u).ownsRow B e sz v n xs :=
 ownsRow_of_eq h (fun k hk=>Below.heap_setCell _ _ _ _ (hr k hk))
theorem rjn_len (ws : List ByteArray) : (jn ws).length ≤ (ws.map (fun x=>x.data.toList.length)).sum + ws.length:=by
 match ws with
 | []=>simp [jn]
 | x :: r =>
  have : ∀ r : List ByteArray,(r.flatMap (fun y=>32 :: y.data.toList)).length ≤ (r.map (fun x=>x.data.toList.length)).sum + r.length:=by
   intro r
   induction r with
   | nil=>simp
   | cons y r ih=>simp only [List.flatMap_cons,List.length_append,List.length_cons,List.map_cons,List.sum_cons]; omega
  have:=this r
  simp only [jn,List.length_append,List.map_cons,List.sum_cons,List.length_cons]
  omega
theorem rjn_le {l : List UInt8} {ws : List ByteArray} (h : spl l = some (ws.map (·.data.toList))) : (jn ws).length ≤ 2 * l.length:=by
 have h1:=rsplitF_len _ _ _ h
 have h2:=rjn_len ws
 simp only [List.map_map,List.length_map] at h1
 have h3 : (List.map (List.length ∘ fun x : ByteArray=>x.data.toList) ws) = ws.map (fun x=>x.data.toList.length):=rfl
 rw [h3] at h1
 omega
theorem TxAt_str1 {ws : List ByteArray} {k : Nat} {y : ByteArray} (h : jn (ws.take (k + 1)) = jn (ws.take k) ++ [32] ++ y.data.toList) : (⟨(jn (ws.take k)).toArray⟩ : ByteArray) ++ ⟨#[32]⟩ ++ y = ⟨(jn (ws.take (k + 1))).toArray⟩:=by
 rw [h]; apply ByteArray.ext; simp [ByteArray.data_append]
theorem TxAt_str0 {ws : List ByteArray} {k : Nat} {y : ByteArray} (h : jn (ws.take (k + 1)) = jn (ws.take k) ++ y.data.toList) : (⟨(jn (ws.take k)).toArray⟩ : ByteArray) ++ y = ⟨(jn (ws.take (k + 1))).toArray⟩:=by
 rw [h]; apply ByteArray.ext; simp [ByteArray.data_append]
theorem rows_on {w5 w6 wr : World} {X base n sz : Nat} {e : TypeId} {v v4 : Value} {xs : List Value} (h : w5.ownsRow base e sz v n xs) (hX : ∀ k,v.ownBlock = some k → k ≠ X) (hne : v.ownBlock = none ∨ v.ownBlock ≠ v4.ownBlock) {a b c d : Value} {o : Obj}
  (hg : ((((w5.setCell ⟨X,0,none⟩ a).setCell ⟨X,1,none⟩ b).setCell ⟨X,2,none⟩ c).alloc o).grownBy w6 v4.ownBlock) (hS : Stp [X] (w6.setCell ⟨X,3,none⟩ d) [X] wr) : wr.ownsRow base e sz v n xs :=
 rowStep (own_setX (((own_setX (own_setX (own_setX h hX a) hX b) hX c).alloc o).kept hg hne) hX d) hS (fun k hk=>by simpa using hX k hk)
theorem own_low {w : World} {B B' : Nat} {e : TypeId} {sz n : Nat} {v : Value} {xs : List Value} (h : w.ownsRow B e sz v n xs) (hb : B' ≤ B) : w.ownsRow B' e sz v n xs:=by
 refine ⟨h.1,?_⟩
 rcases h.2 with h0 | ⟨g,cap,cur,hv,hB,hr⟩
 ·exact .inl h0
 ·exact .inr ⟨g,cap,cur,hv,Nat.le_trans hb hB,hr⟩
theorem ne_of_own {v v4 : Value} (h : ∀ k,v.ownBlock = some k → v4.ownBlock ≠ some k) : v.ownBlock = none ∨ v.ownBlock ≠ v4.ownBlock:=by
 cases hv : v.ownBlock with
 | none=>exact Or.inl rfl
 | some k=>exact Or.inr (fun e=>h k hv e.symm)
structure TxAt (W : World) (X : Nat) (vv hv fv cv : Value) (ws : List ByteArray) (k : Nat) (wr : World) : Prop where
 blk : wr.heap[X]? = some (.cells #[vv,hv,fv,cv,.string ⟨(jn (ws.take k)).toArray⟩] 54 (0,0))
 stp : Stp [X] W [X] wr
theorem TxAt.drew {W : World} {X : Nat} {vv hv fv cv : Value} {ws : List ByteArray} {k : Nat} {wr : World} (h : TxAt W X vv hv fv cv ws k wr) : TxAt W X vv hv fv cv ws k wr.drew:=⟨h.blk,h.stp.drew⟩
theorem TxAt.one {W : World} {X : Nat} {vv hv fv cv : Value} {ws : List ByteArray} {k : Nat} {wr : World} (h : TxAt W X vv hv fv cv ws k wr) (u : ByteArray) (hu : u = ⟨(jn (ws.take (k + 1))).toArray⟩) : TxAt W X vv hv fv cv ws (k + 1) (wr.setCell ⟨X,4,none⟩ (.string u)):=by
 subst hu
 exact ⟨by have:=rset h.blk (j:=4) (.string ⟨(jn (ws.take (k + 1))).toArray⟩); simpa using this,h.stp.setCell (p:=⟨X,4,none⟩) (Or.inl (by simp)) _⟩
theorem TxAt.two {W : World} {X : Nat} {vv hv fv cv : Value} {ws : List ByteArray} {k : Nat} {wr : World} (h : TxAt W X vv hv fv cv ws k wr) (t u : ByteArray) (hu : u = ⟨(jn (ws.take (k + 1))).toArray⟩) : TxAt W X vv hv fv cv ws (k + 1) ((wr.setCell ⟨X,4,none⟩ (.string t)).setCell ⟨X,4,none⟩ (.string u)):=by
 subst hu
 exact ⟨by have:=rset (rset h.blk (j:=4) (.string t)) (j:=4) (.string ⟨(jn (ws.take (k + 1))).toArray⟩); simpa using this,(h.stp.setCell (p:=⟨X,4,none⟩) (Or.inl (by simp)) _).setCell (p:=⟨X,4,none⟩) (Or.inl (by simp)) _⟩
set_option maxRecDepth 100000 in
set_option maxHeartbeats 1000000 in
theorem rread_ok (s : ByteArray) (w : World) (hlong : ¬ 240 < s.size) (hgood : ¬ ((rrW s.data.toList).length = 0 ∨ eqW ((rrW s.data.toList)[0]?.getD em) preW = false ∨ fndL (rrW s.data.toList) lbW = (rrW s.data.toList).length)) (hok : rrE s.data.toList = 0) :
  Calls Tryz.prog 26 #[.string s] w fun e w'=>RrPost s w e w':=by
 have HL : Hid (¬ 240 < s.data.toList.length):=hide (by rw [size_toList]; exact hlong)
 have hd : decide ((240 : Int) < (s.size : Int)) = false:=by simp; omega
 have HGOOD:=hide hgood
 have HOK:=hide hok
 clear hgood hok
 obtain ⟨i0,hi,hz0,hz1,hz2⟩:=info_parts Tryz.infoIns
 go_enter Tryz.func26,Tryz.ntmps26
 go_wp2_with fail
 refine (rsplit_any s w (by omega)).mono ?_
 rintro e w1 ⟨hbl,(⟨hnone,rfl⟩ | ⟨ws,v,hsome,hown,rfl⟩)⟩
 ·exact absurd (Or.inl (by simp [rrW,hnone])) (uh HGOOD)
 ·have hlen:=rlen hsome
  rw [size_toList] at hlen
  have hjn:=rjn_le hsome
  rw [size_toList] at hjn
  have HW : Hid (rrW s.data.toList = ws):=hide (rrW_of hsome)
  have hgood:=uh HGOOD
  rw [uh HW] at hgood
  have HNN : Hid (spl s.data.toList ≠ none):=hide (by rw [hsome]; simp)
  have HSYN : Hid (rrS ws = none → rrE s.data.toList = 3):=hide (fun h=>rrE_syn (uh HL) (uh HNN) (by rw [uh HW]; exact h))
  have hst:=StrB.of (Strs.of_own hown)
  have hsz:=hbl.size
  obtain ⟨b,hb⟩ : ∃ b,fndL ws lbW = b:=⟨_,rfl⟩
  have hbl2:=fndL_le ws lbW
  have HAT : Hid (b < ws.length → eqW (ws[b]?.getD em) lbW = true):=hide (fun h=>by have:=fndL_at lbW ws (by rw [hb]; exact h); rw [hb] at this; exact this)
  obtain ⟨x,r,hws⟩ : ∃ x r,ws = x :: r:=by
   cases ws with
   | nil=>exact absurd (Or.inl rfl) hgood
   | cons x r=>exact ⟨x,r,rfl⟩
  obtain ⟨g,off,n,cap,hg,rfl,hn,hncap,hm,c0,hcell⟩:=(hws ▸ hst : StrB w1.heap.size w1 v (x :: r)).open
  have hx : (x.toList == [112,114,101]) = true:=by
   cases hx : (x.toList == [112,114,101]) with
   | true=>rfl
   | false=>exact absurd (Or.inr (Or.inl (by rw [hws]; simp only [List.getElem?_cons_zero,Option.getD_some]; unfold eqW; rw [preW_l]; exact hx))) hgood
  have hb1 : 1 ≤ b:=by
   have hx0 : eqW x lbW = false:=by
    unfold eqW; rw [lbW_l2,show x.toList = [112,114,101] by simpa using hx]; rfl
   rw [← hb,hws]; simp only [fndL,hx0]; simp
  rw [← hws] at hn hcell
  have HG:=hide hgood
  rw [hb] at hbl2 hgood
  have hbn : b < n:=by
   rcases Nat.lt_or_ge b n with h | h
   ·exact h
   ·exact absurd (Or.inr (Or.inr (by omega))) hgood
  have HB:=hide hb
  have HCELL:=hide hcell
  have HN:=hide hn
  have HST:=hide hst
  have HBL:=hide hbl
  obtain ⟨o0,ho0⟩ : ∃ o0 : Obj,o0 = (.cells #[.slice none 0 0,.slice none 0 0,.slice none 0 0,.slice none 0 0,.string ⟨#[]⟩] 54):=⟨_,rfl⟩
  have hb12 : Below w1.heap.size w1 (w1.alloc o0):=(Below.refl _ _).alloc (Nat.le_refl _) o0
  have HST2:=hide ((uh HST).below hb12)
  have HF:=hide (find_lb (uh HST2).str (by omega) b hb)
  obtain ⟨q,hq⟩ : ∃ q,q = shI ws b:=⟨_,rfl⟩
  have HSH:=hide (shut_at b (uh HST2).str (by omega) (by omega) (uh HAT (by omega)))
  have HFO:=hide (rformula_any ((uh HST2).part rfl 1 b hb1 (by omega) (some ⟨g,off + 1,none⟩) (fun g' off' e _=>by simp only [Option.some.injEq,Addr.mk.injEq] at e; obtain ⟨rfl,rfl,_⟩:=e; rfl)).str (by simp; omega))
  have c2 : (w1.alloc o0).cell? ⟨g,off,none⟩ = some (.string x):=by rw [hb12.cell (p:=⟨g,off,none⟩) hg]; exact c0
  rw [← hq] at HSH
  rw [ho0] at HSH HFO HF c2
  have HQ:=hide hq
  have HB12:=hide hb12
  have HO0:=hide ho0
  have hc1 : ¬ cap = 1:=by omega
  have hne0 : ((n : Int) == 0) = false:=by simp; omega
  have hneb : ((b : Int) == (n : Int)) = false:=by simp; omega
  unfold maxLen at hm
  clear hq hgood hst hbl hb12 hb hn hcell c0 hown hsome hws HAT ho0 HGOOD
  go_wp2_with first | (go_at_call 48; refine (uh HF).mono ?_; rintro e w' ⟨rfl,rfl⟩) | (go_at_call 49; refine (uh HSH).mono ?_; rintro e w' ⟨rfl,rfl⟩)
  refine (uh HFO).mono ?_
  rintro e w3 ⟨hb3,hres3⟩
  rw [← uh HO0] at hb3 hres3
  have hs3:=hb3.size
  simp only [World.size_alloc] at hs3
  have HB13:=hide ((uh HB12).trans (hb3.mono (by simp)))
  have HBW3:=hide ((uh HBL).trans ((uh HB13).mono hsz))
  have hX3 : w3.heap[w1.heap.size]? = some o0:=by rw [hb3.block _ (by simp)]; exact heap_alloc_new w1 o0
  have HX3:=hide hX3
  clear hb3 hX3 HFO HF HSH c2
  rcases hres3 with ⟨hfn,rfl⟩ | ⟨al,fv,hfs,hownf,rfl⟩
  ·have HE:=hide (uh HSYN (rrS_none2 (Or.inl (by rw [uh HB]; exact hfn))))
   exact absurd ((uh HE).symm.trans (uh HOK)) (by decide)
  ·obtain ⟨af,capf,rfl⟩:=slice_of_own hownf
   have HFS:=hide hfs
   have HOWNF:=hide hownf
   clear hfs hownf
   by_cases hqn : q = (n : Int) - 1
   ·obtain ⟨e2,he2,heb,hel⟩ : ∃ e : Nat,shI ws b = (e : Int) ∧ b + 1 ≤ e ∧ e < ws.length:=shI_bd (by rw [← uh HQ]; omega)
    obtain rfl : q = (e2 : Int):=(uh HQ).trans he2
    have he3 : e2 + 1 = n:=by omega
    have HGET:=hide (rrS_get (uh HG) (by rw [uh HB]; exact uh HFS) (by rw [uh HB,← uh HN,← uh HQ]; exact hqn))
    have hqt : ((e2 : Int) == (n : Int) - 1) = true:=by simp; omega
    have hcb : ¬ cap = b + 1:=by omega
    have hst3:=StrB.of ((uh HST).below (uh HB13)).str
    have HBC:=hide (rbl_ok (ws.length + 1) w3 _ (.slice none 0 0) _ [] (hst3.part rfl (b + 1) e2 heb (by omega) (some ⟨g,off + (b + 1),none⟩) (fun g' off' e _=>by simp only [Option.some.injEq,Addr.mk.injEq] at e; obtain ⟨rfl,rfl,_⟩:=e; rfl)) (Nat.le_refl _) ⟨by simp [insCells],.inl ⟨rfl,rfl⟩⟩ (by simp only [List.length_take,List.length_drop]; omega) (by simp only [List.length_take,List.length_drop,List.length_nil]; have:=uh HN; omega))
    have HGET2 : Hid (rrS ws = (rbl (ws.length + 1) ((ws.drop (b + 1)).take (e2 - (b + 1))) []).map (fun cl=>(al,cl))):=hide (by
     have:=uh HGET
     rw [uh HB,show ws.length - 1 = e2 by have:=uh HN; omega] at this
     exact this)
    clear hst3 HGET he2 hqn HQ
    go_wp2_with fail
    refine (uh HBC).mono ?_
    rintro _ w4 ⟨c4,cl4,ok,rfl,hown4,hstp4,hge4,hle4,hres4⟩
    have hb4 : Below w3.heap.size w3 w4:=hstp4.below (Nat.le_refl _) (by simp [Value.ownBlock])
    have HB14:=hide ((uh HB13).trans (hb4.mono (by omega)))
    have HBW4:=hide ((uh HBW3).trans (hb4.mono (by omega)))
    have hs4:=hb4.size
    have HX4 : Hid (w4.heap[w1.heap.size]? = some o0):=hide (by rw [hb4.block _ (by omega)]; exact uh HX3)
    have HNM:=hide (names_any ((uh HST).below (uh HB14)).str (by omega))
    have HOWN4:=hide hown4
    have HFROW4:=hide (rowBelow2 (uh HOWNF) hb4)
    obtain ⟨a4,k4,rfl⟩:=slice_of_own hown4
    have HLT4 : Hid (∀ k,(Value.slice a4 cl4.length k4).ownBlock = some k → w3.heap.size ≤ k ∧ k < w4.heap.size):=hide (fun k hk=>hown4.lt k hk)
    have HLTF : Hid (∀ k,(Value.slice af al.length capf).ownBlock = some k → w1.heap.size < k ∧ k < w3.heap.size):=hide (fun k hk=>by have:=(uh HOWNF).lt k hk; simp only [World.size_alloc] at this; omega)
    simp only [List.length_take,List.length_drop,List.length_nil] at hle4
    have hcl4 : cl4.length ≤ 1000:=by omega
    clear hown4 hstp4 hle4 hge4 hb4 HBC HX3 HBW3 HB13 HOWNF
    rcases hres4 with ⟨rfl,hrb⟩ | ⟨rfl,hrb⟩
    ·have HE:=hide (uh HSYN (by rw [uh HGET2,hrb]; rfl))
     exact absurd ((uh HE).symm.trans (uh HOK)) (by decide)
    ·have HNS : Hid (rrS (rrW s.data.toList) ≠ none):=hide (by rw [uh HW,uh HGET2,hrb]; simp)
     have HRRS : Hid (rrS (rrW s.data.toList) = some (al,cl4)):=hide (by rw [uh HW,uh HGET2,hrb]; rfl)
     clear hrb
     go_wp2_with fail
     refine (uh HNM).mono ?_
     rintro _ w5 ⟨vv,hv,rfl,hnm⟩
     obtain ⟨a1,k1,rfl⟩:=slice_of_own hnm.rv
     obtain ⟨a2,k2,rfl⟩:=slice_of_own hnm.rh
     have hX5 : w5.heap[w1.heap.size]? = some o0:=by rw [hnm.bl.block _ (by omega)]; exact uh HX4
     rw [uh HO0] at hX5
     have HX5:=hide hX5
     obtain ⟨⟨q0,q1,q2,q3,q4⟩,f0,f1,f2,f3,f4⟩:=cells5R hX5
     have HBW5:=hide ((uh HBW4).trans (hnm.bl.mono (by omega)))
     have HOWN5:=hide (rowBelow2 (uh HOWN4) hnm.bl)
     have HFROW5:=hide (rowBelow2 (uh HFROW4) hnm.bl)
     have HVROW5:=hide hnm.rv
     have HHROW5:=hide hnm.rh
     have hs5:=hnm.bl.size
     clear HOWN4 HFROW4
     have HB15:=hide ((uh HB14).trans (hnm.bl.mono (by omega)))
     have HE4 : Hid (4 < (nmV ws ws.length).length ∨ 8 < (nmH ws ws.length).length → rrE s.data.toList = 4):=hide (fun h=>rrE_names (uh HL) (uh HNN) (uh HNS) (by rw [uh HW]; exact h))
     have HE0 : Hid (¬ (4 < (nmV ws ws.length).length ∨ 8 < (nmH ws ws.length).length) → rrE s.data.toList = 0):=hide (fun h=>rrE_ok (uh HL) (uh HNN) (uh HNS) (by rw [uh HW]; exact h))
     have HP4 : Hid (∀ a b,rrE s.data.toList = 4 → RrPost s w (.returned (.tuple #[.pointer none,.int .i64 4])) ((w5.setCell ⟨w1.heap.size,0,none⟩ a).setCell ⟨w1.heap.size,1,none⟩ b)):=hide (fun a b h=>RrPost.bad (((uh HBW5).setCell (p:=⟨w1.heap.size,0,none⟩) hsz a).setCell (p:=⟨w1.heap.size,1,none⟩) hsz b) h (by decide))
     clear hnm HNM HX4 hX5 HBW4 HB14
     generalize hnv : (nmV ws ws.length).length = nv at *
     generalize hnh : (nmH ws ws.length).length = nh at *
     by_cases h4 : 4 < nv
     ·have HE:=hide (uh HE4 (Or.inl h4))
      exact absurd ((uh HE).symm.trans (uh HOK)) (by decide)
     ·by_cases h8 : 8 < nh
      ·have HE:=hide (uh HE4 (Or.inr h8))
       exact absurd ((uh HE).symm.trans (uh HOK)) (by decide)
      ·have hd4 : decide ((4 : Int) < (nv : Int)) = false:=by simp; omega
       have hd8 : decide ((8 : Int) < (nh : Int)) = false:=by simp; omega
       have hnx : ∀ k,(Value.slice a4 cl4.length k4).ownBlock = some k → k ≠ w1.heap.size:=fun k hk=>by have:=((uh HOWN5).lt k hk).1; omega
       have HNX:=hide hnx
       clear hnx
       go_wp2_with (at_builtin; refine wpList_app1 _ rfl (.tmp 105) (.tmp 107) 52 rfl w3.heap.size 100 i0 _ 6 80 Tryz.underlying52 hi hz0 hz1 hz2 rfl (by decide) _ cl4.length (insCells cl4) rfl ((own_setX (own_setX (own_setX (uh HOWN5) (uh HNX) _) (uh HNX) _) (uh HNX) _).alloc _) ⟨_,0,none⟩ 1 [.string ⟨#[101,120,105,116]⟩,.string ⟨#[]⟩,.string ⟨#[]⟩,.string ⟨#[]⟩,.int .i64 0,.bool false] rfl rfl (new_cells _ _ (by simp) [.string ⟨#[101,120,105,116]⟩,.string ⟨#[]⟩,.string ⟨#[]⟩,.string ⟨#[]⟩,.int .i64 0,.bool false] _) (Ins.one exI) (by omega) (by omega) (by simp; omega) ?_)
       intro g6 cap6 w6 hown6 hgrow6 hblk6
       have hs6:=hgrow6.size
       simp only [World.size_alloc,World.size_setCell] at hs6
       have hX6 : w6.heap[w1.heap.size]? = some (.cells #[.slice a1 nv k1,.slice a2 nh k2,.slice af al.length capf,.slice none 0 0,.string ⟨#[]⟩] 54 (0,0)):=by
        rw [hgrow6.block _ (by simp; omega) (fun h=>uh HNX _ h.symm rfl),Below.heap_alloc _ _ _ (by simp; omega)]
        have:=rset (rset (rset (uh HX5) (j:=0) (.slice a1 nv k1)) (j:=1) (.slice a2 nh k2)) (j:=2) (.slice af al.length capf)
        simpa using this
       have HX6:=hide hX6
       obtain ⟨⟨r0,r1,r2,r3,r4⟩,e0,e1,e2',e3,e4⟩:=cells5R hX6
       have HO6:=hide hown6
       have HG6:=hide hgrow6
       have HK6:=hide hblk6
       clear hown6 hgrow6 hblk6 hX6 q0 q1 q2 q3 q4 f0 f1 f2 f3 f4
       have HTX0 : Hid (TxAt (w6.setCell ⟨w1.heap.size,3,none⟩ (.slice (some ⟨g6,0,none⟩) (cl4.length + 1) cap6)) w1.heap.size (.slice a1 nv k1) (.slice a2 nh k2) (.slice af al.length capf) (.slice (some ⟨g6,0,none⟩) (cl4.length + 1) cap6) ws 0 (w6.setCell ⟨w1.heap.size,3,none⟩ (.slice (some ⟨g6,0,none⟩) (cl4.length + 1) cap6))):=hide ⟨by have:=rset (uh HX6) (j:=3) (.slice (some ⟨g6,0,none⟩) (cl4.length + 1) cap6); simpa [jn] using this,Stp.refl _ _⟩
       have HGX : Hid (∀ k wr,TxAt (w6.setCell ⟨w1.heap.size,3,none⟩ (.slice (some ⟨g6,0,none⟩) (cl4.length + 1) cap6)) w1.heap.size (.slice a1 nv k1) (.slice a2 nh k2) (.slice af al.length capf) (.slice (some ⟨g6,0,none⟩) (cl4.length + 1) cap6) ws k wr → ∀ j,(hj : j < ws.length) → wr.cell? ⟨g,off + j,none⟩ = some (.string ws[j])):=hide (fun k wr h j hj=>by
        have hg7 : g < (w6.setCell ⟨w1.heap.size,3,none⟩ (.slice (some ⟨g6,0,none⟩) (cl4.length + 1) cap6)).heap.size:=by simp only [World.size_setCell]; omega
        rw [h.stp.cell (p:=⟨g,off + j,none⟩) hg7 (by simp; omega),World.cell?_of_block (Below.heap_setCell _ _ _ _ (by simp; omega)),World.cell?_of_block ((uh HG6).block g (by simp; omega) (fun e=>by have:=((uh HOWN5).lt g e.symm).1; omega)),World.cell?_of_block (Below.heap_alloc _ _ _ (by simp; omega)),World.cell?_of_block (Below.heap_setCell _ _ _ _ (by simp; omega)),World.cell?_of_block (Below.heap_setCell _ _ _ _ (by simp; omega)),World.cell?_of_block (Below.heap_setCell _ _ _ _ (by simp; omega)),(uh HB15).cell (p:=⟨g,off + j,none⟩) hg]
        exact uh HCELL j hj)
       go_wp2_with fail
       clear r0 r1 r2 r3 r4 e0 e1 e2' e3 e4
       go_loopw [13] (fun i wr=>∃ k : Nat,k ≤ n ∧ i = .int .i64 k ∧ Hid (TxAt (w6.setCell ⟨w1.heap.size,3,none⟩ (.slice (some ⟨g6,0,none⟩) (cl4.length + 1) cap6)) w1.heap.size (.slice a1 nv k1) (.slice a2 nh k2) (.slice af al.length capf) (.slice (some ⟨g6,0,none⟩) (cl4.length + 1) cap6) ws k wr)) (fun i _=>n - (intOf i).toNat)
       case atStart=>exact ⟨0,Nat.zero_le _,rfl,HTX0⟩
       case round =>
        obtain ⟨k,hk,rfl,htx⟩:=hrel
        obtain ⟨⟨r0,r1,r2,r3,r4⟩,e0,e1,e2',e3,e4⟩:=cells5R (uh htx).blk
        by_cases hlt : k < n
        ·have hlt' : k < ws.length:=by rw [← uh HN]; exact hlt
         have hcy:=uh HGX k _ (uh htx) k hlt'
         obtain ⟨y,hy⟩ : ∃ y,y = ws[k]:=⟨_,rfl⟩
         rw [← hy] at hcy
         have HY:=hide hy
         clear hy
         have hjk:=jn_take_le ws (k + 1)
         by_cases h0 : 0 < k
         ·have HJ : Hid (jn (ws.take (k + 1)) = jn (ws.take k) ++ [32] ++ y.data.toList):=hide (by rw [uh HY]; exact jn_step ws k hlt' h0)
          have hle : (jn (ws.take k)).length + 1 + y.size ≤ 20000:=by
           rw [uh HJ] at hjk; simp only [List.length_append,size_toList,List.length_singleton] at hjk; omega
          clear hjk HY hlt'
          go_wp2_with fail
          go_region
          go_wp2_with fail
          go_roundw
          case rel=>exact ⟨k + 1,by omega,by go_num,hide (TxAt.drew ((uh htx).two _ _ (TxAt_str1 (uh HJ))))⟩
          case measure=>simp [intOf]; omega
         ·have HJ : Hid (jn (ws.take (k + 1)) = jn (ws.take k) ++ y.data.toList):=hide (by rw [uh HY]; exact jn_first ws k hlt' h0)
          have hle : (jn (ws.take k)).length + y.size ≤ 20000:=by
           rw [uh HJ] at hjk; simp only [List.length_append,size_toList] at hjk; omega
          clear hjk HY hlt'
          go_wp2_with fail
          go_region
          go_wp2_with fail
          go_roundw
          case rel=>exact ⟨k + 1,by omega,by go_num,hide (TxAt.drew ((uh htx).one _ (TxAt_str0 (uh HJ))))⟩
          case measure=>simp [intOf]; omega
        ·have hdk : decide ((k : Int) < (n : Int)) = false:=by simp; omega
         have HPOST : Hid (RrPost s w (.returned (.tuple #[.pointer (some ⟨w1.heap.size,0,none⟩),.int .i64 0])) wr):=hide (by
          have hS:=(uh htx).stp
          have hG:=uh HG6
          have hw:=uh HW
          have hkn : ws.take k = ws:=List.take_of_length_le (by rw [← uh HN]; omega)
          have hblk:=(uh htx).blk
          rw [hkn] at hblk
          have hO6:=uh HO6
          have hb6 : Below w.heap.size w wr:=by
           have b1:=(((((uh HBW5).setCell (p:=⟨w1.heap.size,0,none⟩) hsz (.slice a1 nv k1)).setCell (p:=⟨w1.heap.size,1,none⟩) hsz (.slice a2 nh k2)).setCell (p:=⟨w1.heap.size,2,none⟩) hsz (.slice af al.length capf)).alloc (by simp; omega) _).grown hG (by simp; omega) (fun k hk=>by have:=(uh HLT4 k hk).1; omega)
           exact (b1.setCell (p:=⟨w1.heap.size,3,none⟩) hsz _).trans (hS.below (by simp; omega) (by simp; omega))
          refine ⟨hb6,Or.inr ⟨uh HOK,w1.heap.size,al,cl4,uh HRRS,rfl,?_⟩⟩
          rw [hw]
          refine ⟨_,_,_,_,hblk,hsz,?_,?_,?_,?_⟩
          ·rw [hnv]
           exact own_low (rows_on (uh HVROW5) (fun k hk=>by have:=((uh HVROW5).lt k hk).1; omega) (ne_of_own (fun k hk e=>by have:=((uh HVROW5).lt k hk).1; have:=(uh HLT4 k e).2; omega)) hG hS) (by omega)
          ·rw [hnh]
           exact own_low (rows_on (uh HHROW5) (fun k hk=>by have:=((uh HHROW5).lt k hk).1; omega) (ne_of_own (fun k hk e=>by have:=((uh HHROW5).lt k hk).1; have:=(uh HLT4 k e).2; omega)) hG hS) (by omega)
          ·exact own_low (rows_on (uh HFROW5) (fun k hk=>by have:=(uh HLTF k hk).1; omega) (ne_of_own (fun k hk e=>by have:=(uh HLTF k hk).2; have:=(uh HLT4 k e).1; omega)) hG hS) (by simp; omega)
          ·have h6:=rowStep (own_setX (r:=w1.heap.size) (j:=3) hO6 (fun k hk=>by have:=(hO6.lt k hk).1; omega) (.slice (some ⟨g6,0,none⟩) (cl4.length + 1) cap6)) hS (fun k hk=>by have:=(hO6.lt k hk).1; simp; omega)
           rw [insCells_snoc]
           exact own_low h6 (by omega))
         clear HGX htx
         go_wp2_with fail
         go_ret2
         exact uh HPOST
   ·have HE:=hide (uh HSYN (rrS_none2 (Or.inr (by rw [uh HB,← uh HN,← uh HQ]; exact hqn))))
    exact absurd ((uh HE).symm.trans (uh HOK)) (by decide)
theorem rread_any (s : ByteArray) (w : World) : Calls Tryz.prog 26 #[.string s] w fun e w'=>RrPost s w e w':=by
 by_cases hlong : 240 < s.size
 ·exact rread_long s w hlong
 ·by_cases hbad : (rrW s.data.toList).length = 0 ∨ eqW ((rrW s.data.toList)[0]?.getD em) preW = false ∨ fndL (rrW s.data.toList) lbW = (rrW s.data.toList).length
  ·exact rread_bad s w hlong (Or.inr hbad)
  ·by_cases hok : rrE s.data.toList = 0
   ·exact rread_ok s w hlong hbad hok
   ·exact rread_mid s w hlong hbad hok
structure RM where
 nd : Nat
 wh : Nat
 st : List Int
 ad : List Int
 nx : List Int
structure Rp (w : World) (P : Nat) (vs : List ByteArray) (al : List RAt) (cl : List Ins) (vv hv pv cv tx : Value) : Prop where
 bk : Bk w P 54 [vv,hv,pv,cv,tx]
 vr : w.ownsRow 0 9 1 vv vs.length (vs.map Value.string)
 pr : w.ownsRow 0 139 3 pv al.length (raCells al)
 cr : w.ownsRow 0 100 6 cv cl.length (insCells cl)
def rpB (P : Nat) (vv pv cv : Value) : List Nat:=P :: (vv.ownBlock.toList ++ (pv.ownBlock.toList ++ cv.ownBlock.toList))
section
variable {w w' : World} {P : Nat} {vs : List ByteArray} {al : List RAt} {cl : List Ins} {vv hv pv cv tx : Value}
theorem Rp.of_eq (h : Rp w P vs al cl vv hv pv cv tx) (he : ∀ k ∈ rpB P vv pv cv,w'.heap[k]? = w.heap[k]?) : Rp w' P vs al cl vv hv pv cv tx :=
 ⟨h.bk.of_eq (he P (by simp [rpB])),ownsRow_of_eq h.vr (fun k hk=>he k (by simp [rpB,hk])),ownsRow_of_eq h.pr (fun k hk=>he k (by simp [rpB,hk])),ownsRow_of_eq h.cr (fun k hk=>he k (by simp [rpB,hk]))⟩
theorem Rp.lt (h : Rp w P vs al cl vv hv pv cv tx) : ∀ k ∈ rpB P vv pv cv,k < w.heap.size:=by
 intro k hk
 simp only [rpB,List.mem_cons,List.mem_append,Option.mem_toList] at hk
 rcases hk with rfl | hk | hk | hk
 ·exact h.bk.lt
 ·exact (h.vr.lt k hk).2
 ·exact (h.pr.lt k hk).2
 ·exact (h.cr.lt k hk).2
theorem Rp.below (h : Rp w P vs al cl vv hv pv cv tx) (hb : Below w.heap.size w w') : Rp w' P vs al cl vv hv pv cv tx:=h.of_eq (fun k hk=>hb.block k (h.lt k hk))
end
theorem IsR.rp {B : Nat} {w : World} {X : Nat} {ws : List ByteArray} {al : List RAt} {cl : List Ins} (h : IsR B w X ws al cl) : ∃ vv hv pv cv tx,Rp w X (nmV ws ws.length) al (cl ++ [exI]) vv hv pv cv tx ∧ (∀ k ∈ rpB X vv pv cv,B ≤ k) ∧ tx = .string ⟨(jn ws).toArray⟩:=by
 obtain ⟨vv,hv,pv,cv,h0,hB,h1,h2,h3,h4⟩:=h
 refine ⟨vv,hv,pv,cv,_,⟨h0,own_le h1 (Nat.zero_le _),own_le h3 (Nat.zero_le _),?_⟩,fun k hk=>?_,rfl⟩
 ·rw [List.length_append,List.length_singleton]; exact own_le h4 (Nat.zero_le _)
 ·simp only [rpB,List.mem_cons,List.mem_append,Option.mem_toList] at hk
  rcases hk with rfl | hk | hk | hk
  ·exact hB
  ·exact (h1.lt k hk).1
  ·exact (h3.lt k hk).1
  ·exact (h4.lt k hk).1
structure RL where
 R : Nat
 H : Nat
 P : Nat
 vv : Value
 hv : Value
 pv : Value
 cv : Value
 tx : Value
 sv : Value
 av : Value
 xv : Value
def RL.fp (y : RL) : List Nat:=y.R :: y.H :: (y.sv.ownBlock.toList ++ (y.av.ownBlock.toList ++ y.xv.ownBlock.toList))
def RL.pb (y : RL) : List Nat:=rpB y.P y.vv y.pv y.cv
structure Rc (w : World) (y : RL) (vs : List ByteArray) (al : List RAt) (cl : List Ins) (m : RM) : Prop where
 bk : Bk w y.R 160 [ptrA y.P,ptrA y.H,.int .i64 (m.nd : Int),.int .i64 (m.wh : Int)]
 hk : Bk w y.H 216 [y.vv,y.sv,y.av,y.xv]
 st : w.ownsRow 0 3 1 y.sv m.st.length (ints m.st)
 ad : w.ownsRow 0 3 1 y.av m.ad.length (ints m.ad)
 nx : w.ownsRow 0 3 1 y.xv m.nx.length (ints m.nx)
 nd : y.fp.Nodup
 rp : Rp w y.P vs al cl y.vv y.hv y.pv y.cv y.tx
 dp : ∀ k ∈ y.pb,k ∉ y.fp
 ls : m.st.length = vs.length
 lx : m.nx.length = m.ad.length
section
variable {w w' : World} {y : RL} {vs : List ByteArray} {al : List RAt} {cl : List Ins} {m : RM}
theorem Rc.lt (h : Rc w y vs al cl m) : ∀ k ∈ y.fp,k < w.heap.size:=by
 intro k hk
 simp only [RL.fp,List.mem_cons,List.mem_append,Option.mem_toList] at hk
 rcases hk with rfl | rfl | hk | hk | hk
 ·exact h.bk.lt
 ·exact h.hk.lt
 ·exact (h.st.lt k hk).2
 ·exact (h.ad.lt k hk).2
 ·exact (h.nx.lt k hk).2
theorem Rc.of_eq (h : Rc w y vs al cl m) (he : ∀ k,k ∈ y.fp ∨ k ∈ y.pb → w'.heap[k]? = w.heap[k]?) : Rc w' y vs al cl m :=
 ⟨h.bk.of_eq (he _ (Or.inl (by simp [RL.fp]))),h.hk.of_eq (he _ (Or.inl (by simp [RL.fp]))),ownsRow_of_eq h.st (fun k hk=>he k (Or.inl (by simp [RL.fp,hk]))),ownsRow_of_eq h.ad (fun k hk=>he k (Or.inl (by simp [RL.fp,hk]))),ownsRow_of_eq h.nx (fun k hk=>he k (Or.inl (by simp [RL.fp,hk]))),h.nd,h.rp.of_eq (fun k hk=>he k (Or.inr hk)),h.dp,h.ls,h.lx⟩
theorem Rc.below (h : Rc w y vs al cl m) (hb : Below w.heap.size w w') : Rc w' y vs al cl m:=h.of_eq (fun k hk=>hb.block k (by rcases hk with hk | hk; exact h.lt k hk; exact h.rp.lt k hk))
theorem Rc.r0 (h : Rc w y vs al cl m) : w.cell? ⟨y.R,0,none⟩ = some (.pointer (some ⟨y.P,0,none⟩)):=h.bk.cell 0 rfl
theorem Rc.r1 (h : Rc w y vs al cl m) : w.cell? ⟨y.R,1,none⟩ = some (.pointer (some ⟨y.H,0,none⟩)):=h.bk.cell 1 rfl
theorem Rc.r2 (h : Rc w y vs al cl m) : w.cell? ⟨y.R,2,none⟩ = some (.int .i64 (m.nd : Int)):=h.bk.cell 2 rfl
theorem Rc.r3 (h : Rc w y vs al cl m) : w.cell? ⟨y.R,3,none⟩ = some (.int .i64 (m.wh : Int)):=h.bk.cell 3 rfl
theorem Rc.h1 (h : Rc w y vs al cl m) : w.cell? ⟨y.H,1,none⟩ = some y.sv:=h.hk.cell 1 rfl
theorem Rc.h2 (h : Rc w y vs al cl m) : w.cell? ⟨y.H,2,none⟩ = some y.av:=h.hk.cell 2 rfl
theorem Rc.h3 (h : Rc w y vs al cl m) : w.cell? ⟨y.H,3,none⟩ = some y.xv:=h.hk.cell 3 rfl
theorem Rc.nds (h : Rc w y vs al cl m) : y.R ≠ y.H ∧ (∀ k,y.sv.ownBlock = some k → k ≠ y.R ∧ k ≠ y.H) ∧ (∀ k,y.av.ownBlock = some k → k ≠ y.R ∧ k ≠ y.H ∧ y.sv.ownBlock ≠ some k) ∧ (∀ k,y.xv.ownBlock = some k → k ≠ y.R ∧ k ≠ y.H ∧ y.sv.ownBlock ≠ some k ∧ y.av.ownBlock ≠ some k):=by
 have:=h.nd
 unfold RL.fp at this
 rw [List.nodup_cons,List.nodup_cons,List.nodup_append,List.nodup_append] at this
 obtain ⟨h1,h2,-,⟨-,-,h3⟩,h4⟩:=this
 simp only [List.mem_cons,List.mem_append,Option.mem_toList,not_or] at h1 h2
 refine ⟨h1.1,fun k hk=>⟨?_,?_⟩,fun k hk=>⟨?_,?_,?_⟩,fun k hk=>⟨?_,?_,?_,?_⟩⟩
 ·rintro rfl; exact h1.2.1 hk
 ·rintro rfl; exact h2.1 hk
 ·rintro rfl; exact h1.2.2.1 hk
 ·rintro rfl; exact h2.2.1 hk
 ·intro e; exact h4 k (by simpa using e) k (by simp [hk]) rfl
 ·rintro rfl; exact h1.2.2.2 hk
 ·rintro rfl; exact h2.2.2 hk
 ·intro e; exact h4 k (by simpa using e) k (by simp [hk]) rfl
 ·intro e; exact h3 k (by simpa using e) k (by simpa using hk) rfl
theorem Rc.setR (h : Rc w y vs al cl m) (j : Nat) (u : Value) (m' : RM) (he : [ptrA y.P,ptrA y.H,.int .i64 (m.nd : Int),.int .i64 (m.wh : Int)].set j u = [ptrA y.P,ptrA y.H,.int .i64 (m'.nd : Int),.int .i64 (m'.wh : Int)]) (h1 : m'.st = m.st) (h2 : m'.ad = m.ad) (h3 : m'.nx = m.nx) :
  Rc (w.setCell ⟨y.R,j,none⟩ u) y vs al cl m':=by
 have hb:=h.bk.set j u
 rw [he] at hb
 obtain ⟨n1,n2,n3,n4⟩:=h.nds
 have ho : ∀ k,k ≠ y.R → (w.setCell ⟨y.R,j,none⟩ u).heap[k]? = w.heap[k]?:=fun k hk=>Below.heap_setCell _ _ _ _ (fun e=>hk e)
 refine ⟨hb,h.hk.of_eq (ho _ (fun e=>n1 e.symm)),?_,?_,?_,h.nd,h.rp.of_eq (fun k hk=>ho k (by rintro rfl; exact h.dp _ hk (by simp [RL.fp]))),h.dp,by rw [h1]; exact h.ls,by rw [h2,h3]; exact h.lx⟩
 ·rw [h1]; exact ownsRow_of_eq h.st (fun k hk=>ho k (n2 k hk).1)
 ·rw [h2]; exact ownsRow_of_eq h.ad (fun k hk=>ho k (n3 k hk).1)
 ·rw [h3]; exact ownsRow_of_eq h.nx (fun k hk=>ho k (n4 k hk).1)
theorem Rc.setNode (h : Rc w y vs al cl m) (n : Nat) : Rc (w.setCell ⟨y.R,2,none⟩ (.int .i64 (n : Int))) y vs al cl { m with nd:=n }:=h.setR 2 _ _ rfl rfl rfl rfl
theorem Rc.setWhat (h : Rc w y vs al cl m) (n : Nat) : Rc (w.setCell ⟨y.R,3,none⟩ (.int .i64 (n : Int))) y vs al cl { m with wh:=n }:=h.setR 3 _ _ rfl rfl rfl rfl
theorem ints_set (l : List Int) (v : Nat) (x : Int) : (ints l).set v (.int .i64 x) = ints (l.set v x):=by simp [ints,List.map_set]
theorem Rc.setVar (h : Rc w y vs al cl m) {g n cap : Nat} (hs : y.sv = .slice (some ⟨g,0,none⟩) n cap) (v : Nat) (x : Int) : Rc (w.setCell ⟨g,v,none⟩ (.int .i64 x)) y vs al cl { m with st:=m.st.set v x }:=by
 obtain ⟨n1,n2,n3,n4⟩:=h.nds
 have hg : y.sv.ownBlock = some g:=by rw [hs]; rfl
 have ho : ∀ k,k ≠ g → (w.setCell ⟨g,v,none⟩ (.int .i64 x)).heap[k]? = w.heap[k]?:=fun k hk=>Below.heap_setCell _ _ _ _ (fun e=>hk e)
 have hr : (w.setCell ⟨g,v,none⟩ (.int .i64 x)).ownsRow 0 3 1 y.sv (m.st.set v x).length (ints (m.st.set v x)):=by
  have h1:=h.st
  have hn : n = m.st.length:=by
   obtain ⟨_,_,e,_⟩:=own_slc h1
   rw [hs] at e; cases e; rfl
  rw [hs,hn] at h1 ⊢
  have h2:=(h1.stored v (.int .i64 x)).1
  rw [List.length_set]
  rw [ints_set] at h2
  exact h2
 exact ⟨h.bk.of_eq (ho _ (fun e=>(n2 g hg).1 e.symm)),h.hk.of_eq (ho _ (fun e=>(n2 g hg).2 e.symm)),hr,ownsRow_of_eq h.ad (fun k hk=>ho k (by rintro rfl; exact (n3 _ hk).2.2 hg)),ownsRow_of_eq h.nx (fun k hk=>ho k (by rintro rfl; exact (n4 _ hk).2.2.1 hg)),h.nd,h.rp.of_eq (fun k hk=>ho k (by rintro rfl; exact h.dp _ hk (by simp [RL.fp,hg]))),h.dp,by simpa using h.ls,h.lx⟩
theorem Rc.setNx (h : Rc w y vs al cl m) {g n cap : Nat} (hs : y.xv = .slice (some ⟨g,0,none⟩) n cap) (v : Nat) (x : Int) : Rc (w.setCell ⟨g,v,none⟩ (.int .i64 x)) y vs al cl { m with nx:=m.nx.set v x }:=by
 obtain ⟨n1,n2,n3,n4⟩:=h.nds
 have hg : y.xv.ownBlock = some g:=by rw [hs]; rfl
 have ho : ∀ k,k ≠ g → (w.setCell ⟨g,v,none⟩ (.int .i64 x)).heap[k]? = w.heap[k]?:=fun k hk=>Below.heap_setCell _ _ _ _ (fun e=>hk e)
 have hr : (w.setCell ⟨g,v,none⟩ (.int .i64 x)).ownsRow 0 3 1 y.xv (m.nx.set v x).length (ints (m.nx.set v x)):=by
  have h1:=h.nx
  have hn : n = m.nx.length:=by
   obtain ⟨_,_,e,_⟩:=own_slc h1
   rw [hs] at e; cases e; rfl
  rw [hs,hn] at h1 ⊢
  have h2:=(h1.stored v (.int .i64 x)).1
  rw [List.length_set]
  rw [ints_set] at h2
  exact h2
 exact ⟨h.bk.of_eq (ho _ (fun e=>(n4 g hg).1 e.symm)),h.hk.of_eq (ho _ (fun e=>(n4 g hg).2.1 e.symm)),ownsRow_of_eq h.st (fun k hk=>ho k (by rintro rfl; exact (n4 _ hg).2.2.1 hk)),ownsRow_of_eq h.ad (fun k hk=>ho k (by rintro rfl; exact (n4 _ hg).2.2.2 hk)),hr,h.nd,h.rp.of_eq (fun k hk=>ho k (by rintro rfl; exact h.dp _ hk (by simp [RL.fp,hg]))),h.dp,h.ls,by simpa using h.lx⟩
theorem Rc.memR : y.R ∈ y.fp:=by simp [RL.fp]
theorem Rc.memH : y.H ∈ y.fp:=by simp [RL.fp]
end
def rI (l : List Int) (a : Int) : Int:=if l.idxOf a < l.length then (l.idxOf a : Int) else -1
theorem idx_hit {l : List Int} {a : Int} {k : Nat} (hk : k < l.length) (hn : ∀ j,j < k → l.getD j 0 ≠ a) (h : l.getD k 0 = a) : l.idxOf a = k:=by
 induction l generalizing k with
 | nil=>simp at hk
 | cons x r ih =>
  cases k with
  | zero=>simp at h; simp [h]
  | succ k =>
   have h0 : x ≠ a:=by simpa using hn 0 (by omega)
   have h1:=ih (k:=k) (by simpa using hk) (fun j hj=>by simpa using hn (j + 1) (by omega)) (by simpa using h)
   have hb : (x == a) = false:=by simpa using h0
   rw [List.idxOf_cons,hb,h1]; rfl
theorem idx_miss {l : List Int} {a : Int} (hn : ∀ j,j < l.length → l.getD j 0 ≠ a) : ¬ l.idxOf a < l.length:=by
 intro h
 exact hn _ h (by simp [h])
set_option maxRecDepth 100000 in
set_option maxHeartbeats 1000000 in
theorem among1_any {w : World} {v : Value} {l : List Int} (hL : w.ownsRow 0 3 1 v l.length (ints l)) (hl : l.length ≤ 100000) (a : Int) :
  Calls Tryz.prog 220 #[v,.int .i64 a] w fun e w'=>e = .returned (.int .i64 (rI l a)) ∧ w' = w:=by
 have HL:=hide hL
 obtain ⟨ao,cap,rfl,hnc,hm⟩:=own_slc hL
 clear hL
 go_enter Tryz.func220,Tryz.ntmps220
 go_wp2_with fail
 go_loop [5] (fun i=>∃ k : Nat,k ≤ l.length ∧ i = .int .i64 k ∧ Hid (∀ j,j < k → l.getD j 0 ≠ a)) (fun i=>l.length - (intOf i).toNat)
 case atStart=>exact ⟨0,Nat.zero_le _,rfl,hide (fun _ h=>absurd h (by omega))⟩
 case round =>
  obtain ⟨k,hk,rfl,hall⟩:=hrel
  by_cases hlt : k < l.length
  ·have hd : decide ((k : Int) < (l.length : Int)) = true:=by simp; omega
   obtain ⟨g,cap',hv,-,-,-⟩:=own_pos (uh HL) (by omega)
   cases hv
   have x:=((uh HL).cellAt k (by omega)).trans (ints_get hlt)
   obtain ⟨q,hq⟩ : ∃ q,q = l.getD k 0:=⟨_,rfl⟩
   rw [← hq] at x
   have HQ:=hide hq
   clear hq
   cases he : (q == a) with
   | true =>
    have HR : Hid (rI l a = (k : Int)):=hide (by
     have h1 : l.getD k 0 = a:=by rw [← uh HQ]; simpa using he
     unfold rI; rw [idx_hit hlt (uh hall) h1,if_pos hlt])
    go_wp2_with fail
    go_ret
    exact ⟨ret_int (uh HR).symm,rfl⟩
   | false =>
    go_wp2_with fail
    go_round
    case rel=>exact ⟨k + 1,by omega,by go_num,hide (fun j hj=>by
     by_cases e : j = k
     ·rw [e,← uh HQ]; simpa using he
     ·exact uh hall j (by omega))⟩
    case measure=>simp [intOf]; omega
  ·have hd : decide ((k : Int) < (l.length : Int)) = false:=by simp; omega
   have HR : Hid (rI l a = -1):=hide (by unfold rI; rw [if_neg (idx_miss (fun j hj=>uh hall j (by omega)))])
   go_wp2_with fail
   go_ret
   exact ⟨ret_int (uh HR).symm,rfl⟩
section
variable {w w' : World} {y : RL} {vs : List ByteArray} {al : List RAt} {cl : List Ins} {m : RM}
set_option maxRecDepth 100000 in
set_option maxHeartbeats 1000000 in
theorem rat_any (h : Rc w y vs al cl m) (hl : m.ad.length ≤ 100000) (a : Int) : Calls Tryz.prog 190 #[.pointer (some ⟨y.R,0,none⟩),.int .i64 a] w fun e w'=>e = .returned (.int .i64 (rI m.ad a)) ∧ w' = w:=by
 have r1:=h.r1
 have h2:=h.h2
 have HA:=hide (among1_any h.ad hl a)
 clear h
 go_enter Tryz.func190,Tryz.ntmps190
 go_wp2_with fail
 refine (uh HA).mono ?_
 rintro e w2 ⟨rfl,rfl⟩
 go_wp2_with fail
 go_ret
 exact ⟨rfl,rfl⟩
def vlR (vs : List ByteArray) (st : List Int) (x : ByteArray) : Int:=if fndL vs x < vs.length then st.getD (fndL vs x) 0 else 0
set_option maxRecDepth 100000 in
set_option maxHeartbeats 1000000 in
theorem rval_any (h : Rc w y vs al cl m) (hv : vs.length ≤ 1000) (x : ByteArray) : Calls Tryz.prog 192 #[.pointer (some ⟨y.R,0,none⟩),.string x] w fun e w'=>e = .returned (.int .i64 (vlR vs m.st x)) ∧ w' = w:=by
 have r0:=h.r0
 have r1:=h.r1
 have h1:=h.h1
 have p0 : w.cell? ⟨y.P,0,none⟩ = some y.vv:=h.rp.bk.cell 0 rfl
 have HA:=hide (among_any x (Lst.of_own h.rp.vr (by omega)).strs (by omega))
 have hls:=h.ls
 by_cases hf : fndL vs x < vs.length
 ·have HE : Hid (vlR vs m.st x = m.st.getD (fndL vs x) 0):=hide (if_pos hf)
  obtain ⟨i,hi⟩ : ∃ i,i = fndL vs x:=⟨_,rfl⟩
  have ha : amI vs x = (i : Int):=by unfold amI; rw [if_pos hf,hi]
  rw [ha] at HA
  rw [← hi] at hf HE
  obtain ⟨g,cap,hs,hcn,hm,hgl⟩:=own_pos h.st (by omega)
  have hrow:=h.st
  rw [hs] at h1 hrow
  have z:=(hrow.cellAt i (by omega)).trans (ints_get (l:=m.st) (by omega))
  have hi2 : i < m.st.length:=by omega
  generalize m.st.getD i 0 = q at *
  clear h ha hi hs hrow hls
  go_enter Tryz.func192,Tryz.ntmps192
  go_wp2_with fail
  refine (uh HA).mono ?_
  rintro e w2 ⟨rfl,rfl⟩
  have hi0 : decide ((i : Int) < 0) = false:=by simp
  go_wp2_with fail
  go_ret
  exact ⟨ret_int (uh HE).symm,rfl⟩
 ·have HE : Hid (vlR vs m.st x = 0):=hide (if_neg hf)
  have ha : amI vs x = -1:=by unfold amI; rw [if_neg hf]
  rw [ha] at HA
  clear h ha hls
  go_enter Tryz.func192,Tryz.ntmps192
  go_wp2_with fail
  refine (uh HA).mono ?_
  rintro e w2 ⟨rfl,rfl⟩
  go_wp2_with fail
  go_ret
  exact ⟨ret_int (uh HE).symm,rfl⟩
set_option maxRecDepth 100000 in
set_option maxHeartbeats 1000000 in
theorem rset_any (h : Rc w y vs al cl m) (hv : vs.length ≤ 1000) (x : ByteArray) (hf : fndL vs x < vs.length) (q : Int) : Calls Tryz.prog 191 #[.pointer (some ⟨y.R,0,none⟩),.string x,.int .i64 q] w fun e w'=>e = .returned (.tuple #[]) ∧ Rc w' y vs al cl { m with st:=m.st.set (fndL vs x) q } ∧ Stp y.fp w y.fp w':=by
 have H:=hide h
 have r0:=h.r0
 have r1:=h.r1
 have h1:=h.h1
 have p0 : w.cell? ⟨y.P,0,none⟩ = some y.vv:=h.rp.bk.cell 0 rfl
 have HA:=hide (among_any x (Lst.of_own h.rp.vr (by omega)).strs (by omega))
 have hls:=h.ls
 obtain ⟨i,hi⟩ : ∃ i,i = fndL vs x:=⟨_,rfl⟩
 have ha : amI vs x = (i : Int):=by unfold amI; rw [if_pos hf,hi]
 rw [ha] at HA
 rw [← hi] at hf ⊢
 obtain ⟨g,cap,hs,hcn,hm,hgl⟩:=own_pos h.st (by omega)
 have hrow:=h.st
 rw [hs] at h1 hrow
 have z:=(hrow.cellAt i (by omega)).trans (ints_get (l:=m.st) (by omega))
 have zf:=hrow.frozenAt i
 have hi2 : i < m.st.length:=by omega
 have HS:=hide hs
 generalize m.st.getD i 0 = q0 at z
 clear h ha hi hs hrow hls
 go_enter Tryz.func191,Tryz.ntmps191
 go_wp2_with fail
 refine (uh HA).mono ?_
 rintro e w2 ⟨rfl,rfl⟩
 go_wp2_with fail
 go_end0
 exact ⟨rfl,(uh H).setVar (uh HS) i q,(Stp.refl _ _).setCell (Or.inl (by rw [RL.fp,uh HS]; simp [Value.ownBlock])) _⟩
end
end Go.Proofs.YtciihepbeacppaaGreat
