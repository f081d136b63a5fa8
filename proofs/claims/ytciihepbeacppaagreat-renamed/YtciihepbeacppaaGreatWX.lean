import Derived.Test.YtciihepbeacppaaGreatM03
namespace Go.Proofs.YtciihepbeacppaaGreat
open Go.RowKit
set_option linter.unusedVariables false
theorem splitF_len (f:Nat):∀ (l:List UInt8) (L:List (List UInt8)),splitF f l = some L→(L.map List.length).sum≤l.length∧L.length≤l.length:=by
 induction f with
 | zero =>
  intro l L h
  match l,h with
  | [],h=>simp [splitF] at h;subst h;simp
  | _ :: _,h=>simp [splitF] at h
 | succ f ih =>
  intro l L h
  match l,h with
  | [],h=>simp [splitF] at h;subst h;simp
  | c :: r,h =>
   simp only [splitF] at h
   split at h
   ·have:=ih r L h;simp;omega
   ·split at h
    ·cases h
    ·rename_i hn
     obtain ⟨L',hL',rfl⟩:=Option.map_eq_some_iff.1 h
     have:=ih _ L' hL'
     have hw:=wordLen_le (c :: r)
     generalize hwl:wordLen (c :: r) = n at *
     simp only [List.length_drop,List.length_cons,List.map_cons,List.sum_cons,List.length_take] at *
     omega
theorem jn_len (ws:List ByteArray):(jn ws).length≤(ws.map (fun x=>x.data.toList.length)).sum + ws.length:=by
 match ws with
 | []=>simp [jn]
 | x :: r =>
  have:∀ r:List ByteArray,(r.flatMap (fun y=>32 :: y.data.toList)).length≤(r.map (fun x=>x.data.toList.length)).sum + r.length:=by
   intro r
   induction r with
   | nil=>simp
   | cons y r ih=>simp only [List.flatMap_cons,List.length_append,List.length_cons,List.map_cons,List.sum_cons];omega
  have:=this r
  simp only [jn,List.length_append,List.map_cons,List.sum_cons,List.length_cons]
  omega
def rdW (l:List UInt8):List ByteArray:=((spl l).getD []).map (fun x=>⟨x.toArray⟩)
theorem rdW_of {l:List UInt8} {ws:List ByteArray} (h:spl l = some (ws.map (·.data.toList))):rdW l = ws:=by
 unfold rdW;rw [h]
 simp only [Option.getD_some,List.map_map]
 conv=>rhs;rw [← List.map_id ws]
 apply List.map_congr_left
 intro x _
 simp
theorem rdW_len {l:List UInt8} {ws:List ByteArray} (h:spl l = some (ws.map (·.data.toList))):ws.length≤l.length∧(jn ws).length≤2 * l.length:=by
 have h1:=splitF_len _ _ _ h
 have h2:=jn_len ws
 simp only [List.map_map,List.length_map] at h1
 have h3:(List.map (List.length ∘ fun x:ByteArray=>x.data.toList) ws) = ws.map (fun x=>x.data.toList.length):=rfl
 rw [h3] at h1
 omega
def ini:PS:=⟨0,false,[],[],[]⟩
def rdS (l:List UInt8):PS:=prS (rdW l) ini
def rdE (l:List UInt8):Nat :=
 if 240 < l.length then 1 else if spl l = none then 2 else if (rdS l).failed = true then 3 else if 4 < (rdS l).vars.length∨8 < (rdS l).hid.length then 4 else 0
def IsC (B:Nat) (w:World) (Q:Nat) (ws:List ByteArray) (s:PS) (al:List Atm):Prop :=
 ∃ vv pv nv:Value,w.heap[Q]? = some (.cells #[.string ⟨(jn ws).toArray⟩,vv,pv,nv] 105 (0,0))∧B≤Q ∧
  w.ownsRow B 5 1 vv s.vars.length (bc s.vars)∧w.ownsRow B 239 5 pv al.length (atCells al)∧w.ownsRow B 186 6 nv s.nodes.length (ndCells s.nodes)
def ini0:Obj:=.cells #[.slice none 0 0,.int .i64 0,.bool false,.slice none 0 0,.slice none 0 0,.slice none 0 0] 133
theorem isP_new (w:World) (B:Nat) (hB:B≤w.heap.size):IsQ B (.slice none 0 0) (w.alloc ini0) w.heap.size [] ini [w.heap.size] :=
 ⟨⟨.slice none 0 0,.slice none 0 0,.slice none 0 0,.slice none 0 0,heap_alloc_new w _,⟨hB,rfl⟩,World.ownsRow_nil _ _ _ _,World.ownsRow_nil _ _ _ _,World.ownsRow_nil _ _ _ _,World.ownsRow_nil _ _ _ _,rfl,by simp⟩,by simp [Fit,ini]⟩
theorem rowBelow {w w':World} {B:Nat} {e:TypeId} {sz n:Nat} {v:Value} {xs:List Value} (h:w.ownsRow B e sz v n xs) (hb:Below w.heap.size w w'):w'.ownsRow B e sz v n xs :=
 ownsRow_of_eq h (fun k hk=>hb.block k (h.lt k hk).2)
theorem rdE_long {l:List UInt8} (h:240 < l.length):rdE l = 1:=by unfold rdE;rw [if_pos h]
theorem rdE_lex {l:List UInt8} (h:¬ 240 < l.length) (h2:spl l = none):rdE l = 2:=by unfold rdE;rw [if_neg h,if_pos h2]
theorem rdE_syn {l:List UInt8} (h:¬ 240 < l.length) (h2:spl l≠none) (h3:(rdS l).failed = true):rdE l = 3:=by unfold rdE;rw [if_neg h,if_neg h2,if_pos h3]
theorem rdE_names {l:List UInt8} (h:¬ 240 < l.length) (h2:spl l≠none) (h3:(rdS l).failed = false) (h4:4 < (rdS l).vars.length∨8 < (rdS l).hid.length):rdE l = 4:=by
 unfold rdE;rw [if_neg h,if_neg h2,if_neg (by simp [h3]),if_pos h4]
theorem rdE_ok {l:List UInt8} (h:¬ 240 < l.length) (h2:spl l≠none) (h3:(rdS l).failed = false) (h4:¬ (4 < (rdS l).vars.length∨8 < (rdS l).hid.length)):rdE l = 0:=by
 unfold rdE;rw [if_neg h,if_neg h2,if_neg (by simp [h3]),if_neg h4]
theorem Stp.ofBelow {F:List Nat} {w w':World} (h:Below w.heap.size w w'):Stp F w F w' :=
 ⟨h.os,h.tape,h.output,h.size,fun k hk _=>h.block k hk,fun _ hk=>Or.inl hk⟩
theorem IsP.belowP {B:Nat} {WV:Value} {w w':World} {P:Nat} {ws:List ByteArray} {s:PS} {F:List Nat} (h:IsP B WV w P ws s F) (hb:Below w.heap.size w w'):IsP B WV w' P ws s F :=
 h.of_eq (fun k hk=>hb.block k (h.mem k hk).2)
theorem nd_open {P:Nat} {a a' b c d:List Nat} (h:(P :: (a ++ (b ++ (c ++ d)))).Nodup) (ha:a'.Nodup) (hg:∀ k∈a',k ∉ P :: (a ++ (b ++ (c ++ d)))):(P :: (a' ++ (b ++ ([] ++ d)))).Nodup:=by
 simp only [List.nodup_cons,List.nodup_append,List.mem_append,List.mem_cons,List.nil_append] at *
 grind
theorem IsPv.reopen {B:Nat} {WV:Value} {w:World} {P:Nat} {ws:List ByteArray} {s:PS} {F:List Nat} {wv vv hv nv:Value} (h:IsPv B WV w P ws s F wv vv hv nv) {v:Value} {ws':List ByteArray}
  (hown:w.ownsRow B 9 1 v ws'.length (ws'.map Value.string)) (hnew:∀ k,v.ownBlock = some k→k ∉ F) :
  IsP B v (((w.setCell ⟨P,0,none⟩ v).setCell ⟨P,1,none⟩ (.int .i64 0)).setCell ⟨P,4,none⟩ (.slice none 0 0)) P ws' { s with pos:=0,hid:=[] } (P :: (v.ownBlock.toList ++ (vv.ownBlock.toList ++ ([] ++ nv.ownBlock.toList)))):=by
 have hap:=h.apart.1
 obtain ⟨hP,hB,h1,h2,h3,h4,hF,hN⟩:=h
 have hPF:P∈F:=by rw [hF];simp
 have hk:∀ k,k≠P→(((w.setCell ⟨P,0,none⟩ v).setCell ⟨P,1,none⟩ (.int .i64 0)).setCell ⟨P,4,none⟩ (.slice none 0 0)).heap[k]? = w.heap[k]?:=fun k hk=>by
  rw [Below.heap_setCell _ _ _ _ hk,Below.heap_setCell _ _ _ _ hk,Below.heap_setCell _ _ _ _ hk]
 refine ⟨v,vv,.slice none 0 0,nv,set6 (set6 (set6 hP _) _) _,⟨hB.1,rfl⟩,ownsRow_of_eq hown (fun k e=>hk k (fun e2=>hnew k e (by rw [e2];exact hPF))),ownsRow_of_eq h2 (fun k e=>hk k (hap k (by simp [e]))),World.ownsRow_nil _ _ _ _,ownsRow_of_eq h4 (fun k e=>hk k (hap k (by simp [e]))),rfl,?_⟩
 rw [hF] at hN hnew
 exact nd_open hN (by cases v.ownBlock <;> simp) (fun k hk=>hnew k (by simpa using hk))
set_option maxRecDepth 100000 in
set_option maxHeartbeats 4000000 in
theorem open_any (x:ByteArray) (hx:x.size≤20000) {B:Nat} {WV:Value} {w:World} {P:Nat} {ws:List ByteArray} {s:PS} {F:List Nat} (h:IsQ B WV w P ws s F) (hv:s.vars.length≤240) :
  Calls Tryz.prog 68 #[.pointer (some ⟨P,0,none⟩),.string x] w fun e w'=>∃ F',Stp F w F' w'∧((240 < x.size∧e = .returned (.int .i64 1))∨(¬ 240 < x.size∧spl x.data.toList = none∧e = .returned (.int .i64 2)) ∨
   (¬ 240 < x.size∧∃ ws' v,spl x.data.toList = some (ws'.map (·.data.toList))∧e = .returned (.int .i64 0)∧IsQ B v w' P ws' { s with pos:=0,hid:=[] } F')):=by
 by_cases hlong:240 < x.size
 ·go_enter Tryz.func68,Tryz.ntmps68
  go_wp2_with fail
  go_ret
  exact ⟨F,Stp.refl _ _,Or.inl ⟨hlong,rfl⟩⟩
 ·have HL:=hide hlong
  have hd:decide ((240:Int) < (x.size:Int)) = false:=by simp;omega
  have HQ:=hide h
  clear hlong h
  go_enter Tryz.func68,Tryz.ntmps68
  go_wp2_with fail
  refine (wsplit_any x w hx).mono ?_
  rintro e w1 ⟨hbl,(⟨hnone,rfl⟩ | ⟨ws',v,hsome,hown,rfl⟩)⟩
  ·have HN:=hide hnone
   clear hnone
   go_wp2_with fail
   go_ret
   exact ⟨F,Stp.ofBelow hbl,Or.inr (Or.inl ⟨uh HL,uh HN,rfl⟩)⟩
  ·obtain ⟨av,cv,rfl⟩:=slice_of_own hown
   have HS:=hide hsome
   have HO:=hide hown
   have HM:=hide ((uh HQ).m.belowP hbl)
   have HBL:=hide hbl
   obtain ⟨wv,vv,hv',nv,hpv⟩:=(uh HM).named
   obtain ⟨c0,ao,cap,hwv⟩:=hpv.read0
   obtain ⟨c1,c2,c3,c4,c5,fz⟩:=hpv.readsV
   have f0:=fz 0
   have f1:=fz 1
   have f4:=fz 4
   have HPV:=hide hpv
   clear hsome hown hbl hpv fz hwv
   go_wp2_with fail
   go_ret
   have hlen:=rdW_len (uh HS)
   rw [size_toList] at hlen
   have h1:=uh HL
   have hm:=(uh HQ).m.mem
   have hsz:=(uh HBL).size
   have hB:B≤w.heap.size:=by have:=hm P (uh HQ).m.memP;omega
   refine ⟨P :: ((Value.slice av ws'.length cv).ownBlock.toList ++ (vv.ownBlock.toList ++ ([] ++ nv.ownBlock.toList))),?_,Or.inr (Or.inr ⟨h1,ws',.slice av ws'.length cv,uh HS,rfl,(uh HPV).reopen (rowBase (uh HO) hB) (fun k hk hF=>?_),by simp only [Fit];simp;omega⟩)⟩
   ·have hst:=((((Stp.ofBelow (F:=F) (uh HBL)).setCell (p:=⟨P,0,none⟩) (Or.inl (uh HQ).m.memP) (.slice av ws'.length cv)).setCell (p:=⟨P,1,none⟩) (Or.inl (uh HQ).m.memP) (.int .i64 0)).setCell (p:=⟨P,4,none⟩) (Or.inl (uh HQ).m.memP) (.slice none 0 0))
    refine ⟨hst.os,hst.tape,hst.output,hst.size,hst.block,fun k hk=>?_⟩
    have hFe:=(uh HPV).2.2.2.2.2.2.1
    simp only [List.mem_cons,List.mem_append,Option.mem_toList,List.not_mem_nil,false_or] at hk
    rcases hk with rfl | hk | hk | hk
    ·exact Or.inl (uh HQ).m.memP
    ·exact Or.inr ((uh HO).lt k hk).1
    ·left;rw [hFe];simp [hk]
    ·left;rw [hFe];simp [hk]
   ·have:=(hm k hF).2
    have:=((uh HO).lt k hk).1
    omega
set_option maxRecDepth 100000 in
set_option maxHeartbeats 4000000 in
theorem read_any (s:ByteArray) (w:World) (hs:s.size≤20000) :
  Calls Tryz.prog 46 #[.string s] w fun e w'=>Below w.heap.size w w' ∧
   ((rdE s.data.toList≠0∧e = .returned (.tuple #[.pointer none,.int .i64 (rdE s.data.toList)])) ∨
    (rdE s.data.toList = 0∧∃ Q,e = .returned (.tuple #[.pointer (some ⟨Q,0,none⟩),.int .i64 0])∧IsC w.heap.size w' Q (rdW s.data.toList) (rdS s.data.toList) (prA (rdW s.data.toList) ini))):=by
 have HQ0:=hide (isP_new w w.heap.size (Nat.le_refl _))
 go_enter Tryz.func46,Tryz.ntmps46
 go_wp2_with fail
 refine (open_any s hs (uh HQ0) (by simp [ini])).mono ?_
 rintro e w1 ⟨F,hS1,(⟨hlong,rfl⟩ | ⟨hlong,hnone,rfl⟩ | ⟨hlong,ws,v,hsome,rfl,hq⟩)⟩
 ·have HE:Hid (rdE s.data.toList = 1):=hide (rdE_long (by rw [size_toList];exact hlong))
  have HB1:Hid (Below w.heap.size w w1):=hide (((Stp.refl [w.heap.size] w).alloc ini0).trans hS1 |>.below (Nat.le_refl _) (by simp))
  clear hlong hS1
  go_wp2_with fail
  go_ret2
  exact ⟨uh HB1,Or.inl ⟨by rw [uh HE];decide,by rw [uh HE];rfl⟩⟩
 ·have HE:Hid (rdE s.data.toList = 2):=hide (rdE_lex (by rw [size_toList];exact hlong) hnone)
  have HB1:Hid (Below w.heap.size w w1):=hide (((Stp.refl [w.heap.size] w).alloc ini0).trans hS1 |>.below (Nat.le_refl _) (by simp))
  clear hlong hnone hS1
  go_wp2_with fail
  go_ret2
  exact ⟨uh HB1,Or.inl ⟨by rw [uh HE];decide,by rw [uh HE];rfl⟩⟩
 ·have HL:Hid (¬ 240 < s.data.toList.length):=hide (by rw [size_toList];exact hlong)
  ·have hlen:=rdW_len hsome
   rw [size_toList] at hlen
   have HW:Hid (rdW s.data.toList = ws):=hide (rdW_of hsome)
   have HNN:Hid (spl s.data.toList≠none):=hide (by rw [hsome];simp)
   have HQ:Hid (IsQ w.heap.size v w1 w.heap.size ws ini F):=hide hq
   have HS1:=hide (((Stp.refl [w.heap.size] w).alloc ini0).trans hS1)
   have hsz:=(uh HS1).size
   have hsm:s.size≤240:=by omega
   clear hlong hsome hq hS1
   go_wp2_with fail
   refine (program_any (uh HQ) rfl).mono ?_
   rintro e w2 ⟨pv,F2,rfl,hI2,hS2,hown2,hout2⟩
   have hp2:=hI2.f
   obtain ⟨wv,vv,hv,nv,hpv⟩:=hI2.m.named
   obtain ⟨st,hst⟩:∃ st,st = prS ws ini:=⟨_,rfl⟩
   have HST:Hid (rdS s.data.toList = st):=hide (by rw [hst,rdS,uh HW])
   rw [← hst] at hI2 hpv
   clear hst hp2
   have hb2:Below w.heap.size w w2:=((uh HS1).trans hS2).below (Nat.le_refl _) (by simp)
   obtain ⟨_,c2,c3,c4,c5,_⟩:=hpv.readsV
   obtain ⟨c0,ao,cap,rfl⟩:=hpv.read0
   obtain ⟨a3,k3,rfl⟩:=slice_of_own hpv.2.2.2.1
   obtain ⟨a4,k4,rfl⟩:=slice_of_own hpv.2.2.2.2.1
   obtain ⟨a5,k5,rfl⟩:=slice_of_own hpv.2.2.2.2.2.1
   have HR1:=hide (Strs.of_own (hpv.2.2.1:w2.ownsRow w.heap.size 9 1 (.slice ao ws.length cap) ws.length (ws.map Value.string)))
   have HR3:=hide hpv.2.2.2.1
   have HR5:=hide hpv.2.2.2.2.2.1
   have HRP:Hid (w2.ownsRow w.heap.size 239 5 pv (prA ws ini).length (atCells (prA ws ini))):=hide (rowBase hown2 (by omega))
   have HB2:=hide hb2
   have hPl:w.heap.size < w2.heap.size:=(hI2.m.mem _ hI2.m.memP).2
   obtain ⟨ap,kp,rfl⟩:=slice_of_own hown2
   clear hI2 hS2 hown2 hout2 hpv hb2
   cases hf:st.failed with
   | true =>
    rw [hf] at c2
    have HE:Hid (rdE s.data.toList = 3):=hide (rdE_syn (uh HL) (uh HNN) (by rw [uh HST];exact hf))
    clear hf
    go_wp2_with fail
    go_ret2
    exact ⟨uh HB2,Or.inl ⟨by rw [uh HE];decide,by rw [uh HE];rfl⟩⟩
   | false =>
    rw [hf] at c2
    by_cases h4:4 < st.vars.length
    ·have HE:Hid (rdE s.data.toList = 4):=hide (rdE_names (uh HL) (uh HNN) (by rw [uh HST];exact hf) (by rw [uh HST];exact Or.inl h4))
     clear hf
     go_wp2_with fail
     go_ret2
     exact ⟨uh HB2,Or.inl ⟨by rw [uh HE];decide,by rw [uh HE];rfl⟩⟩
    ·have hd4:decide ((4:Int) < (st.vars.length:Int)) = false:=by simp;omega
     by_cases h8:8 < st.hid.length
     ·have HE:Hid (rdE s.data.toList = 4):=hide (rdE_names (uh HL) (uh HNN) (by rw [uh HST];exact hf) (by rw [uh HST];exact Or.inr h8))
      clear hf
      go_wp2_with fail
      go_ret2
      exact ⟨uh HB2,Or.inl ⟨by rw [uh HE];decide,by rw [uh HE];rfl⟩⟩
     ·have hd8:decide ((8:Int) < (st.hid.length:Int)) = false:=by simp;omega
      have HE:Hid (rdE s.data.toList = 0):=hide (rdE_ok (uh HL) (uh HNN) (by rw [uh HST];exact hf) (by rw [uh HST];omega))
      clear hf
      go_wp2_with fail
      go_region_with (go_at_call 70;refine (join_any ws (.slice ao ws.length cap) _ (by exact uh HR1) (by omega) (by omega)).mono ?_;rintro e w5 ⟨hb5,rfl⟩;have m3:=(hb5.cell (p:=⟨w.heap.size,3,none⟩) hPl).trans c3;have m5:=(hb5.cell (p:=⟨w.heap.size,5,none⟩) hPl).trans c5;have HB5:Hid (Below w2.heap.size w2 w5):=hide ⟨hb5.os,hb5.tape,hb5.output,hb5.size,hb5.block⟩;clear hb5)
      all_goals
       go_wp2_with fail
       go_ret2
       have hb5:=uh HB5
       have hz5:=hb5.size
       have hz2:=(uh HB2).size
       refine ⟨((uh HB2).trans (hb5.mono hz2)).alloc (by omega) _,Or.inr ⟨uh HE,w5.heap.size,rfl,.slice a3 st.vars.length k3,.slice ap (prA ws ini).length kp,.slice a5 st.nodes.length k5,?_,by omega,?_,?_,?_⟩⟩
       ·rw [uh HW];exact heap_alloc_new w5 _
       ·rw [uh HST];exact (rowBelow (uh HR3) hb5).alloc _
       ·rw [uh HW];exact (rowBelow (uh HRP) hb5).alloc _
       ·rw [uh HST];exact (rowBelow (uh HR5) hb5).alloc _
end Go.Proofs.YtciihepbeacppaaGreat
