import Derived.Test.YtciihepbeacppaaGreatM22
import Derived.Test.YtciihepbeacppaaGreatWX
import Derived.Test.YtciihepbeacppaaGreatM10
import Derived.Test.YtciihepbeacppaaGreatM18
import Derived.Deep.LoopGhost
import Derived.BigQuiet
import Derived.Deep.QuietTactic
namespace Go.Proofs.YtciihepbeacppaaGreat
open Go.RowKit
set_option linter.unusedVariables false
theorem getD_at {α:Type} {l:List α} {d:α} {i:Nat} (h:i < l.length):l.getD i d = l[i]:=by simp [h]
theorem Tryz.infoEn:(Tryz.prog.info? 258).map (fun i=>(i.zero,i.size,i.bytes)) = some (some (.agg #[.pointer none,.bool false]),2,16):=by kernel_rfl
structure Gon (w w':World) (F F' D D' X:List Nat):Prop where
 st:Stp (F ++ X) w F' w'
 dr:∀ k∈D',k∈D∨k∈X∨w.heap.size≤k
theorem Gon.trans {w w1 w2:World} {F F1 F2 D D1 D2 X Y:List Nat} (h:Gon w w1 F F1 D D1 X) (h2:Gon w1 w2 F1 F2 D1 D2 Y) (hY:∀ k∈Y,k∈X∨w.heap.size≤k):Gon w w2 F F2 D D2 X:=by
 have hin:∀ k∈F1 ++ Y,k∈F ++ X∨w.heap.size≤k:=fun k hk=>by
  rcases List.mem_append.1 hk with p | p
  ·exact h.st.foot k p
  ·rcases hY k p with q | q
   ·exact Or.inl (List.mem_append_right _ q)
   ·exact Or.inr q
 refine ⟨⟨h2.st.os.trans h.st.os,h2.st.tape.trans h.st.tape,h2.st.output.trans h.st.output,Nat.le_trans h.st.size h2.st.size,fun k hk hn=>?_,fun k hk=>?_⟩,fun k hk=>?_⟩
 ·refine (h2.st.block k (Nat.lt_of_lt_of_le hk h.st.size) (fun e=>?_)).trans (h.st.block k hk hn)
  rcases hin k e with p | p
  ·exact hn p
  ·omega
 ·rcases h2.st.foot k hk with p | p
  ·exact hin k p
  ·exact Or.inr (Nat.le_trans h.st.size p)
 ·rcases h2.dr k hk with p | p | p
  ·exact h.dr k p
  ·rcases hY k p with q | q
   ·exact Or.inr (Or.inl q)
   ·exact Or.inr (Or.inr q)
  ·exact Or.inr (Or.inr (Nat.le_trans h.st.size p))
theorem Gon.below {w w':World} {F D X:List Nat} (h:Below w.heap.size w w'):Gon w w' F F D D X:=⟨⟨h.os,h.tape,h.output,h.size,fun k hk _=>h.block k hk,fun _ hk=>Or.inl (List.mem_append_left _ hk)⟩,fun _ hk=>Or.inl hk⟩
theorem Gon.stp {w w':World} {F D X G G':List Nat} (h:Stp G w G' w') (hG:∀ k∈G,k∈F∨k∈X):Gon w w' F F D D X:=⟨⟨h.os,h.tape,h.output,h.size,fun k hk hn=>h.block k hk (fun e=>hn (List.mem_append.2 (hG k e))),fun _ hk=>Or.inl (List.mem_append_left _ hk)⟩,fun _ hk=>Or.inl hk⟩
theorem put2 {W:World} {B g cap n i:Nat} {L:List En} (hr:W.ownsRow B 258 2 (.slice (some ⟨g,0,none⟩) n cap) n (enL L)) (hn:n = L.length) (hi:i < n) (e:En) :
  ((W.setCell ⟨g,i * 2,none⟩ (.pointer (some ⟨e.D,0,none⟩))).setCell ⟨g,i * 2 + 1,none⟩ (.bool e.d)).ownsRow B 258 2 (.slice (some ⟨g,0,none⟩) n cap) n (enL (L.set i e)) ∧
  ((∃ u,W.cell? ⟨g,i * 2,none⟩ = some u)∧∃ u,W.cell? ⟨g,i * 2 + 1,none⟩ = some u) ∧
  W.frozen? ⟨g,i * 2,none⟩ = false∧W.frozen? ⟨g,i * 2 + 1,none⟩ = false:=by
 subst hn
 have r3:=((hr.stored (i * 2) (.pointer (some ⟨e.D,0,none⟩))).1.stored (i * 2 + 1) (.bool e.d)).1
 rw [enL_set hi] at r3
 have x0:=(hr.cellAt (i * 2) (by omega)).trans (enL_get hi).1
 have x1:=(hr.cellAt (i * 2 + 1) (by omega)).trans (enL_get hi).2
 exact ⟨r3,⟨⟨_,x0⟩,⟨_,x1⟩⟩,hr.frozenAt _,hr.frozenAt _⟩
theorem en_cells {W:World} {B g cap n i:Nat} {L:List En} (hr:W.ownsRow B 258 2 (.slice (some ⟨g,0,none⟩) n cap) n (enL L)) (hn:n = L.length) (hi:i < n):W.cell? ⟨g,i * 2,none⟩ = some (.pointer (some ⟨(L[i]'(by omega)).D,0,none⟩))∧W.cell? ⟨g,i * 2 + 1,none⟩ = some (.bool (L[i]'(by omega)).d):=by
 subst hn
 exact ⟨(hr.cellAt (i * 2) (by omega)).trans (enL_get hi).1,(hr.cellAt (i * 2 + 1) (by omega)).trans (enL_get hi).2⟩
theorem En.one (e:En):∀ u∈e.c,u.oneCell' = true:=by
 intro u hu
 simp only [En.c,List.mem_cons,List.not_mem_nil,or_false] at hu
 rcases hu with rfl | rfl <;> rfl
section
variable {w:World} {S:Nat} {c:Cd} {c0 hv kv wv:Value} {KV WV:List Value} {K:List (List En)} {s:Sr} {x:FE}
theorem Sh.knE (h:Sh w S c c0 hv kv wv KV WV K s) (n:Nat):knA s n = (K.getD n []).map En.m:=by
 unfold knA
 rw [h.km]
 by_cases hn:n < K.length
 ·simp [hn]
 ·simp [List.getD_eq_getElem?_getD,List.getElem?_eq_none (Nat.le_of_not_lt hn)]
theorem Sh.kc (h:Sh w S c c0 hv kv wv KV WV K s) {n:Nat} (hn:n < K.length):∃ g cap,kv = .slice (some ⟨g,0,none⟩) K.length cap∧w.cell? ⟨g,n,none⟩ = some (KV.getD n vNil):=by
 obtain ⟨g,cap,hv,-,-,-⟩:=own_pos h.kr (by omega)
 have hkl:=h.kvl
 refine ⟨g,cap,hv,?_⟩
 have:=h.kr
 rw [hv] at this
 rw [this.cellAt n (by omega),List.getElem?_eq_getElem (by omega),getD_at (by omega)]
theorem Sh.hc (h:Sh w S c c0 hv kv wv KV WV K s) {n:Nat} (hn:n < K.length):∃ g cap,hv = .slice (some ⟨g,0,none⟩) K.length cap∧w.cell? ⟨g,n,none⟩ = some (.bool (c.hd.getD n false)):=by
 have hl:=h.hl
 obtain ⟨g,cap,hv,-,-,-⟩:=own_pos h.hr (by omega)
 refine ⟨g,cap,by rw [hv,hl],?_⟩
 have:=h.hr
 rw [hv] at this
 rw [this.cellAt n (by omega)]
 exact blC_get (by omega)
def LayP (w:World) (S:Nat) (c:Cd) (c0 hv kv wv:Value) (KV WV:List Value) (K:List (List En)) (X:List Nat) (s':Sr) (w':World):Prop :=
 ∃ KV' K',Sh w' S c c0 hv kv wv KV' WV K' s'∧K'.length = K.length∧Gon w w' (shF S hv kv wv KV WV) (shF S hv kv wv KV' WV) (drF K) (drF K') X
theorem Sh.as (h:Sh w S c c0 hv kv wv KV WV K s) {s':Sr} (e1:s'.kn = s.kn) (e2:s'.wr = s.wr) (e3:s'.lf = s.lf) (e4:s'.lo = s.lo) (e5:s'.fu = s.fu):Sh w S c c0 hv kv wv KV WV K s' :=
 ⟨by rw [e3,e4,e5];exact h.bs,h.hr,h.kr,h.ke,h.wr,by rw [e2];exact h.we,by rw [e2];exact h.wl,h.hl,h.nl,by rw [e1];exact h.km,h.dr,h.nd,h.da⟩
end
section
variable {w W:World} {S:Nat} {c:Cd} {c0 hv kv wv:Value} {KV WV:List Value} {K:List (List En)} {s:Sr} {n:Nat} {g:CF} {D A:Nat} {av ov:Value}
theorem lay_mid {o:Obj} {W1:World} {row:Option Nat} {F:List Nat} (h:Sh w S c c0 hv kv wv KV WV K s) (hn:n < K.length) (hrow:(KV.getD n vNil).ownBlock = row) (hW:Stp row.toList w F W) (hg:(W.alloc o).grownBy W1 row) :
  Bk W1 S 229 (shC c0 hv c.lp kv wv c.bd s.lf s.lo s.fu)∧W1.ownsRow 0 255 1 kv K.length KV:=by
 have hK:=h.kvl
 have hr4:(olS S hv kv wv KV WV)[4 + n]? = some row:=by rw [ol_k (by omega),hrow]
 have hsame:∀ i k,i≠4 + n→(olS S hv kv wv KV WV)[i]? = some (some k)→W1.heap[k]? = w.heap[k]?:=fun i k hi hk=>by
  have hne:row≠some k:=fun e=>hi (h.nd i (4 + n) k hk (by rw [hr4,e]))
  have hlt:=h.lt k (mem_sh hk)
  exact ((hg.block k (by have:=hW.size;simp;omega) hne.symm).trans (Below.heap_alloc _ _ _ (Nat.lt_of_lt_of_le hlt hW.size))).trans (hW.block k hlt (by simpa [eq_comm] using hne))
 exact ⟨h.bs.of_eq (hsame 0 S (by omega) rfl),ownsRow_of_eq h.kr (fun k hk=>hsame 2 k (by omega) (congrArg some hk))⟩
theorem filt_en {l:List En} {P:En→Bool} {i:Nat} (hi:i < l.length):(l.take (i + 1)).filter P = (l.take i).filter P ++ if P l[i] = true then [l[i]] else []:=by
 rw [List.take_succ_eq_append_getElem hi,List.filter_append]
 congr 1
 by_cases h:P l[i] = true <;> simp [h]
theorem ob_any (a:Option Addr) (i j i' j':Nat):(Value.slice a i j).ownBlock = (Value.slice a i' j').ownBlock:=by cases a <;> rfl
theorem lay_end {o:Obj} {W1:World} {gk ck g1 c1:Nat} {row:Option Nat} {F:List Nat} (h:Sh w S c c0 hv (.slice (some ⟨gk,0,none⟩) K.length ck) wv KV WV K s) (hn:n < K.length)
  (hrow:(KV.getD n vNil).ownBlock = row) (hD:IsD W D A g av ov) (hT:Td g) (hW:Stp row.toList w F W)
  (hdis:∀ k∈D :: bsF A av ov,k ∉ shF S hv (.slice (some ⟨gk,0,none⟩) K.length ck) wv KV WV)
  (hown:W1.ownsRow 0 258 2 (.slice (some ⟨g1,0,none⟩) (((K.getD n []).filter (fun e=>!wiB e.x.f g)).length + 1) c1) (((K.getD n []).filter (fun e=>!wiB e.x.f g)).length + 1) (enL ((K.getD n []).filter (fun e=>!wiB e.x.f g)) ++ [.pointer (some ⟨D,0,none⟩),.bool false]))
  (hg:(W.alloc o).grownBy W1 row) (hblk:some g1 = row∨g1 = (W.alloc o).heap.size) :
  ∃ KV' K',Sh (W1.setCell ⟨gk,n,none⟩ (.slice (some ⟨g1,0,none⟩) (((K.getD n []).filter (fun e=>!wiB e.x.f g)).length + 1) c1)) S c c0 hv (.slice (some ⟨gk,0,none⟩) K.length ck) wv KV' WV K' (layR n g s)∧K'.length = K.length ∧
   Stp (shF S hv (.slice (some ⟨gk,0,none⟩) K.length ck) wv KV WV) w (shF S hv (.slice (some ⟨gk,0,none⟩) K.length ck) wv KV' WV) (W1.setCell ⟨gk,n,none⟩ (.slice (some ⟨g1,0,none⟩) (((K.getD n []).filter (fun e=>!wiB e.x.f g)).length + 1) c1))∧∀ k∈drF K',k∈drF K∨k∈D :: bsF A av ov:=by
 obtain ⟨l,hl⟩:∃ l,l = K.getD n []:=⟨_,rfl⟩
 rw [← hl] at hown ⊢
 obtain ⟨M,hM⟩:∃ M,M = l.filter (fun e=>!wiB e.x.f g):=⟨_,rfl⟩
 rw [← hM] at hown ⊢
 obtain ⟨v',hv'⟩:∃ v',v' = Value.slice (some ⟨g1,0,none⟩) (M.length + 1) c1:=⟨_,rfl⟩
 have hvo:v'.ownBlock = some g1:=by rw [hv'];rfl
 rw [← hv'] at hown ⊢
 have hK:=h.kvl
 have hsz:W.heap.size≤W1.heap.size:=Nat.le_trans (by simp) hg.size
 have hr4:(olS S hv (.slice (some ⟨gk,0,none⟩) K.length ck) wv KV WV)[4 + n]? = some row:=by rw [ol_k (by omega),hrow]
 have hk2:(olS S hv (.slice (some ⟨gk,0,none⟩) K.length ck) wv KV WV)[2]? = some (some gk):=rfl
 have hgr:row≠some gk:=fun e=>by
  have:=h.nd (4 + n) 2 gk (by rw [hr4,e]) hk2
  omega
 -- what is neither the row's nor known's is as it was
 have hsame:∀ k,k < W.heap.size→row≠some k→W1.heap[k]? = W.heap[k]?:=fun k hk hne=>(hg.block k (by simp;omega) hne.symm).trans (Below.heap_alloc _ _ _ hk)
 have hsame2:∀ k,k < w.heap.size→row≠some k→W1.heap[k]? = w.heap[k]?:=fun k hk hne=>(hsame k (Nat.lt_of_lt_of_le hk hW.size) hne).trans (hW.block k hk (by simpa [eq_comm] using hne))
 have hset:∀ k,k≠gk→(W1.setCell ⟨gk,n,none⟩ v').heap[k]? = W1.heap[k]?:=fun k hk=>Below.heap_setCell _ _ _ _ hk
 have hrs:∀ k,row = some k→k∈shF S hv (.slice (some ⟨gk,0,none⟩) K.length ck) wv KV WV:=fun k hk=>mem_sh (by rw [hr4,hk])
 have hgs:gk∈shF S hv (.slice (some ⟨gk,0,none⟩) K.length ck) wv KV WV:=mem_sh hk2
 have hglt:=h.lt gk hgs
 have hg1:some g1 = row∨W.heap.size≤g1:=by
  rcases hblk with e | e
  ·exact Or.inl e
  ·right;rw [e];simp
 have hg1k:g1≠gk:=fun e=>by
  rcases hg1 with q | q
  ·exact hgr (by rw [← q,e])
  ·have:=hW.size;omega
 have hin:∀ k∈shF S hv (.slice (some ⟨gk,0,none⟩) K.length ck) wv (KV.set n v') WV,k∈shF S hv (.slice (some ⟨gk,0,none⟩) K.length ck) wv KV WV∨W.heap.size≤k:=fun k hk=>by
  obtain ⟨i,hi⟩:=mem_fpt.1 hk
  rw [ol_set v' (by omega),List.getElem?_set] at hi
  split at hi
  ·split at hi
   ·simp only [Option.some.injEq] at hi
    rw [hvo] at hi
    injection hi with hi
    subst hi
    rcases hg1 with q | q
    ·exact Or.inl (hrs _ q.symm)
    ·exact Or.inr q
   ·simp at hi
  ·exact Or.inl (mem_sh hi)
 have hkr:W1.ownsRow 0 255 1 (.slice (some ⟨gk,0,none⟩) K.length ck) K.length KV:=ownsRow_of_eq h.kr (fun k hk=>by
  have e:gk = k:=by simpa [Value.ownBlock] using hk
  subst e
  exact hsame2 gk hglt hgr)
 have hdl:∀ k∈drF K,(W1.setCell ⟨gk,n,none⟩ v').heap[k]? = w.heap[k]?:=fun k hk=>by
  rw [hset k (fun e=>h.da k hk (by rw [e];exact hgs))]
  exact hsame2 k (h.drlt k hk) (fun e=>h.da k hk (hrs k e))
 have hlK:l∈K:=by rw [hl,getD_at hn];exact List.getElem_mem hn
 have hnew:∀ k∈D :: bsF A av ov,(W1.setCell ⟨gk,n,none⟩ v').heap[k]? = W.heap[k]?:=fun k hk=>by
  rw [hset k (fun e=>hdis k hk (by rw [e];exact hgs))]
  exact hsame k (hD.lt k hk) (fun e=>hdis k hk (hrs k e))
 have hput:=h.put hn (w':=W1.setCell ⟨gk,n,none⟩ v') (v':=v') (l':=M ++ [⟨D,⟨A,g,av,ov⟩,false⟩]) (fun i k h2 h4 hi=>by
   rw [hset k (fun e=>h2 (h.nd i 2 k hi (by rw [e];exact hk2)))]
   exact hsame2 k (h.lt k (mem_sh hi)) (fun e=>h4 (h.nd i (4 + n) k hi (by rw [hr4,e])))) (hkr.stored n v').1 (by
   rw [List.length_append,List.length_singleton,enL_app]
   exact own_setO hown (p:=⟨gk,n,none⟩) (by rw [hvo];intro e;injection e with e;exact hg1k e) v') (fun k hk=>by
   rw [hvo] at hk
   injection hk with hk
   subst hk
   rcases hg1 with q | q
   ·exact Or.inl (by rw [hrow,q])
   ·exact Or.inr (Nat.le_trans hW.size q)) hdl (fun e he=>by
   rcases List.mem_append.1 he with p | p
   ·have hel:e∈l:=by rw [hM] at p;exact (List.mem_filter.1 p).1
    refine ⟨(h.dr l hlK e hel).of_eq (fun k hk=>hdl k (mem_drF.2 ⟨l,hlK,e,hel,hk⟩)),fun k hk hm=>?_⟩
    have hq:=mem_drF.2 ⟨l,hlK,e,hel,hk⟩
    rcases hin k hm with q | q
    ·exact h.da k hq q
    ·have:=h.drlt k hq;have:=hW.size;omega
   ·rw [List.mem_singleton] at p
    subst p
    refine ⟨⟨hD.of_eq hnew,hT⟩,fun k hk hm=>?_⟩
    rcases hin k hm with q | q
    ·exact hdis k hk q
    ·have:=hD.lt k hk;omega)
 refine ⟨KV.set n v',K.set n (M ++ [⟨D,⟨A,g,av,ov⟩,false⟩]),hput.as (s':=layR n g s) ?_ rfl rfl rfl rfl,List.length_set,⟨hg.os.trans hW.os,hg.tape.trans hW.tape,hg.output.trans hW.output,?_,fun k hk hm=>?_,fun k hk=>?_⟩,fun k hk=>?_⟩
 ·show s.kn.set n _ = s.kn.set n _
  rw [h.knE n,← hl,hM,List.map_append,List.filter_map]
  rfl
 ·simpa [World.setCell] using Nat.le_trans hW.size hsz
 ·rw [hset k (fun e=>hm (by rw [e];exact hgs))]
  exact hsame2 k hk (fun e=>hm (hrs k e))
 ·rcases hin k hk with q | q
  ·exact Or.inl q
  ·exact Or.inr (Nat.le_trans hW.size q)
 ·obtain ⟨l2,hl2,e,hel,hk⟩:=mem_drF.1 hk
  rcases List.mem_or_eq_of_mem_set hl2 with p | p
  ·exact Or.inl (mem_drF.2 ⟨l2,p,e,hel,hk⟩)
  ·subst p
   rcases List.mem_append.1 hel with q | q
   ·exact Or.inl (mem_drF.2 ⟨l,hlK,e,by rw [hM] at q;exact (List.mem_filter.1 q).1,hk⟩)
   ·rw [List.mem_singleton] at q
    subst q
    exact Or.inr hk
end
section
variable {w:World} {S:Nat} {c:Cd} {c0 hv kv wv:Value} {KV WV:List Value} {K:List (List En)} {s:Sr} {x:FE}
theorem En.m_any (l:List En) (P:CF→Bool):(l.map En.m).any (fun e=>P e.f) = l.any (fun e=>P e.x.f):=by rw [List.any_map];rfl
set_option maxRecDepth 100000 in
set_option maxHeartbeats 16000000 in
theorem lay_sh (h:Sh w S c c0 hv kv wv KV WV K s) (hx:Fm w x.A x.f x.av x.ov) (hT:Td x.f) (hd:∀ k∈x.bs,k ∉ shF S hv kv wv KV WV∧k ∉ drF K) {n:Nat} (hn:n < K.length) (hKl:K.length≤100000) (hok:(layS c n x.f s).ok = true) :
  Calls Tryz.prog 201 #[.pointer (some ⟨S,0,none⟩),.int .i64 n,.pointer (some ⟨x.A,0,none⟩)] w fun e w'=>e = .returned (.tuple #[])∧LayP w S c c0 hv kv wv KV WV K x.bs (layS c n x.f s) w':=by
 obtain ⟨i0,hi0,hz0,hz1,hz2⟩:=info_parts Tryz.infoEn
 have hbig:=(layS_mono hok).2
 have hkn:=h.knE n
 rw [hkn,List.length_map] at hbig
 obtain ⟨hB,hC,hhv,chd⟩:=h.hc hn
 subst hhv
 obtain ⟨kB,kC,hkv,-⟩:=h.kc hn
 subst hkv
 have c1:=h.bs.cell 1 rfl
 obtain ⟨l,hl⟩:∃ l,l = K.getD n []:=⟨_,rfl⟩
 rw [← hl] at hbig hkn
 have hlb:l.length≤1000000000000:=hbig
 obtain ⟨va,vc,hvv,hvn,hvm⟩:=own_slc (h.ke n hn)
 rw [← hl] at hvv hvn
 have hTG:Td (layN c n x.f):=layN_td hT
 have hpost:∀ (w':World) (s':Sr),s' = layS c n x.f s→LayP w S c c0 (.slice (some ⟨hB,0,none⟩) K.length hC) (.slice (some ⟨kB,0,none⟩) K.length kC) wv KV WV K x.bs s' w'→(Ending.returned (.tuple #[]):Ending) = .returned (.tuple #[])∧LayP w S c c0 (.slice (some ⟨hB,0,none⟩) K.length hC) (.slice (some ⟨kB,0,none⟩) K.length kC) wv KV WV K x.bs (layS c n x.f s) w':=fun w' s' e hp=>⟨rfl,by rw [← e];exact hp⟩
 have hlay:layS c n x.f s = if l.any (fun e=>wiB (layN c n x.f) e.x.f) = true then { lkS' c s (2 * l.length) with ok:=s.ok && decide (l.length≤big) } else spS' c (layR n (layN c n x.f) (lkS' c s (2 * l.length))):=by
  unfold layS
  rw [hkn,List.length_map,En.m_any l (fun f=>wiB (layN c n x.f) f)]
 obtain ⟨QP,hQP⟩:∃ QP:Ending→World→Prop,QP = (fun e w'=>e = .returned (.tuple #[])∧LayP w S c c0 (.slice (some ⟨hB,0,none⟩) K.length hC) (.slice (some ⟨kB,0,none⟩) K.length kC) wv KV WV K x.bs (layS c n x.f s) w'):=⟨_,rfl⟩
 rw [← hQP]
 have HQ:Hid (∀ (w':World),LayP w S c c0 (.slice (some ⟨hB,0,none⟩) K.length hC) (.slice (some ⟨kB,0,none⟩) K.length kC) wv KV WV K x.bs (layS c n x.f s) w'→QP (.returned (.tuple #[])) w'):=hide (fun w' hp=>by rw [hQP];exact ⟨rfl,hp⟩)
 have HLAY:=hide hlay
 have H:=hide h
 have HX:=hide hx
 have HT:=hide hT
 have HTG:=hide hTG
 have HD:=hide hd
 have HL:=hide hl
 have HVV:=hide hvv
 obtain ⟨xA,xf,xav,xov⟩:=x
 simp only at HX HT HTG HLAY HQ hTG ⊢
 have hxb:(⟨xA,xf,xav,xov⟩:FE).bs = bsF xA xav xov:=rfl
 rw [hxb] at HD HQ
 have i1:(0:Int)≤(n:Int):=by omega
 have i2:(n:Int) < (K.length:Int):=by omega
 clear h hx hT hd hl hvv hlay hpost hkn hok hbig hQP hTG hxb
 obtain ⟨G,hG⟩:∃ G,G = layN c n xf:=⟨_,rfl⟩
 rw [← hG] at HTG HLAY
 cases hh:c.hd.getD n false
 focus
  rw [hh] at chd
  have hG1:G = xf:=by rw [hG];unfold layN;rw [if_neg (by rw [hh];decide)]
  have HF1:Hid (Fm w xA G xav xov∧Stp (bsF xA xav xov) w (bsF xA xav xov) w):=hide ⟨by rw [hG1];exact uh HX,Stp.refl _ _⟩
  clear hG hG1 hh HX
  go_enter Tryz.func201,Tryz.ntmps201
  go_upto_region 3 with fail
  obtain ⟨W1,hW1⟩:∃ W1,W1 = w:=⟨_,rfl⟩
  have HF1':Hid (∃ av1 ov1,Fm W1 xA G av1 ov1∧Stp (bsF xA xav xov) w (bsF xA av1 ov1) W1):=hide ⟨xav,xov,by rw [hW1];exact (uh HF1).1,by rw [hW1];exact (uh HF1).2⟩
  rw [← hW1]
  clear hW1 HF1
 rotate_left
 focus
  rw [hh] at chd
  have hG1:G = tdF (foF xf):=by rw [hG];unfold layN;rw [if_pos hh]
  have HFO:=hide (fold_any (uh HX) (Nat.le_trans (uh HT).ok.owLen (by omega)))
  have HFK:Hid (FoOk (foF xf)∧(foF xf).ap = xf.ap):=hide (foldN_ok _ (uh HT).ok)
  clear hG hh
  go_enter Tryz.func201,Tryz.ntmps201
  go_wp2_with fail
  refine (uh HFO).mono ?_
  rintro e w0 ⟨rfl,ov0,hF0,hS0⟩
  have HTD:=hide (tidy_any hF0 (uh HFK).1 (by rw [(uh HFK).2];exact Nat.le_trans (uh HT).ln (by omega)))
  have HS0:=hide hS0
  clear hF0 hS0 HFO HFK
  go_wp2_with fail
  refine (uh HTD).mono ?_
  rintro e W1 ⟨rfl,av1,ov1,hF1,hS1⟩
  have HF1':Hid (∃ av1 ov1,Fm W1 xA G av1 ov1∧Stp (bsF xA xav xov) w (bsF xA av1 ov1) W1):=hide ⟨av1,ov1,by rw [hG1];exact hF1,(uh HS0).trans hS1⟩
  clear hF1 hS1 hG1 HTD HS0 HX
  go_upto_region 3 with fail
 all_goals
  obtain ⟨av1,ov1,hF1,hS1⟩:=uh HF1'
  have hin1:∀ k∈bsF xA av1 ov1,(k ∉ shF S (.slice (some ⟨hB,0,none⟩) K.length hC) (.slice (some ⟨kB,0,none⟩) K.length kC) wv KV WV∧k ∉ drF K)∧(k∈bsF xA xav xov∨w.heap.size≤k):=fun k hk=>by
   rcases hS1.foot k hk with p | p
   ·exact ⟨uh HD k p,Or.inl p⟩
   ·exact ⟨⟨fun e=>by have:=(uh H).lt k e;omega,fun e=>by have:=(uh H).drlt k e;omega⟩,Or.inr p⟩
  have h1:=(uh H).stp hS1 (fun k hk e=>(uh HD k e).1 hk) (fun k hk e=>(uh HD k e).2 hk)
  have HDR:=hide (draw_any hF1.is (uh HTG).ok)
  have hF1l:=hF1.lt
  have H1:=hide (And.intro h1 (And.intro hS1 (And.intro hin1 hF1l)))
  clear hF1 hS1 hin1 h1 HF1' hF1l
  go_wp2_with fail
  refine (uh HDR).mono ?_
  rintro e w2 ⟨D,rfl,hD2,hDge,hb2⟩
  have h2:=(uh H1).1.below hb2
  have c3:=h2.bs.cell 3 rfl
  obtain ⟨kB',kC',hkv',ckc⟩:=h2.kc hn
  simp only [Value.slice.injEq,Option.some.injEq,Addr.mk.injEq,and_true,true_and] at hkv'
  obtain ⟨rfl,rfl⟩:=hkv'
  rw [uh HVV] at ckc
  obtain ⟨q,hq⟩:∃ q,q = 2 * l.length:=⟨_,rfl⟩
  rw [← hq] at HLAY
  have hqw:IntKind.i64.wrap (2 * (l.length:Int)) = (q:Int):=by rw [IntKind.wrap_i64];omega
  have HLK:=hide (look_any h2.bs q)
  have hdd:∀ k∈D :: bsF xA av1 ov1,(k ∉ shF S (.slice (some ⟨hB,0,none⟩) K.length hC) (.slice (some ⟨kB,0,none⟩) K.length kC) wv KV WV∧k ∉ drF K)∧(k∈bsF xA xav xov∨w.heap.size≤k):=fun k hk=>by
   rcases List.mem_cons.1 hk with p | p
   ·have hz:=(uh H1).2.1.size
    exact ⟨⟨fun e=>by have:=(uh H1).1.lt k e;omega,fun e=>by have:=(uh H1).1.drlt k e;omega⟩,Or.inr (by omega)⟩
   ·exact (uh H1).2.2.1 k p
  have hgo2:Gon w w2 (shF S (.slice (some ⟨hB,0,none⟩) K.length hC) (.slice (some ⟨kB,0,none⟩) K.length kC) wv KV WV) (shF S (.slice (some ⟨hB,0,none⟩) K.length hC) (.slice (some ⟨kB,0,none⟩) K.length kC) wv KV WV) (drF K) (drF K) (bsF xA xav xov):=(Gon.stp (uh H1).2.1 (fun k hk=>Or.inr hk)).trans (Gon.below (X:=[]) hb2) (fun k hk=>by simp at hk)
  have H2:=hide (And.intro h2 (And.intro hD2 (And.intro hdd hgo2)))
  clear h2 hD2 hDge hb2 hdd hgo2 hq H1 HDR
  go_wp2_with fail
  refine (uh HLK).mono ?_
  rintro e w3 ⟨rfl,hbk3,hs3⟩
  have h3:=(uh H2).1.own (s':=lkS' c s q) hbk3 hs3 (fun k hk=>Or.inl (List.mem_singleton.1 hk)) rfl rfl
  have hD3:=(uh H2).2.1.of_eq (fun k hk=>hs3.block k ((uh H2).2.1.lt k hk) (fun e=>((uh H2).2.2.1 k hk).1.1 (by rw [List.mem_singleton] at e;rw [e];exact mem_shS)))
  have hgo3:=(uh H2).2.2.2.trans (Gon.stp (X:=[]) hs3 (fun k hk=>Or.inl (by rw [List.mem_singleton] at hk;rw [hk];exact mem_shS))) (fun k hk=>by simp at hk)
  have hrow:=h3.ke n hn
  rw [uh HVV,← uh HL] at hrow
  have hlK:l∈K:=by rw [uh HL,getD_at hn];exact List.getElem_mem hn
  have H3:=hide (And.intro h3 (And.intro hD3 (And.intro (uh H2).2.2.1 hgo3)))
  have HROW:=hide hrow
  have HLK2:=hide hlK
  have HI0:Hid (Below w3.heap.size w3 w3∧∀ i,i < 0→∀ e,l[i]? = some e→wiB G e.x.f = false):=hide ⟨Below.refl _ _,fun i hi=>by omega⟩
  clear h3 hD3 hgo3 hrow hlK hbk3 hs3 HLK H2 hqw c1 c3 ckc chd H HD HT
  go_wp2_with fail
  go_loopg [39] l.length (fun gn iv wx=>∃ (k:Nat),k + gn = l.length∧iv = .int .i64 k∧Hid (Below w3.heap.size w3 wx∧∀ i,i < k→∀ e,l[i]? = some e→wiB G e.x.f = false))
  case atStart=>exact ⟨0,by omega,rfl,HI0⟩
  case round =>
   clear HI0
   obtain ⟨k,hkn,rfl,hI⟩:=hrel
   obtain ⟨G1,hG1⟩:∃ G1,G1 = gk:=⟨_,rfl⟩
   by_cases hlt:k < l.length
   ·have hd:decide ((k:Int) < (l.length:Int)) = true:=by simp;omega
    have hr2:=own_bw (uh HROW) (uh hI).1
    obtain ⟨g,cap,hgv,-,-⟩:=own_pos hr2 (by omega)
    simp only [Value.slice.injEq,true_and] at hgv
    obtain ⟨rfl,rfl⟩:=hgv
    obtain ⟨x0,x1⟩:=en_cells hr2 rfl hlt
    have heo:=(uh H3).1.dr l (uh HLK2) l[k] (List.getElem_mem hlt)
    have hge:l[k]? = some l[k]:=List.getElem?_eq_getElem hlt
    obtain ⟨e,hee⟩:∃ e,e = l[k]:=⟨_,rfl⟩
    rw [← hee] at x0 x1 heo hge
    obtain ⟨W5,hW5⟩:∃ W5,W5 = wr.alloc (.cells #[Value.pointer (some ⟨e.D,0,none⟩),.bool e.d] 258):=⟨_,rfl⟩
    have hbx:Below wr.heap.size wr W5:=by rw [hW5];exact below_boxQ wr _
    have hb5:=(uh hI).1.trans (hbx.mono (uh hI).1.size)
    have hXb:Bk W5 wr.heap.size 258 [Value.pointer (some ⟨e.D,0,none⟩),.bool e.d]:=by rw [hW5];exact Bk.new wr _ _
    obtain ⟨Y,hYe⟩:∃ Y,Y = wr.heap.size:=⟨_,rfl⟩
    rw [← hYe] at hXb
    have b0:=hXb.cell 0 rfl
    have HWI:=hide (within_any ((uh H3).2.1.below hb5) (heo.1.below hb5) (uh HTG) heo.2)
    have HGE:=hide hge
    have HB5:=hide hb5
    have k1:(0:Int)≤(k:Int):=by omega
    have k2:(k:Int) < (l.length:Int):=by omega
    clear hr2 heo hge hee hbx hXb hb5
    go_upto_region 9 with fail
    rw [← hW5,← hYe]
    clear hW5 hYe x0 x1
    go_wp2_with fail
    refine (uh HWI).mono ?_
    rintro e6 w6 ⟨rfl,hb6⟩
    have HB6:=hide ((uh HB5).trans (hb6.mono (uh HB5).size))
    clear hb6 HWI HB5 b0
    cases hwi:wiB G e.x.f
    ·go_wp2_with fail
     go_roundg (G1 - 1)
     case rel=>exact ⟨k + 1,by omega,by go_num,hide ⟨uh HB6,fun i hi y hy=>by
      by_cases e':i = k
      ·rw [e',uh HGE] at hy
       injection hy with hy
       rw [← hy];exact hwi
      ·exact (uh hI).2 i (by omega) y hy⟩⟩
     case measure=>omega
    ·have hany:l.any (fun e=>wiB G e.x.f) = true:=by rw [List.any_eq_true];exact ⟨e,List.mem_of_getElem? (uh HGE),hwi⟩
     have HP:Hid (LayP w S c c0 (.slice (some ⟨hB,0,none⟩) K.length hC) (.slice (some ⟨kB,0,none⟩) K.length kC) wv KV WV K (bsF xA xav xov) (layS c n xf s) w6):=hide (by
      rw [uh HLAY,if_pos hany]
      exact ⟨KV,K,((uh H3).1.below (uh HB6)).as rfl rfl rfl rfl rfl,rfl,(uh H3).2.2.2.trans (Gon.below (X:=[]) (uh HB6)) (fun k hk=>by simp at hk)⟩)
     clear hwi hany hI
     go_wp2_with fail
     go_end0
     exact uh HQ _ (uh HP)
   ·have hd:decide ((k:Int) < (l.length:Int)) = false:=by simp;omega
    have hany:l.any (fun e=>wiB G e.x.f) = false:=by
     rw [List.any_eq_false]
     intro e he
     obtain ⟨i,hi,rfl⟩:=List.mem_iff_getElem.1 he
     rw [(uh hI).2 i (by omega) _ (List.getElem?_eq_getElem hi)]
     simp
    have hlay2:=uh HLAY
    rw [hany,if_neg (by decide)] at hlay2
    have HLAY2:=hide hlay2
    obtain ⟨w4,hw4⟩:∃ w4,w4 = wr:=⟨_,rfl⟩
    rw [← hw4] at hI ⊢
    have hb4:=(uh hI).1
    have hrow4:=own_bw (uh HROW) hb4
    have h4:=(uh H3).1.below hb4
    have HRS:Hid (∀ k,(Value.slice va l.length vc).ownBlock = some k→k∈shF S (.slice (some ⟨hB,0,none⟩) K.length hC) (.slice (some ⟨kB,0,none⟩) K.length kC) wv KV WV):=hide (fun k hk=>mem_sh ((ol_k (by rw [h4.kvl];exact hn)).trans (by rw [uh HVV];exact congrArg some hk)))
    have H4:=hide (And.intro h4 (And.intro ((uh H3).2.1.below hb4) (And.intro (uh H3).2.2.1 ((uh H3).2.2.2.trans (Gon.below (X:=[]) hb4) (fun k hk=>by simp at hk)))))
    have HJ0:=hide hrow4
    clear hany hlay2 hw4 hb4 hrow4 h4 hI H3 HROW HLAY hG1
    go_wp2_with fail
    go_loopg [10,11] l.length (fun gn jv iv wx=>∃ (i:Nat) (cur:List En),i + gn = l.length∧iv = .int .i64 i∧jv = .int .i64 (((l.take i).filter (fun e=>!wiB e.x.f G)).length:Nat)∧Hid (wx.ownsRow 0 258 2 (.slice va l.length vc) l.length (enL cur)∧cur.length = l.length∧cur.take ((l.take i).filter (fun e=>!wiB e.x.f G)).length = (l.take i).filter (fun e=>!wiB e.x.f G)∧cur.drop i = l.drop i∧Stp (Value.slice va l.length vc).ownBlock.toList w4 (Value.slice va l.length vc).ownBlock.toList wx))
    case atStart=>exact ⟨0,l,by omega,rfl,rfl,hide ⟨uh HJ0,rfl,by simp,rfl,Stp.refl _ _⟩⟩
    case round =>
     clear HJ0
     obtain ⟨i,cur,hin,rfl,rfl,hJ⟩:=hrel
     obtain ⟨G2,hG2⟩:∃ G2,G2 = gk:=⟨_,rfl⟩
     have hfl:((l.take i).filter (fun e=>!wiB e.x.f G)).length≤i:=Nat.le_trans (List.length_filter_le _ _) (by rw [List.length_take];omega)
     have hD5:=(uh H4).2.1.of_eq (fun k hk=>(uh hJ).2.2.2.2.block k ((uh H4).2.1.lt k hk) (fun e=>((uh H4).2.2.1 k hk).1.1 (uh HRS k (by simpa using e))))
     by_cases hlt2:i < l.length
     ·have hd2:decide ((i:Int) < (l.length:Int)) = true:=by simp;omega
      obtain ⟨g,cap,hgv,-,-⟩:=own_pos (uh hJ).1 (by omega)
      simp only [Value.slice.injEq,true_and] at hgv
      obtain ⟨rfl,rfl⟩:=hgv
      have hcl:=(uh hJ).2.1
      obtain ⟨x0,x1⟩:=en_cells (uh hJ).1 hcl.symm hlt2
      have hci:cur[i]'(by omega) = l[i]:=by
       have h1:=congrArg (fun m:List En=>m[0]?) (uh hJ).2.2.2.1
       simp only [List.getElem?_drop,Nat.add_zero] at h1
       rw [List.getElem?_eq_getElem hlt2,List.getElem?_eq_getElem (by omega)] at h1
       injection h1
      have hst:=filt_en (P:=fun e=>!wiB e.x.f G) hlt2
      have heo:=(uh H4).1.dr l (uh HLK2) l[i] (List.getElem_mem hlt2)
      have hel:∀ k∈l[i].bs,k∈drF K:=fun k hk=>mem_drF.2 ⟨l,uh HLK2,l[i],List.getElem_mem hlt2,hk⟩
      rw [hci] at x0 x1
      obtain ⟨e,hee⟩:∃ e,e = l[i]:=⟨_,rfl⟩
      obtain ⟨M,hM⟩:∃ M,M = (l.take i).filter (fun e=>!wiB e.x.f G):=⟨_,rfl⟩
      rw [← hee] at x0 x1 heo hel hst
      rw [← hM] at hst hfl hJ ⊢
      have heo5:=heo.1.of_eq (fun k hk=>(uh hJ).2.2.2.2.block k (heo.1.lt k hk) (fun e'=>(uh H4).1.da k (hel k hk) (uh HRS k (by simpa using e'))))
      have HWI:=hide (within_any heo5 hD5 heo.2 (uh HTG))
      have hdr:cur.drop (i + 1) = l.drop (i + 1):=by
       have h1:=congrArg (fun m=>m.drop 1) (uh hJ).2.2.2.1
       simpa [List.drop_drop,Nat.add_comm] using h1
      have HST:=hide hst
      have HDR2:=hide hdr
      have HJ:=hide (uh hJ)
      have HCL:=hide hcl
      have k1:(0:Int)≤(i:Int):=by omega
      have k2:(i:Int) < (l.length:Int):=by omega
      have k3:(M.length:Int) < (l.length:Int):=by omega
      have k4:(0:Int)≤(M.length:Int):=by omega
      have hML:M.length < l.length:=by omega
      clear hci hst heo hel hee hM heo5 hdr hcl hJ hD5
      cases hwi:wiB e.x.f G
      ·rw [hwi] at HWI
       have HST2:Hid ((l.take (i + 1)).filter (fun e=>!wiB e.x.f G) = M ++ [e]):=hide (by rw [uh HST,if_pos (by rw [hwi];rfl)])
       clear hwi HST
       go_wp2_with fail
       refine (uh HWI).mono ?_
       rintro e6 w6 ⟨rfl,hb6⟩
       have hr6:=own_bw (uh HJ).1 hb6
       have y0:=(hb6.cell (World.block_lt_of_cell? wr _ x0)).trans x0
       have y1:=(hb6.cell (World.block_lt_of_cell? wr _ x1)).trans x1
       obtain ⟨r6,⟨⟨u0,z0⟩,⟨u1,z1⟩⟩,f0,f1⟩:=put2 hr6 (uh HCL).symm (i:=M.length) (by omega) e
       have hs6:=(((uh HJ).2.2.2.2.trans (Stp.ofBw hb6)).setCell (p:=⟨g,M.length * 2,none⟩) (Or.inl (by simp [Value.ownBlock])) (.pointer (some ⟨e.D,0,none⟩))).setCell (p:=⟨g,M.length * 2 + 1,none⟩) (Or.inl (by simp [Value.ownBlock])) (.bool e.d)
       have hput:(cur.set M.length e).length = l.length∧(cur.set M.length e).take (M ++ [e]).length = M ++ [e]∧(cur.set M.length e).drop (i + 1) = l.drop (i + 1):=by
        refine ⟨by rw [List.length_set];exact uh HCL,?_,?_⟩
        ·have h1:=(uh HJ).2.2.1
         rw [List.length_append,List.length_singleton,List.take_add_one,List.getElem?_set_self (by rw [uh HCL];exact hML),List.take_set_of_le (Nat.le_refl _),h1]
         rfl
        ·rw [List.drop_set_of_lt (by omega)]
         exact uh HDR2
       have HN:=hide (And.intro r6 (And.intro hput.1 (And.intro hput.2.1 (And.intro hput.2.2 hs6))))
       clear hr6 r6 hs6 hput hb6 HWI HJ HDR2 HCL x0 x1
       go_wp2_with fail
       go_roundg (G2 - 1)
       case rel=>exact ⟨i + 1,_,by omega,by go_num,by rw [uh HST2,List.length_append,List.length_singleton];go_num,by rw [uh HST2];exact HN⟩
       case measure=>omega
      ·rw [hwi] at HWI
       have HST2:Hid ((l.take (i + 1)).filter (fun e=>!wiB e.x.f G) = M):=hide (by rw [uh HST,if_neg (by rw [hwi];decide),List.append_nil])
       clear hwi HST
       go_wp2_with fail
       refine (uh HWI).mono ?_
       rintro e6 w6 ⟨rfl,hb6⟩
       have HN:=hide (And.intro (own_bw (uh HJ).1 hb6) (And.intro (uh HCL) (And.intro (uh HJ).2.2.1 (And.intro (uh HDR2) ((uh HJ).2.2.2.2.trans (Stp.ofBw hb6))))))
       clear hb6 HWI HJ HDR2 HCL x0 x1
       go_wp2_with fail
       go_roundg (G2 - 1)
       case rel=>exact ⟨i + 1,cur,by omega,by go_num,by rw [uh HST2],by rw [uh HST2];exact HN⟩
       case measure=>omega
     ·have hd2:decide ((i:Int) < (l.length:Int)) = false:=by simp;omega
      have hie:l.take i = l:=List.take_of_length_le (by omega)
      rw [hie] at hJ hfl ⊢
      obtain ⟨M,hM⟩:∃ M,M = l.filter (fun e=>!wiB e.x.f G):=⟨_,rfl⟩
      rw [← hM] at hJ hfl ⊢
      have hML:M.length≤l.length:=by omega
      have HRT:Hid (wr.ownsRow 0 258 2 (.slice va M.length vc) M.length (enL M)):=hide (by
       have h1:=own_take (uh hJ).1 hML
       rw [enL_take,(uh hJ).2.2.1] at h1
       exact h1)
      have q1:(0:Int)≤(M.length:Int):=by omega
      have q2:(M.length:Int)≤(vc:Int):=by omega
      have HJ:=hide (And.intro (uh hJ).2.2.2.2 hD5)
      have HM:=hide hM
      clear hie hJ hfl hM hD5
      go_wp2_with (at_builtin;refine wpList_app2 _ rfl (.tmp 74) (.tmp 77) 255 rfl 0 258 i0 _ 2 16 Tryz.underlying255 hi0 hz0 hz1 hz2 rfl (by decide) _ M.length (enL M) rfl ((uh HRT).alloc _) ⟨_,0,none⟩ 1 [.pointer (some ⟨D,0,none⟩),.bool false] rfl rfl (new_cells _ _ (by simp) [.pointer (some ⟨D,0,none⟩),.bool false] _) (En.one ⟨D,⟨xA,G,av1,ov1⟩,false⟩) (by omega) (by omega) (Nat.zero_le _) ?_)
      intro g7 cap7 w7 hown7 hgrow7 hblk7
      have hrw:(KV.getD n vNil).ownBlock = (Value.slice va M.length vc).ownBlock:=by rw [uh HVV];exact ob_any _ _ _ _ _
      have hob:(Value.slice va l.length vc).ownBlock = (Value.slice va M.length vc).ownBlock:=ob_any _ _ _ _ _
      have hst7:=(uh HJ).1
      rw [hob] at hst7
      obtain ⟨hbs7,hkr7⟩:=lay_mid (uh H4).1 hn hrw hst7 hgrow7
      have c3:=hbs7.cell 3 rfl
      have hkvl:=(uh H4).1.kvl
      have ck:=hkr7.cellAt n (by omega)
      have hnk:n < KV.length:=by omega
      rw [List.getElem?_eq_getElem hnk] at ck
      have zk:=hkr7.frozenAt n
      have hend:=lay_end (uh H4).1 hn hrw (uh HJ).2 (uh HTG) hst7 (fun k hk=>((uh H4).2.2.1 k hk).1.1) (g1:=g7) (c1:=cap7) (by rw [← uh HL,← uh HM];exact hown7) hgrow7 (by simpa using hblk7)
      rw [← uh HL,← uh HM] at hend
      obtain ⟨KV',K',hS8,hK8,hs8,hd8⟩:=hend
      have HSP:=hide (spend_any hS8.bs)
      have H8:=hide (And.intro hS8 (And.intro hK8 (And.intro hs8 hd8)))
      clear hown7 hgrow7 hblk7 hrw hob hst7 hbs7 hkr7 hS8 hK8 hs8 hd8 HRT HJ
      go_wp2_with fail
      refine (uh HSP).mono ?_
      rintro e w9 ⟨rfl,hb9,hs9⟩
      have h9:=(uh H8).1.own (s':=spS' c (layR n G (lkS' c s q))) hb9 hs9 (fun k hk=>Or.inl (List.mem_singleton.1 hk)) rfl rfl
      have hP:LayP w S c c0 (.slice (some ⟨hB,0,none⟩) K.length hC) (.slice (some ⟨kB,0,none⟩) K.length kC) wv KV WV K (bsF xA xav xov) (layS c n xf s) w9:=by
       rw [uh HLAY2]
       refine ⟨KV',K',h9,(uh H8).2.1,?_⟩
       have g4:=(uh H4).2.2.2
       have g8:Gon w4 _ (shF S (.slice (some ⟨hB,0,none⟩) K.length hC) (.slice (some ⟨kB,0,none⟩) K.length kC) wv KV WV) (shF S (.slice (some ⟨hB,0,none⟩) K.length hC) (.slice (some ⟨kB,0,none⟩) K.length kC) wv KV' WV) (drF K) (drF K') (D :: bsF xA av1 ov1):=⟨(uh H8).2.2.1.wider (fun k hk=>List.mem_append_left _ hk) (fun k hk=>Or.inl hk),fun k hk=>((uh H8).2.2.2 k hk).elim Or.inl (fun p=>Or.inr (Or.inl p))⟩
       exact (g4.trans g8 (fun k hk=>((uh H4).2.2.1 k hk).2)).trans (Gon.stp (X:=[]) hs9 (fun k hk=>Or.inl (by rw [List.mem_singleton] at hk;rw [hk];exact mem_shS))) (fun k hk=>by simp at hk)
      have HP:=hide hP
      clear hb9 hs9 h9 hP HSP H8
      go_wp2_with fail
      go_end0
      exact uh HQ _ (uh HP)
end
structure Pn (W:World) (v:Value) (L:List FE) (j:Nat) (F D:List Nat):Prop where
 pe:Pend W 0 v L j
 td:∀ x∈L,Td x.f
 fd:∀ k∈fpP v L j,k ∉ F∧k ∉ D
theorem Pn.next {W W':World} {v:Value} {L:List FE} {j:Nat} {F F' D D':List Nat} (h:Pn W v L j F D) (hj:j < L.length) (hg:Gon W W' F F' D D' L[j].bs):Pn W' v L (j + 1) F' D':=by
 obtain ⟨-,-,h3,h4,-⟩:=h.pe.next hj
 refine ⟨h3.stp hg.st (fun k hk hn=>?_),h.td,fun k hk=>⟨fun hn=>?_,fun hn=>?_⟩⟩
 ·rcases List.mem_append.1 hn with p | p
  ·exact (h.fd k (h4 k hk).1).1 p
  ·exact (h4 k hk).2 p
 ·rcases hg.st.foot k hn with p | p
  ·rcases List.mem_append.1 p with p | p
   ·exact (h.fd k (h4 k hk).1).1 p
   ·exact (h4 k hk).2 p
  ·have:=h3.lt k hk;omega
 ·rcases hg.dr k hn with p | p | p
  ·exact (h.fd k (h4 k hk).1).2 p
  ·exact (h4 k hk).2 p
  ·have:=h3.lt k hk;omega
section
variable {w w':World} {S:Nat} {c:Cd} {c0 hv kv wv:Value} {KV WV:List Value} {K:List (List En)} {s:Sr} {x:FE}
theorem Sh.wc (h:Sh w S c c0 hv kv wv KV WV K s) {n:Nat} (hn:n < K.length):∃ g cap g2 cap2,wv = .slice (some ⟨g,0,none⟩) K.length cap∧WV.getD n vNil = .slice (some ⟨g2,0,none⟩) 5 cap2∧w.cell? ⟨g,n,none⟩ = some (.slice (some ⟨g2,0,none⟩) 5 cap2)∧(∀ t,t < 5→w.cell? ⟨g2,t,none⟩ = some (.bool ((s.wr.getD n []).getD t false)))∧∀ t,w.frozen? ⟨g2,t,none⟩ = false:=by
 obtain ⟨g,cap,hv,-,-,-⟩:=own_pos h.wr (by omega)
 have h2:=h.we n hn
 obtain ⟨g2,cap2,hv2,-,-,-⟩:=own_pos h2 (by omega)
 have hwl:=h.wvl
 rw [hv2] at h2
 refine ⟨g,cap,g2,cap2,hv,hv2,?_,fun t ht=>?_,fun t=>h2.frozenAt t⟩
 ·have:=h.wr
  rw [hv] at this
  rw [this.cellAt n (by omega),List.getElem?_eq_getElem (by omega),← getD_at (d:=vNil) (by omega),hv2]
 ·rw [h2.cellAt t (by omega)]
  have h5:(s.wr.getD n []).length = 5:=by
   have:=h2.1
   unfold blC at this
   rw [List.length_map] at this
   omega
  exact blC_get (by omega)
theorem LayP.pre {X:List Nat} {s':Sr} {w1 w2:World} (h:LayP w1 S c c0 hv kv wv KV WV K X s' w2) (hb:Below w.heap.size w w1):LayP w S c c0 hv kv wv KV WV K X s' w2:=by
 obtain ⟨KV',K',h1,h2,h3⟩:=h
 exact ⟨KV',K',h1,h2,(Gon.below (X:=X) hb).trans h3 (fun k hk=>Or.inl hk)⟩
set_option maxRecDepth 100000 in
set_option maxHeartbeats 16000000 in
theorem arrive_sh (h:Sh w S c c0 hv kv wv KV WV K s) (hx:Fm w x.A x.f x.av x.ov) (hT:Td x.f) (hd:∀ k∈x.bs,k ∉ shF S hv kv wv KV WV∧k ∉ drF K) {a n:Nat} (ha:a < K.length) (hn:n < K.length) (hKl:K.length≤100000) {fuel:Nat} (hok:(arS c fuel a n x.f s).ok = true) :
  Calls Tryz.prog 172 #[.pointer (some ⟨S,0,none⟩),.int .i64 a,.int .i64 n,.pointer (some ⟨x.A,0,none⟩)] w fun e w'=>e = .returned (.tuple #[])∧LayP w S c c0 hv kv wv KV WV K x.bs (arS c fuel a n x.f s) w':=by
 have c2:=h.bs.cell 2 rfl
 have HLY:Hid (∀ w1,Below w.heap.size w w1→(layS c n x.f s).ok = true→Calls Tryz.prog 201 #[.pointer (some ⟨S,0,none⟩),.int .i64 n,.pointer (some ⟨x.A,0,none⟩)] w1 fun e w'=>e = .returned (.tuple #[])∧LayP w S c c0 hv kv wv KV WV K x.bs (layS c n x.f s) w'):=hide (fun w1 hb ho=>(lay_sh (h.below hb) (hx.below hb) hT hd hn hKl ho).mono (fun e w' hp=>⟨hp.1,hp.2.pre hb⟩))
 cases hlp:c.lp
 ·have e:arS c fuel a n x.f s = layS c n x.f s:=by unfold arS;rw [if_pos (Or.inl hlp)]
  rw [e] at hok ⊢
  rw [hlp] at c2
  have HL:=hide (uh HLY w (Below.refl _ _) hok)
  clear h hx hT hd hlp e HLY
  go_enter Tryz.func172,Tryz.ntmps172
  go_wp2_with fail
  refine (uh HL).mono ?_
  rintro e w1 ⟨rfl,hp⟩
  have HP:=hide hp
  clear hp HL
  go_wp2_with fail
  refine bodyPost_ret (results_none rfl _ _ _) rfl ?_
  exact ⟨rfl,uh HP⟩
 ·rw [hlp] at c2
  have HLO:=hide (lost_any hx.is hT.ok)
  by_cases hlo:loL x.f = []
  ·have e:arS c fuel a n x.f s = layS c n x.f s:=by unfold arS;rw [if_pos (Or.inr hlo)]
   rw [e] at hok ⊢
   have hl0:(((loL x.f).length:Int) == (0:Int)) = true:=by rw [hlo];rfl
   have HOK:=hide hok
   clear h hx hT hd hlp e hlo hok
   go_enter Tryz.func172,Tryz.ntmps172
   go_wp2_with fail
   refine (uh HLO).mono ?_
   rintro e w1 ⟨lv,rfl,hlr,hb1⟩
   obtain ⟨la,lc,hlv,-,-⟩:=own_slc hlr
   subst hlv
   have HL:=hide (uh HLY w1 hb1 (uh HOK))
   clear hlr hb1 HLY HLO
   go_wp2_with fail
   refine (uh HL).mono ?_
   rintro e w2 ⟨rfl,hp⟩
   have HP:=hide hp
   clear hp HL
   go_wp2_with fail
   refine bodyPost_ret (results_none rfl _ _ _) rfl ?_
   exact ⟨rfl,uh HP⟩
  ·have hl0:(((loL x.f).length:Int) == (0:Int)) = false:=by
    have:(loL x.f).length≠0:=fun e=>hlo (List.length_eq_zero_iff.1 e)
    simp;omega
   obtain ⟨R,hR⟩:∃ R,R = fgN c fuel 0 [] ([x.f],wrS a 2 s):=⟨_,rfl⟩
   have e:arS c fuel a n x.f s = R.1.foldl (fun s g=>layS c n g s) R.2:=by unfold arS;rw [if_neg (by rw [not_or];exact ⟨by rw [hlp];decide,hlo⟩),hR]
   rw [e] at hok ⊢
   have hRok:R.2.ok = true:=layF_mono _ hok
   have hRk:R.2.kn = s.kn∧R.2.wr = (wrS a 2 s).wr:=by
    have h1:CsOk [x.f]:=fun y hy=>by rw [List.mem_singleton] at hy;subst hy;exact hT
    obtain ⟨-,g2,g3⟩:=fgN_ok (c:=c) fuel 0 (r:=([x.f],wrS a 2 s)) (res:=[]) h1 (fun y hy=>by simp at hy)
    rw [← hR] at g2 g3
    exact ⟨g2,g3⟩
   have hRl:R.2.lo = s.lo:=by rw [hR];exact fgN_lo fuel 0 [] ([x.f],wrS a 2 s)
   obtain ⟨wB,wC,gA,cA,hwv,hWV,cw,ct,hz⟩:=h.wc ha
   subst hwv
   have c4:=h.bs.cell 4 rfl
   have ct2:=ct 2 (by omega)
   have hz2:=hz 2
   have hbad:=h.bad ha (t:=2) (by omega) hWV
   have H:=hide h
   have HX:=hide hx
   have HT:=hide hT
   have HD:=hide hd
   have HR:=hide hR
   have HRK:=hide (And.intro hRok (And.intro hRk hRl))
   have HOK:=hide hok
   have HBAD:=hide (And.intro hWV hbad)
   have i1:(0:Int)≤(a:Int):=by omega
   have i2:(a:Int) < (K.length:Int):=by omega
   obtain ⟨POST,hPOST⟩:∃ POST:World→Prop,POST = fun w'=>LayP w S c c0 hv kv (.slice (some ⟨wB,0,none⟩) K.length wC) KV WV K x.bs (R.1.foldl (fun s g=>layS c n g s) R.2) w':=⟨_,rfl⟩
   have HPOST:=hide hPOST
   rw [show (fun (e:Ending) (w':World)=>e = .returned (.tuple #[])∧LayP w S c c0 hv kv (.slice (some ⟨wB,0,none⟩) K.length wC) KV WV K x.bs (R.1.foldl (fun s g=>layS c n g s) R.2) w') = (fun e w'=>e = .returned (.tuple #[])∧POST w') by rw [hPOST]]
   clear h hx hT hd hlp e hlo hok HLY hR hRok hRk hRl hWV hbad ct hz hPOST
   go_enter Tryz.func172,Tryz.ntmps172
   go_wp2_with fail
   refine (uh HLO).mono ?_
   rintro e w1 ⟨lv,rfl,hlr,hb1⟩
   obtain ⟨la,lc,hlv,-,-⟩:=own_slc hlr
   subst hlv
   have h1:=(uh H).below hb1
   obtain ⟨hb2,hgs⟩:=h1.bad ha (t:=2) (by omega) (uh HBAD).1
   have d4:=h1.bs.cell 4 rfl
   have dw:=(hb1.cell (World.block_lt_of_cell? w _ cw)).trans cw
   have dt:=(hb1.cell (World.block_lt_of_cell? w _ ct2)).trans ct2
   have hlA:=World.block_lt_of_cell? w _ ct2
   have dz:w1.frozen? ⟨gA,2,none⟩ = false:=by
    have h5:=h1.we a ha
    rw [(uh HBAD).1] at h5
    exact h5.frozenAt 2
   have hx2:=((uh HX).below hb1).of_eq (w':=w1.setCell ⟨gA,2,none⟩ (.bool true)) (fun k hk=>Below.heap_setCell _ _ _ _ (fun e=>(uh HD k hk).1 (by rw [show k = gA from e];exact hgs)))
   have HFG:=hide (forgetS_any (c:=c) (s:=wrS a 2 s) (x:=x) (B:=0) hb2.bs hx2 (uh HT) (fun q _=>Nat.zero_le _) (fun e=>(uh HD S e).1 mem_shS) (Nat.zero_le _) fuel (by rw [← uh HR];exact (uh HRK).1))
   rw [← uh HR] at HFG
   have hg2:Gon w (w1.setCell ⟨gA,2,none⟩ (.bool true)) (shF S hv kv (.slice (some ⟨wB,0,none⟩) K.length wC) KV WV) (shF S hv kv (.slice (some ⟨wB,0,none⟩) K.length wC) KV WV) (drF K) (drF K) x.bs:=(Gon.below (X:=x.bs) hb1).trans (Gon.stp (X:=[]) ((Stp.refl [gA] w1).setCell (p:=⟨gA,2,none⟩) (Or.inl (by simp)) (.bool true)) (fun k hk=>Or.inl (by rw [List.mem_singleton] at hk;rw [hk];exact hgs))) (fun k hk=>by simp at hk)
   have H2:=hide (And.intro hb2 (And.intro hg2 hx2))
   clear hlr hb1 h1 hb2 hgs hx2 hlA hg2 HLO HBAD c4 ct2 cw hz2 c2
   go_wp2_with fail
   refine (uh HFG).mono ?_
   rintro e w3 ⟨v3,L3,rfl,hfl3,htd3,hmap3,hbk3,hS3,hs3⟩
   obtain ⟨va,vc,hvv,-,-⟩:=own_slc hfl3.row
   subst hvv
   have h3:=(uh H2).1.own (s':=R.2) (by rw [(uh HRK).2.2];exact hbk3) hs3 (fun k hk=>by
    rcases List.mem_cons.1 hk with p | p
    ·exact Or.inl p
    ·exact Or.inr (uh HD k p)) (uh HRK).2.1.1 (uh HRK).2.1.2
   have hg3:=(uh H2).2.1.trans (Gon.stp (X:=x.bs) hs3 (fun k hk=>by
    rcases List.mem_cons.1 hk with p | p
    ·exact Or.inl (by rw [p];exact mem_shS)
    ·exact Or.inr p)) (fun k hk=>Or.inl hk)
   have hin3:∀ k∈flF (.slice va L3.length vc) L3,k∈x.bs∨w.heap.size≤k:=fun k hk=>by
    rcases hs3.foot k (List.mem_cons_of_mem _ hk) with p | p
    ·rcases List.mem_cons.1 p with p | p
     ·exact absurd (by rw [← p];exact hk) hS3
     ·exact Or.inl p
    ·exact Or.inr (Nat.le_trans (uh H2).2.1.st.size p)
   have hPn:Pn w3 (.slice va L3.length vc) L3 0 (shF S hv kv (.slice (some ⟨wB,0,none⟩) K.length wC) KV WV) (drF K):=⟨hfl3.pend,htd3,fun k hk=>by
    have hk2:k∈flF (.slice va L3.length vc) L3:=by simpa [fpP,flF] using hk
    rcases hin3 k hk2 with p | p
    ·exact uh HD k p
    ·exact ⟨fun e=>by have:=(uh H).lt k e;omega,fun e=>by have:=(uh H).drlt k e;omega⟩⟩
   have hfo:((L3.drop 0).map (·.f)).foldl (fun s g=>layS c n g s) R.2 = R.1.foldl (fun s g=>layS c n g s) R.2:=by rw [List.drop_zero,hmap3]
   have HIN3:=hide hin3
   have hL3l:L3.length≤9223372036854775807:=by
    obtain ⟨a1,c1,e1,e2,e3⟩:=own_slc hfl3.row
    omega
   have HI0:=hide (And.intro h3 (And.intro hg3 (And.intro hPn hfo)))
   clear hfl3 htd3 hmap3 hbk3 hS3 hs3 h3 hg3 hin3 hPn hfo H2 HFG
   go_wp2_with fail
   go_loopg [37] L3.length (fun gn iv wx=>∃ (j:Nat) (KV':List Value) (K':List (List En)) (s':Sr),j + gn = L3.length∧iv = .int .i64 j∧Hid (Sh wx S c c0 hv kv (.slice (some ⟨wB,0,none⟩) K.length wC) KV' WV K' s'∧K'.length = K.length∧Gon w wx (shF S hv kv (.slice (some ⟨wB,0,none⟩) K.length wC) KV WV) (shF S hv kv (.slice (some ⟨wB,0,none⟩) K.length wC) KV' WV) (drF K) (drF K') x.bs∧Pn wx (.slice va L3.length vc) L3 j (shF S hv kv (.slice (some ⟨wB,0,none⟩) K.length wC) KV' WV) (drF K')∧((L3.drop j).map (·.f)).foldl (fun s g=>layS c n g s) s' = R.1.foldl (fun s g=>layS c n g s) R.2))
   case atStart=>exact ⟨0,KV,K,R.2,by omega,rfl,hide ⟨(uh HI0).1,rfl,(uh HI0).2⟩⟩
   case round =>
    clear HI0
    obtain ⟨j,KV',K',s',hjn,rfl,hI⟩:=hrel
    obtain ⟨G1,hG1⟩:∃ G1,G1 = gk:=⟨_,rfl⟩
    by_cases hlt:j < L3.length
    ·have hd2:decide ((j:Int) < (L3.length:Int)) = true:=by simp;omega
     obtain ⟨h1,h2,h3,h4,h5⟩:=uh hI
     obtain ⟨g2,cap2,hgv2,hcell⟩:=h4.pe.cell hlt
     simp only [Value.slice.injEq,true_and] at hgv2
     obtain ⟨rfl,rfl⟩:=hgv2
     obtain ⟨n1,-,-,-,n5⟩:=h4.pe.next hlt
     have hty:=h4.td _ (List.getElem_mem hlt)
     have hfd:∀ k∈L3[j].bs,k ∉ shF S hv kv (.slice (some ⟨wB,0,none⟩) K.length wC) KV' WV∧k ∉ drF K':=fun k hk=>h4.fd k (n5 k hk)
     have hdr:L3.drop j = L3[j] :: L3.drop (j + 1):=List.drop_eq_getElem_cons hlt
     rw [hdr,List.map_cons,List.foldl_cons] at h5
     have hokj:(layS c n L3[j].f s').ok = true:=layF_mono _ (by rw [h5];exact uh HOK)
     have hnx:∀ w' KV2 K2,Gon wr w' (shF S hv kv (.slice (some ⟨wB,0,none⟩) K.length wC) KV' WV) (shF S hv kv (.slice (some ⟨wB,0,none⟩) K.length wC) KV2 WV) (drF K') (drF K2) L3[j].bs→Pn w' (.slice (some ⟨g2,0,none⟩) L3.length vc) L3 (j + 1) (shF S hv kv (.slice (some ⟨wB,0,none⟩) K.length wC) KV2 WV) (drF K2)∧Gon w w' (shF S hv kv (.slice (some ⟨wB,0,none⟩) K.length wC) KV WV) (shF S hv kv (.slice (some ⟨wB,0,none⟩) K.length wC) KV2 WV) (drF K) (drF K2) x.bs:=fun w' KV2 K2 hg=>⟨h4.next hlt hg,h3.trans hg (fun k hk=>uh HIN3 k (List.mem_append_right _ (List.mem_flatMap.2 ⟨_,List.getElem_mem hlt,hk⟩)))⟩
     obtain ⟨y,hy⟩:∃ y,y = L3[j]:=⟨_,rfl⟩
     rw [← hy] at hcell n1 hty hfd h5 hokj hnx
     have hyp:y.p = .pointer (some ⟨y.A,0,none⟩):=rfl
     rw [hyp] at hcell
     have HLJ:=hide (lay_sh h1 n1 hty hfd (n:=n) (by omega) (by omega) hokj)
     have HNX:=hide (And.intro hnx (And.intro h2 h5))
     have k1:(0:Int)≤(j:Int):=by omega
     have k2:(j:Int) < (L3.length:Int):=by omega
     clear h1 h2 h3 h4 h5 n1 n5 hty hfd hdr hokj hnx hy hyp hI
     go_wp2_with fail
     refine (uh HLJ).mono ?_
     rintro e w5 ⟨rfl,KV2,K2,g1,g2',g3⟩
     obtain ⟨p1,p2⟩:=(uh HNX).1 w5 KV2 K2 g3
     have HN:=hide (And.intro g1 (And.intro (g2'.trans (uh HNX).2.1) (And.intro p2 (And.intro p1 (uh HNX).2.2))))
     clear g1 g2' g3 p1 p2 HLJ HNX
     go_wp2_with fail
     go_roundg (G1 - 1)
     case rel=>exact ⟨j + 1,KV2,K2,_,by omega,by go_num,HN⟩
     case measure=>omega
    ·have hd2:decide ((j:Int) < (L3.length:Int)) = false:=by simp;omega
     have hP:POST wr:=by
      obtain ⟨h1,h2,h3,h4,h5⟩:=uh hI
      rw [List.drop_eq_nil_of_le (by omega)] at h5
      rw [uh HPOST]
      refine ⟨KV',K',?_,h2,h3⟩
      rw [← h5]
      exact h1
     have HP:=hide hP
     clear hP hI
     go_wp2_with fail
     go_end0
     exact ⟨rfl,uh HP⟩
end
def ptrA (A:Nat):Value:=.pointer (some ⟨A,0,none⟩)
structure Cp (w:World) (Q:Nat) (ws:List ByteArray) (s:PS) (al:List Atm) (vv pv nv:Value):Prop where
 bk:Bk w Q 105 [.string ⟨(jn ws).toArray⟩,vv,pv,nv]
 vr:w.ownsRow 0 5 1 vv s.vars.length (bc s.vars)
 pr:w.ownsRow 0 239 5 pv al.length (atCells al)
 nr:w.ownsRow 0 186 6 nv s.nodes.length (ndCells s.nodes)
def cpB (Q:Nat) (vv pv nv:Value):List Nat:=Q :: (vv.ownBlock.toList ++ (pv.ownBlock.toList ++ nv.ownBlock.toList))
section
variable {w w':World} {Q:Nat} {ws:List ByteArray} {s:PS} {al:List Atm} {vv pv nv:Value}
theorem Cp.of_eq (h:Cp w Q ws s al vv pv nv) (he:∀ k∈cpB Q vv pv nv,w'.heap[k]? = w.heap[k]?):Cp w' Q ws s al vv pv nv :=
 ⟨h.bk.of_eq (he Q (by simp [cpB])),ownsRow_of_eq h.vr (fun k hk=>he k (by simp [cpB,hk])),ownsRow_of_eq h.pr (fun k hk=>he k (by simp [cpB,hk])),ownsRow_of_eq h.nr (fun k hk=>he k (by simp [cpB,hk]))⟩
theorem Cp.lt (h:Cp w Q ws s al vv pv nv):∀ k∈cpB Q vv pv nv,k < w.heap.size:=by
 intro k hk
 simp only [cpB,List.mem_cons,List.mem_append,Option.mem_toList] at hk
 rcases hk with rfl | hk | hk | hk
 ·exact h.bk.lt
 ·exact (h.vr.lt k hk).2
 ·exact (h.pr.lt k hk).2
 ·exact (h.nr.lt k hk).2
theorem Cp.below (h:Cp w Q ws s al vv pv nv) (hb:Below w.heap.size w w'):Cp w' Q ws s al vv pv nv:=h.of_eq (fun k hk=>hb.block k (h.lt k hk))
end
theorem IsC.cp {B:Nat} {w:World} {Q:Nat} {ws:List ByteArray} {s:PS} {al:List Atm} (h:IsC B w Q ws s al):∃ vv pv nv,Cp w Q ws s al vv pv nv∧∀ k∈cpB Q vv pv nv,B≤k:=by
 obtain ⟨vv,pv,nv,h0,hB,h1,h2,h3⟩:=h
 refine ⟨vv,pv,nv,⟨h0,own_le h1 (Nat.zero_le _),own_le h2 (Nat.zero_le _),own_le h3 (Nat.zero_le _)⟩,fun k hk=>?_⟩
 simp only [cpB,List.mem_cons,List.mem_append,Option.mem_toList] at hk
 rcases hk with rfl | hk | hk | hk
 ·exact hB
 ·exact (h1.lt k hk).1
 ·exact (h2.lt k hk).1
 ·exact (h3.lt k hk).1
def ndA (nds:List Nd) (n:Nat):Nd:=nds.getD n ⟨0,0,0,0,0,0⟩
theorem nd_get {l:List Nd} {k:Nat} (h:k < l.length):∀ j,j < 6→(ndCells l)[k * 6 + j]? = l[k].cells[j]?:=by
 induction l generalizing k with
 | nil=>simp at h
 | cons x l ih =>
  have hx:ndCells (x :: l) = x.cells ++ ndCells l:=rfl
  have hl:x.cells.length = 6:=rfl
  intro j hj
  cases k with
  | zero=>rw [hx,List.getElem?_append_left (by omega)];simp
  | succ k =>
   rw [hx,List.getElem?_append_right (by omega),hl,show (k + 1) * 6 + j - 6 = k * 6 + j by omega,ih (by simpa using h) j hj]
   rfl
set_option maxRecDepth 100000 in
set_option maxHeartbeats 1000000 in
theorem at_any {w:World} {Q:Nat} {ws:List ByteArray} {s:PS} {al:List Atm} {vv pv nv:Value} (n:Nat) (h:Cp w Q ws s al vv pv nv) (hl:s.nodes.length≤100000) :
  Calls Tryz.prog 103 #[.pointer (some ⟨Q,0,none⟩),.int .i64 n] w fun e w'=>e = .returned (.agg (ndA s.nodes n).cells.toArray)∧Below w.heap.size w w':=by
 have c3:=h.bk.cell 3 rfl
 have hQ:=h.bk.lt
 have hb:=below_boxQ w (.cells #[Value.int .i64 0,.int .i64 0,.int .i64 0,.int .i64 0,.int .i64 0,.int .i64 0] 186)
 have d3:=(hb.cell (World.block_lt_of_cell? w _ c3)).trans c3
 by_cases hn:n < s.nodes.length
 ·obtain ⟨g,cap,rfl,hcn,hm,hgl⟩:=own_pos h.nr (by omega)
  have hg:=nd_get hn
  have x:∀ j,j < 6→w.cell? ⟨g,n * 6 + j,none⟩ = s.nodes[n].cells[j]?:=fun j hj=>(h.nr.cellAt (n * 6 + j) (by omega)).trans (hg j hj)
  have x':∀ j,j < 6→(w.alloc (.cells #[Value.int .i64 0,.int .i64 0,.int .i64 0,.int .i64 0,.int .i64 0,.int .i64 0] 186)).cell? ⟨g,n * 6 + j,none⟩ = s.nodes[n].cells[j]?:=fun j hj=>(hb.cell (p:=⟨g,n * 6 + j,none⟩) hgl).trans (x j hj)
  have HE:Hid (ndA s.nodes n = s.nodes[n]):=hide (by simp [ndA,hn])
  generalize s.nodes[n] = nd at *
  obtain ⟨op,v,ak,ai,nx,ot⟩:=nd
  have x0:=x' 0 (by omega)
  have x1:=x' 1 (by omega)
  have x2:=x' 2 (by omega)
  have x3:=x' 3 (by omega)
  have x4:=x' 4 (by omega)
  have x5:=x' 5 (by omega)
  simp only [Nd.cells,List.getElem?_cons_zero,List.getElem?_cons_succ,Nat.add_zero] at x0 x1 x2 x3 x4 x5
  clear x x' hg h c3 hb
  go_enter Tryz.func103,Tryz.ntmps103
  go_wp2_with fail
  refine bodyPost_ret (v:=.agg #[.int .i64 op,.int .i64 v,.int .i64 ak,.int .i64 ai,.int .i64 nx,.int .i64 ot]) (by simp [results,Tryz.results103,go_sem]) rfl ⟨?_,?_⟩
  ·rw [uh HE];rfl
  ·exact below_boxQ _ _
 ·obtain ⟨ao,cap,rfl,hcn,hm⟩:=own_slc h.nr
  have HE:Hid (ndA s.nodes n = ⟨0,0,0,0,0,0⟩):=hide (by unfold ndA;simp [List.getD,List.getElem?_eq_none (Nat.le_of_not_lt hn)])
  have hge:(s.nodes.length:Int)≤(n:Int):=by omega
  clear h c3 hb
  go_enter Tryz.func103,Tryz.ntmps103
  go_wp2_with fail
  refine bodyPost_ret (v:=.agg #[.int .i64 0,.int .i64 0,.int .i64 0,.int .i64 0,.int .i64 0,.int .i64 0]) (by simp [results,Tryz.results103,go_sem]) rfl ⟨?_,?_⟩
  ·rw [uh HE];rfl
  ·exact below_boxQ _ _
structure NdO (nds:List Nd):Prop where
 v:∀ n,(nds.getD n nd0).v < 4∧(nds.getD n nd0).ai < 4
 op:∀ n,(nds.getD n nd0).op≤1000
 nx:∀ n,n < nds.length→(nds.getD n nd0).op≠0→(nds.getD n nd0).nx < nds.length
 ot:∀ n,n < nds.length→((nds.getD n nd0).op = 7∨(nds.getD n nd0).op = 8∨(nds.getD n nd0).op = 9)→(nds.getD n nd0).ot < nds.length
theorem efO_nx {n:Nd} {f:CF} (h:(efO n f).nx≠[]):n.op≠0:=fun e=>h (by unfold efO;rw [if_pos e];rfl)
theorem efO_ot {n:Nd} {f:CF} (h:(efO n f).ot≠[]):n.op = 7∨n.op = 8∨n.op = 9:=by
 apply Classical.byContradiction
 intro hc
 simp only [not_or] at hc
 apply h
 unfold efO
 repeat' split
 all_goals first | rfl | (exfalso;omega)
structure Lp (w W:World) (S:Nat) (c:Cd) (c0 hv kv wv:Value) (KV0 WV:List Value) (K0:List (List En)) (X:List Nat) (KV:List Value) (K:List (List En)) (s:Sr) (v:Value) (L:List FE) (j:Nat) (Z:List Nat):Prop where
 sh:Sh W S c c0 hv kv wv KV WV K s
 kl:K.length = K0.length
 go:Gon w W (shF S hv kv wv KV0 WV) (shF S hv kv wv KV WV) (drF K0) (drF K) X
 pn:Pn W v L j (shF S hv kv wv KV WV) (drF K)
 ap:∀ k∈Z,(k ∉ shF S hv kv wv KV WV∧k ∉ drF K)∧k ∉ fpP v L j∧k < W.heap.size
 nw:∀ k∈fpP v L j,k∈X∨w.heap.size≤k
section
variable {w W W':World} {S:Nat} {c:Cd} {c0 hv kv wv:Value} {KV0 WV KV:List Value} {K0 K:List (List En)} {X Z:List Nat} {s s':Sr} {v:Value} {L:List FE} {j:Nat}
theorem Lp.next (h:Lp w W S c c0 hv kv wv KV0 WV K0 X KV K s v L j Z) (hj:j < L.length) (hP:LayP W S c c0 hv kv wv KV WV K L[j].bs s' W'):∃ KV' K',Lp w W' S c c0 hv kv wv KV0 WV K0 X KV' K' s' v L (j + 1) Z∧∀ k∈Z,W'.heap[k]? = W.heap[k]?:=by
 obtain ⟨KV',K',h1,h2,h3⟩:=hP
 obtain ⟨-,-,-,n4,n5⟩:=h.pn.pe.next hj
 refine ⟨KV',K',⟨h1,h2.trans h.kl,h.go.trans h3 (fun k hk=>h.nw k (n5 k hk)),h.pn.next hj h3,fun k hk=>?_,fun k hk=>h.nw k (n4 k hk).1⟩,fun k hk=>?_⟩
 ·obtain ⟨⟨a1,a2⟩,a3,a4⟩:=h.ap k hk
  refine ⟨⟨fun hn=>?_,fun hn=>?_⟩,fun hn=>a3 (n4 k hn).1,Nat.lt_of_lt_of_le a4 h3.st.size⟩
  ·rcases h3.st.foot k hn with p | p
   ·rcases List.mem_append.1 p with p | p
    ·exact a1 p
    ·exact a3 (n5 k p)
   ·omega
  ·rcases h3.dr k hn with p | p | p
   ·exact a2 p
   ·exact a3 (n5 k p)
   ·omega
 ·obtain ⟨⟨a1,a2⟩,a3,a4⟩:=h.ap k hk
  refine h3.st.block k a4 (fun hn=>?_)
  rcases List.mem_append.1 hn with p | p
  ·exact a1 p
  ·exact a3 (n5 k p)
theorem Lp.end' (h:Lp w W S c c0 hv kv wv KV0 WV K0 X KV K s v L j Z):LayP w S c c0 hv kv wv KV0 WV K0 X s W:=⟨KV,K,h.sh,h.kl,h.go⟩
end
structure Sx (w W:World) (S:Nat) (c:Cd) (c0 hv kv wv:Value) (KV WV:List Value) (K:List (List En)) (s:Sr) (O:Nat) (nu da fu:Bool) (nv tv:Value) (Ln Lt:List FE) (Y:Nat) (nd:Nd):Prop where
 sh:Sh W S c c0 hv kv wv KV WV K s
 go:Gon w W (shF S hv kv wv KV WV) (shF S hv kv wv KV WV) (drF K) (drF K) []
 oo:Oo W O nu da fu nv tv Ln Lt
 bx:Bk W Y 186 nd.cells
 on:∀ k∈Y :: fpO O nv tv Ln Lt,(k ∉ shF S hv kv wv KV WV∧k ∉ drF K)∧w.heap.size≤k
 yn:Y ∉ fpO O nv tv Ln Lt
section
variable {w W:World} {S:Nat} {c:Cd} {c0 hv kv wv:Value} {KV WV:List Value} {K:List (List En)} {s:Sr} {O:Nat} {nu da fu:Bool} {nv tv:Value} {Ln Lt:List FE} {Y:Nat} {nd:Nd}
theorem Sx.bad (h:Sx w W S c c0 hv kv wv KV WV K s O nu da fu nv tv Ln Lt Y nd) {n:Nat} (hn:n < K.length) {t:Nat} (ht:t < 5) {g cap:Nat} (hg:WV.getD n vNil = .slice (some ⟨g,0,none⟩) 5 cap):Sx w (W.setCell ⟨g,t,none⟩ (.bool true)) S c c0 hv kv wv KV WV K (wrS n t s) O nu da fu nv tv Ln Lt Y nd:=by
 obtain ⟨h1,h2⟩:=h.sh.bad hn ht hg
 have hne:∀ k∈Y :: fpO O nv tv Ln Lt,(W.setCell ⟨g,t,none⟩ (.bool true)).heap[k]? = W.heap[k]?:=fun k hk=>Below.heap_setCell _ _ _ _ (fun e=>(h.on k hk).1.1 (by rw [show k = g from e];exact h2))
 exact ⟨h1,h.go.trans (Gon.stp (X:=[]) ((Stp.refl [g] W).setCell (p:=⟨g,t,none⟩) (Or.inl (by simp)) (.bool true)) (fun k hk=>Or.inl (by rw [List.mem_singleton] at hk;rw [hk];exact h2))) (fun k hk=>by simp at hk),h.oo.of_eq (fun k hk=>hne k (List.mem_cons_of_mem _ hk)),h.bx.of_eq (hne Y (by simp)),h.on,h.yn⟩
theorem Sx.full (h:Sx w W S c c0 hv kv wv KV WV K s O nu da fu nv tv Ln Lt Y nd):Sx w (W.setCell ⟨S,8,none⟩ (.bool true)) S c c0 hv kv wv KV WV K { s with fu:=true } O nu da fu nv tv Ln Lt Y nd:=by
 have hs:Stp [S] W [S] (W.setCell ⟨S,8,none⟩ (.bool true)):=(Stp.refl [S] W).setCell (p:=⟨S,8,none⟩) (Or.inl (by simp)) (.bool true)
 have h1:=h.sh.own (s':={ s with fu:=true }) (h.sh.bs.set 8 (.bool true)) hs (fun k hk=>Or.inl (List.mem_singleton.1 hk)) rfl rfl
 have hne:∀ k∈Y :: fpO O nv tv Ln Lt,(W.setCell ⟨S,8,none⟩ (.bool true)).heap[k]? = W.heap[k]?:=fun k hk=>Below.heap_setCell _ _ _ _ (fun e=>(h.on k hk).1.1 (by rw [show k = S from e];exact mem_shS))
 exact ⟨h1,h.go.trans (Gon.stp (X:=[]) hs (fun k hk=>Or.inl (by rw [List.mem_singleton] at hk;rw [hk];exact mem_shS))) (fun k hk=>by simp at hk),h.oo.of_eq (fun k hk=>hne k (List.mem_cons_of_mem _ hk)),h.bx.of_eq (hne Y (by simp)),h.on,h.yn⟩
theorem Sx.lp (h:Sx w W S c c0 hv kv wv KV WV K s O nu da fu nv tv Ln Lt Y nd) (ht:∀ x∈Ln,Td x.f):Lp w W S c c0 hv kv wv KV WV K [] KV K s nv Ln 0 (Y :: O :: flF tv Lt):=by
 have hnd:=List.nodup_cons.1 h.oo.nd
 have hnd2:=List.nodup_append.1 hnd.2
 have e:fpP nv Ln 0 = flF nv Ln:=by simp [fpP,flF]
 refine ⟨h.sh,rfl,h.go,⟨h.oo.nx.pend,ht,fun k hk=>?_⟩,fun k hk=>?_,fun k hk=>Or.inr ?_⟩
 ·rw [e] at hk
  exact (h.on k (by simp only [fpO,List.mem_cons,List.mem_append];exact Or.inr (Or.inr (Or.inl hk)))).1
 ·have hm:k∈Y :: fpO O nv tv Ln Lt:=by
   simp only [fpO,List.mem_cons,List.mem_append] at hk ⊢
   rcases hk with p | p | p
   ·exact Or.inl p
   ·exact Or.inr (Or.inl p)
   ·exact Or.inr (Or.inr (Or.inr p))
  refine ⟨(h.on k hm).1,fun hn=>?_,?_⟩
  ·rw [e] at hn
   rcases List.mem_cons.1 hk with p | p
   ·exact h.yn (by rw [← p];simp only [fpO,List.mem_cons,List.mem_append];exact Or.inr (Or.inl hn))
   ·rcases List.mem_cons.1 p with p | p
    ·exact hnd.1 (by rw [← p];exact List.mem_append_left _ hn)
    ·exact hnd2.2.2 k hn k p rfl
  ·rcases List.mem_cons.1 hm with p | p
   ·rw [p];exact h.bx.lt
   ·exact h.oo.lt k p
 ·rw [e] at hk
  exact (h.on k (by simp only [fpO,List.mem_cons,List.mem_append];exact Or.inr (Or.inr (Or.inl hk)))).2
end
end Go.Proofs.YtciihepbeacppaaGreat
