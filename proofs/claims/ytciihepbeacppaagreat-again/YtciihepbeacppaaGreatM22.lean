import Derived.Test.YtciihepbeacppaaGreatM21
namespace Go.Proofs.YtciihepbeacppaaGreat
open Go.RowKit
set_option linter.unusedVariables false
theorem fnG_len {c:Cd} {r:List CF × Sr} {g:CF} (h:(fnG c r g).2.ok = true) (hl:r.1.length≤bigC + 1):(fnG c r g).1.length≤bigC + 1:=by
 have h2:=(fnG_mono h).2
 unfold fnG
 split
 ·rename_i hn
  have:=h2 hn
  simp only [List.length_append,List.length_cons,List.length_nil]
  omega
 ·exact hl
theorem fold_len {β:Type} (g:List CF × Sr→β→List CF × Sr) (hm:∀ r b,(g r b).2.ok = true→r.2.ok = true) (hg:∀ r b,(g r b).2.ok = true→r.1.length≤bigC + 1→(g r b).1.length≤bigC + 1):∀ (l:List β) {r:List CF × Sr},(l.foldl g r).2.ok = true→r.1.length≤bigC + 1→(l.foldl g r).1.length≤bigC + 1
 | [],_,_,hl=>hl
 | b :: l,r,h,hl=>fold_len g hm hg l h (hg r b (fold_mono g hm l h) hl)
theorem fndF_mono {c:Cd} {f:CF} (r:List CF × Sr) (i:Nat) (h:(fndF c f r i).2.ok = true):r.2.ok = true:=fold_mono (fnS c f i) (fun r b h=>fnS_mono r b h) _ h
theorem fnS_len {c:Cd} {f:CF} {i:Nat} (r:List CF × Sr) (a:Nat) (h:(fnS c f i r a).2.ok = true) (hl:r.1.length≤bigC + 1):(fnS c f i r a).1.length≤bigC + 1:=by
 unfold fnS at h ⊢
 split
 ·rename_i hn
  rw [if_pos hn] at h
  exact fold_len (fnG c) (fun r b h=>(fnG_mono h).1) (fun r b h=>fnG_len h) _ h hl
 ·exact hl
theorem fndF_len {c:Cd} {f:CF} (r:List CF × Sr) (i:Nat) (h:(fndF c f r i).2.ok = true) (hl:r.1.length≤bigC + 1):(fndF c f r i).1.length≤bigC + 1 :=
 fold_len (fnS c f i) (fun r b h=>fnS_mono r b h) (fun r b h=>fnS_len r b h) _ h hl
theorem fgS_mono {c:Cd} {g:CF} {r:List CF × Sr} {res:List CF} (h:(fgS c g r res).2.2.ok = true):r.2.ok = true:=by
 unfold fgS at h
 split at h
 ·exact h
 ·exact fold_mono (fndF c g) (fun r b h=>fndF_mono r b h) _ h
theorem fgN_mono {c:Cd}:∀ (n k:Nat) (res:List CF) (r:List CF × Sr),(fgN c n k res r).2.ok = true→r.2.ok = true
 | 0,_,_,_,h=>by simp [fgN] at h
 | n + 1,k,res,r,h=>by
  unfold fgN at h
  split at h
  ·exact fgS_mono (fgN_mono n _ _ _ h)
  ·exact h
theorem Stp.wider {F F' G G':List Nat} {a b:World} (h:Stp F a F' b) (h1:∀ k∈F,k∈G) (h2:∀ k∈G',k∈F'∨k∈G∨a.heap.size≤k):Stp G a G' b :=
 ⟨h.os,h.tape,h.output,h.size,fun k hk hn=>h.block k hk (fun e=>hn (h1 k e)),fun k hk=>by
  rcases h2 k hk with p | p | p
  ·rcases h.foot k p with q | q
   ·exact Or.inl (h1 k q)
   ·exact Or.inr q
  ·exact Or.inl p
  ·exact Or.inr p⟩
structure Fg (w W:World) (B:Nat) (F0:List Nat) (S:Nat) (cs:List Value) (k:Nat) (vC:Value) (LC:List FE) (vR:Value) (LR:List FE):Prop where
 c:Fl W B vC LC
 r:Fl W B vR LR
 bs:Bk W S 229 cs
 sh:∀ x∈LR,x∈LC.take k∨∀ q∈x.bs,q ∉ flF vC LC
 rv:∀ q∈vR.ownBlock.toList,q ∉ flF vC LC
 cv:∀ q∈vC.ownBlock.toList,q ∉ flF vR LR
 sc:S ∉ flF vC LC
 sr:S ∉ flF vR LR
 st:Stp F0 w (S :: (flF vC LC ++ flF vR LR)) W
 bb:B≤W.heap.size
theorem flF_nd {v:Value} {L:List FE} (h:(flF v L).Nodup):(∀ q∈v.ownBlock.toList,∀ x∈L,q ∉ x.bs)∧∀ {k:Nat} (hk:k < L.length),∀ x∈L.take k,∀ q∈x.bs,q ∉ L[k].bs:=by
 unfold flF at h
 rw [List.nodup_append] at h
 refine ⟨fun q hq x hx hn=>h.2.2 q hq q (List.mem_flatMap.2 ⟨x,hx,hn⟩) rfl,fun {k} hk x hx q hq hn=>?_⟩
 have h2:=h.2.1
 rw [← List.take_append_drop k L,List.flatMap_append,List.nodup_append] at h2
 exact h2.2.2 q (List.mem_flatMap.2 ⟨x,hx,hq⟩) q (List.mem_flatMap.2 ⟨L[k],by rw [List.drop_eq_getElem_cons hk];exact List.mem_cons_self,hn⟩) rfl
section
variable {w W W':World} {B S k:Nat} {F0:List Nat} {cs cs':List Value} {vC vR:Value} {LC LR:List FE}
theorem Fg.below (h:Fg w W B F0 S cs k vC LC vR LR) (hb:Below W.heap.size W W'):Fg w W' B F0 S cs k vC LC vR LR :=
 ⟨h.c.below hb,h.r.below hb,h.bs.below hb,h.sh,h.rv,h.cv,h.sc,h.sr,h.st.trans (Stp.ofBw hb),Nat.le_trans h.bb hb.size⟩
theorem Fg.app {g1 c1 k':Nat} {o:Obj} {x:FE} {W1:World} (h:Fg w W B F0 S cs k vC LC vR LR) (hk:k≤k') (hx:Fm W x.A x.f x.av x.ov) (hB:∀ q∈x.bs,B≤q) (hd:∀ q∈x.bs,q ∉ flF vR LR∧q≠S∧q ∉ vC.ownBlock.toList) (hs:x∈LC.take k'∨∀ q∈x.bs,q ∉ flF vC LC) (h0:∀ q∈x.bs,q∈flF vC LC∨w.heap.size≤q)
  (hown:W1.ownsRow B 126 1 (.slice (some ⟨g1,0,none⟩) (LR.length + 1) c1) (LR.length + 1) (LR.map FE.p ++ [x.p])) (hg:(W.alloc o).grownBy W1 vR.ownBlock) (hblk:some g1 = vR.ownBlock∨g1 = (W.alloc o).heap.size) :
  Fg w W1 B F0 S cs k' vC LC (.slice (some ⟨g1,0,none⟩) (LR.length + 1) c1) (LR ++ [x]):=by
 obtain ⟨a1,a2,a3⟩:=h.r.app hx hB (fun q hq=>(hd q hq).1) h.bb hown hg hblk
 have hv:∀ q∈vR.ownBlock.toList,q∈flF vR LR:=fun q hq=>List.mem_append_left _ hq
 have hrv:∀ q∈[g1],q ∉ flF vC LC:=fun q hq hn=>by
  rcases a2.foot q hq with p | p
  ·exact h.rv q p hn
  ·have:=h.c.lt q hn;omega
 refine ⟨h.c.stp a2 (fun q hq hn=>h.rv q hn hq),a1,h.bs.stp a2 (fun hn=>h.sr (hv S hn)),fun y hy=>?_,fun q hq=>hrv q (by simpa [Value.ownBlock,eq_comm] using hq),fun q hq hn=>?_,h.sc,fun hn=>?_,?_,Nat.le_trans h.bb a2.size⟩
 ·rcases List.mem_append.1 hy with p | p
  ·rcases h.sh y p with q | q
   ·exact Or.inl (List.take_subset_take_left LC hk q)
   ·exact Or.inr q
  ·rw [List.mem_singleton] at p;subst p;exact hs
 ·rcases a3 q hn with p | p | p
  ·exact h.cv q hq p
  ·exact (hd q p).2.2 hq
  ·have:=h.c.lt q (List.mem_append_left _ hq);omega
 ·rcases a3 S hn with p | p | p
  ·exact h.sr p
  ·exact (hd S p).2.1 rfl
  ·have:=h.bs.lt;omega
 ·have h2:=h.st
  refine ⟨a2.os.trans h2.os,a2.tape.trans h2.tape,a2.output.trans h2.output,Nat.le_trans h2.size a2.size,fun q hq hn=>?_,fun q hq=>?_⟩
  ·rw [a2.block q (Nat.lt_of_lt_of_le hq h2.size) (fun hm=>?_)]
   ·exact h2.block q hq hn
   ·rcases h2.foot q (List.mem_cons_of_mem _ (List.mem_append_right _ (hv q hm))) with p | p
    ·exact hn p
    ·omega
  ·rcases List.mem_cons.1 hq with rfl | hq
   ·exact h2.foot q (by simp)
   ·rcases List.mem_append.1 hq with hq | hq
    ·exact h2.foot q (List.mem_cons_of_mem _ (List.mem_append_left _ hq))
    ·rcases a3 q hq with p | p | p
     ·exact h2.foot q (List.mem_cons_of_mem _ (List.mem_append_right _ p))
     ·rcases h0 q p with p | p
      ·exact h2.foot q (List.mem_cons_of_mem _ (List.mem_append_left _ p))
      ·exact Or.inr p
     ·exact Or.inr (Nat.le_trans h2.size p)
theorem Fg.more {v':Value} {L':List FE} (h:Fg w W B F0 S cs k vC LC vR LR) (hk:k≤LC.length) (hc:Fl W' B v' (LC ++ L')) (hb:Bk W' S 229 cs') (hS:S ∉ flF v' (LC ++ L')) (hs:Stp (S :: flF vC LC) W (S :: flF v' (LC ++ L')) W'):Fg w W' B F0 S cs' k v' (LC ++ L') vR LR:=by
 have hout:∀ q,q < W.heap.size→q≠S→q ∉ flF vC LC→q ∉ flF v' (LC ++ L'):=fun q hq h1 h2 hn=>by
  rcases hs.foot q (List.mem_cons_of_mem _ hn) with p | p
  ·rcases List.mem_cons.1 p with p | p
   ·exact h1 p
   ·exact h2 p
  ·omega
 have hrl:∀ q∈flF vR LR,q < W.heap.size∧q≠S:=fun q hq=>⟨h.r.lt q hq,fun e=>h.sr (by rw [← e];exact hq)⟩
 have hrv:∀ q∈vR.ownBlock.toList,q ∉ flF v' (LC ++ L'):=fun q hq=>hout q (hrl q (List.mem_append_left _ hq)).1 (hrl q (List.mem_append_left _ hq)).2 (h.rv q hq)
 have hfr:∀ x∈LR,(∀ q∈x.bs,q ∉ flF vC LC)→∀ q∈x.bs,q ∉ flF v' (LC ++ L'):=fun x hx hf q hq=>by
  have hm:q∈flF vR LR:=List.mem_append_right _ (List.mem_flatMap.2 ⟨x,hx,hq⟩)
  exact hout q (hrl q hm).1 (hrl q hm).2 (hf q hq)
 refine ⟨hc,⟨ownsRow_of_eq h.r.row (fun q hq=>?_),fun x hx=>?_,h.r.ge,h.r.nd⟩,hb,fun x hx=>?_,hrv,fun q hq hn=>?_,hS,h.sr,?_,Nat.le_trans h.bb hs.size⟩
 ·have hq':q∈vR.ownBlock.toList:=by simpa using hq
  refine hs.block q (hrl q (List.mem_append_left _ hq')).1 (fun hn=>?_)
  rcases List.mem_cons.1 hn with p | p
  ·exact (hrl q (List.mem_append_left _ hq')).2 p
  ·exact h.rv q hq' p
 ·rcases h.sh x hx with p | p
  ·exact hc.fm x (List.mem_append_left _ (List.mem_of_mem_take p))
  ·refine (h.r.fm x hx).of_eq (fun q hq=>?_)
   have hm:q∈flF vR LR:=List.mem_append_right _ (List.mem_flatMap.2 ⟨x,hx,hq⟩)
   refine hs.block q (hrl q hm).1 (fun hn=>?_)
   rcases List.mem_cons.1 hn with e | e
   ·exact (hrl q hm).2 e
   ·exact p q hq e
 ·rcases h.sh x hx with p | p
  ·exact Or.inl (by rw [List.take_append_of_le_length hk];exact p)
  ·exact Or.inr (hfr x hx p)
 ·rcases List.mem_append.1 hn with p | p
  ·exact hrv q p (List.mem_append_left _ hq)
  ·obtain ⟨x,hx,p⟩:=List.mem_flatMap.1 p
   rcases h.sh x hx with r | r
   ·exact (flF_nd hc.nd).1 q hq x (List.mem_append_left _ (List.mem_of_mem_take r)) p
   ·exact hfr x hx r q p (List.mem_append_left _ hq)
 ·refine h.st.trans (hs.wider (fun q hq=>?_) (fun q hq=>?_))
  ·rcases List.mem_cons.1 hq with p | p
   ·rw [p];simp
   ·exact List.mem_cons_of_mem _ (List.mem_append_left _ p)
  ·rcases List.mem_cons.1 hq with p | p
   ·rw [p];simp
   ·rcases List.mem_append.1 p with p | p
    ·exact Or.inl (List.mem_cons_of_mem _ p)
    ·exact Or.inr (Or.inl (List.mem_cons_of_mem _ (List.mem_append_right _ p)))
theorem Fg.apart (h:Fg w W B F0 S cs k vC LC vR LR) (hk:k < LC.length):∀ q∈LC[k].bs,q ∉ flF vR LR∧q≠S∧q ∉ vC.ownBlock.toList:=by
 intro q hq
 have hm:q∈flF vC LC:=List.mem_append_right _ (List.mem_flatMap.2 ⟨LC[k],List.getElem_mem hk,hq⟩)
 refine ⟨fun hn=>?_,fun e=>h.sc (by rw [← e];exact hm),fun hn=>(flF_nd h.c.nd).1 q hn _ (List.getElem_mem hk) hq⟩
 rcases List.mem_append.1 hn with p | p
 ·exact h.rv q p hm
 ·obtain ⟨x,hx,p⟩:=List.mem_flatMap.1 p
  rcases h.sh x hx with r | r
  ·exact (flF_nd h.c.nd).2 hk x r q p hq
  ·exact r q p hm
end
theorem ints_cell {W:World} {B:Nat} {v:Value} {l:List Nat} (h:W.ownsRow B 3 1 v l.length (natV l)) {i:Nat} (hi:i < l.length):∃ g cap,v = .slice (some ⟨g,0,none⟩) l.length cap∧W.cell? ⟨g,i,none⟩ = some (.int .i64 (l[i]:Nat)):=by
 obtain ⟨g,cap,hv,-,-,-⟩:=own_pos h (by omega)
 subst hv
 refine ⟨g,cap,rfl,?_⟩
 have:=h.cellAt i (by omega)
 rw [this]
 simp [natV,hi]
theorem fgN_go {c:Cd} {n k:Nat} {res:List CF} {l:List CF} {s:Sr} (hk:k < l.length) (hf:s.fu = false):fgN c (n + 1) k res (l,s) = fgN c n (k + 1) (fgS c l[k] (l,s) res).1 (fgS c l[k] (l,s) res).2:=by
 have e:l.getD k ⟨[],[],[]⟩ = l[k]:=by simp [List.getD,hk]
 show (if k < l.length∧s.fu = false then _ else _) = _
 rw [if_pos ⟨hk,hf⟩]
 show fgN c n (k + 1) (fgS c (l.getD k ⟨[],[],[]⟩) (l,s) res).1 (fgS c (l.getD k ⟨[],[],[]⟩) (l,s) res).2 = _
 rw [e]
theorem fgN_end {c:Cd} {n k:Nat} {res:List CF} {l:List CF} {s:Sr} (h:¬ (k < l.length∧s.fu = false)):fgN c (n + 1) k res (l,s) = (res,s):=by
 show (if k < l.length∧s.fu = false then _ else _) = _
 rw [if_neg h]
theorem fg_post {w W:World} {B S k:Nat} {F0:List Nat} {c0 hv kv wv vC vR:Value} {lp:Bool} {lo:Int} {c:Cd} {s:Sr} {LC LR:List FE} {R:List CF × Sr} (h:Fg w W B F0 S (shC c0 hv lp kv wv c.bd s.lf lo s.fu) k vC LC vR LR) (hT:∀ y∈LR,Td y.f) (hR:(LR.map (·.f),s) = R) :
  ∃ v' L',Ending.returned vR = .returned v'∧Fl W B v' L'∧(∀ y∈L',Td y.f)∧L'.map (·.f) = R.1∧Bk W S 229 (shC c0 hv lp kv wv c.bd R.2.lf lo R.2.fu)∧S ∉ flF v' L'∧Stp F0 w (S :: flF v' L') W:=by
 subst hR
 refine ⟨vR,LR,rfl,h.r,hT,rfl,h.bs,h.sr,⟨h.st.os,h.st.tape,h.st.output,h.st.size,h.st.block,fun q hq=>h.st.foot q ?_⟩⟩
 rcases List.mem_cons.1 hq with p | p
 ·rw [p];simp
 ·exact List.mem_cons_of_mem _ (List.mem_append_right _ p)
section
variable {w:World} {B S:Nat} {c0 hv kv wv:Value} {lp:Bool} {lo:Int} {x:FE} {c:Cd} {s:Sr}
set_option maxRecDepth 100000 in
set_option maxHeartbeats 8000000 in
theorem forgetS_any (hS:Bk w S 229 (shC c0 hv lp kv wv c.bd s.lf lo s.fu)) (hx:Fm w x.A x.f x.av x.ov) (hT:Td x.f) (hge:∀ q∈x.bs,B≤q) (hSx:S ∉ x.bs) (hB:B≤w.heap.size) (n:Nat) (hok:(fgN c n 0 [] ([x.f],s)).2.ok = true) :
  Calls Tryz.prog 202 #[.pointer (some ⟨S,0,none⟩),.pointer (some ⟨x.A,0,none⟩)] w fun e w'=>∃ v' L',e = .returned v'∧Fl w' B v' L'∧(∀ y∈L',Td y.f)∧L'.map (·.f) = (fgN c n 0 [] ([x.f],s)).1∧Bk w' S 229 (shC c0 hv lp kv wv c.bd (fgN c n 0 [] ([x.f],s)).2.lf lo (fgN c n 0 [] ([x.f],s)).2.fu)∧S ∉ flF v' L'∧Stp (S :: x.bs) w (S :: flF v' L') w':=by
 obtain ⟨i0,hi0,hz0,hz1,hz2⟩:=info_parts Tryz.infoPF
 obtain ⟨R,hR⟩:∃ R,R = fgN c n 0 [] ([x.f],s):=⟨_,rfl⟩
 rw [← hR] at hok ⊢
 obtain ⟨W2,hW2⟩:∃ W2,W2 = (w.alloc (.cells #[] 126)).alloc (.cells #[Value.pointer (some ⟨x.A,0,none⟩)] 126):=⟨_,rfl⟩
 have hFg:Fg w W2 B (S :: x.bs) S (shC c0 hv lp kv wv c.bd s.lf lo s.fu) 0 (.slice (some ⟨w.heap.size + 1,0,none⟩) 1 1) [x] (.slice (some ⟨w.heap.size,0,none⟩) 0 0) []:=by
  have hb1:=below_boxQ w (.cells #[] 126)
  have hb2:=below_boxQ (w.alloc (.cells #[] 126)) (.cells #[Value.pointer (some ⟨x.A,0,none⟩)] 126)
  have hb:Below w.heap.size w W2:=by rw [hW2];exact hb1.trans (hb2.mono hb1.size)
  have hxl:=hx.lt
  have hsl:=hS.lt
  have hfc:∀ q,q∈flF (.slice (some ⟨w.heap.size + 1,0,none⟩) 1 1) [x]↔q = w.heap.size + 1∨q∈x.bs:=fun q=>by simp [flF,Value.ownBlock]
  have hfr:∀ q,q∈flF (.slice (some ⟨w.heap.size,0,none⟩) 0 0) []↔q = w.heap.size:=fun q=>by simp [flF,Value.ownBlock]
  have hxb:∀ q∈x.bs,q < w.heap.size:=fun q hq=>hx.lt q hq
  refine ⟨⟨?_,fun y hy=>?_,fun y hy=>?_,?_⟩,⟨?_,fun y hy=>by simp at hy,fun y hy=>by simp at hy,by simp [flF,Value.ownBlock]⟩,hS.below hb,fun y hy=>by simp at hy,fun q hq hn=>?_,fun q hq hn=>?_,fun hn=>?_,fun hn=>?_,?_,Nat.le_trans hB hb.size⟩
  ·rw [hW2]
   have:=World.ownsRow_lit (base:=B) (e:=126) (size:=1) (w.alloc (.cells #[] 126)) #[Value.pointer (some ⟨x.A,0,none⟩)] 1 (by simp;omega) (by simp [maxLen]) rfl
   simpa [FE.p] using this
  ·rw [List.mem_singleton] at hy;subst hy;exact hx.below hb
  ·rw [List.mem_singleton] at hy;subst hy;exact hge
  ·show ([w.heap.size + 1] ++ [x].flatMap FE.bs).Nodup
   rw [List.nodup_append]
   refine ⟨by simp,by simpa [FE.bs] using hx.nd,fun a ha b hb e=>?_⟩
   rw [List.mem_singleton] at ha
   have:=hxb b (by simpa using hb)
   omega
  ·rw [hW2]
   exact own_le ((World.ownsRow_lit (base:=w.heap.size) (e:=126) (size:=1) w #[] 0 (Nat.le_refl _) (by simp [maxLen]) rfl).alloc _) hB
  ·have e:q = w.heap.size:=by simpa [Value.ownBlock,eq_comm] using hq
   rcases (hfc q).1 hn with p | p
   ·omega
   ·have:=hxb q p;omega
  ·have e:q = w.heap.size + 1:=by simpa [Value.ownBlock,eq_comm] using hq
   have:=(hfr q).1 hn
   omega
  ·rcases (hfc S).1 hn with p | p
   ·omega
   ·exact hSx p
  ·have:=(hfr S).1 hn;omega
  ·refine ⟨hb.os,hb.tape,hb.output,hb.size,fun q hq hn=>hb.block q hq,fun q hq=>?_⟩
   rcases List.mem_cons.1 hq with rfl | hq
   ·exact Or.inl (by simp)
   ·rcases List.mem_append.1 hq with p | p
    ·rcases (hfc q).1 p with p | p
     ·exact Or.inr (by omega)
     ·exact Or.inl (List.mem_cons_of_mem _ p)
    ·exact Or.inr (by have:=(hfr q).1 p;omega)
 have HOK:=hide hok
 have hX1:w.heap.size + 1 = w.heap.size + 1:=rfl
 obtain ⟨X,hX⟩:∃ X,X = w.heap.size + 1:=⟨_,rfl⟩
 have HI0:Hid (Fg w W2 B (S :: x.bs) S (shC c0 hv lp kv wv c.bd s.lf lo s.fu) 0 (.slice (some ⟨X,0,none⟩) 1 1) [x] (.slice (some ⟨w.heap.size,0,none⟩) 0 0) []∧(∀ y∈[x],Td y.f)∧(∀ y∈([]:List FE),Td y.f)∧fgN c n 0 (([]:List FE).map (·.f)) ([x].map (·.f),s) = R∧[x].length≤bigC + 1∧0≤[x].length∧([]:List FE).length = 0):=hide ⟨by rw [hX];exact hFg,fun y hy=>by rw [List.mem_singleton] at hy;subst hy;exact hT,fun y hy=>by simp at hy,hR.symm,by simp [bigC],by simp,rfl⟩
 obtain ⟨F0,hF0⟩:∃ F0,F0 = S :: x.bs:=⟨_,rfl⟩
 rw [← hF0] at HI0 ⊢
 clear hFg hS hx hT hge hSx hok hR hX1 hF0
 obtain ⟨xa,xf,xav,xov⟩:=x
 simp only at hW2
 go_enter Tryz.func202,Tryz.ntmps202
 go_upto_region 3 with fail
 rw [show w.heap.size + 1 = X from hX.symm,← hW2]
 clear hW2 hX
 go_wp2_with fail
 go_loopg [5,6,7] n (fun gn rv cv iv wx=>∃ (k:Nat) (LC LR:List FE) (s':Sr),iv = .int .i64 k∧Hid (Fg w wx B F0 S (shC c0 hv lp kv wv c.bd s'.lf lo s'.fu) k cv LC rv LR∧(∀ y∈LC,Td y.f)∧(∀ y∈LR,Td y.f)∧fgN c gn k (LR.map (·.f)) (LC.map (·.f),s') = R∧LC.length≤bigC + 1∧k≤LC.length∧LR.length = k))
 case atStart=>exact ⟨0,_,_,s,rfl,HI0⟩
 case round =>
  clear HI0
  obtain ⟨k,LC,LR,s',rfl,hI⟩:=hrel
  obtain ⟨G,hG⟩:∃ G,G = gk:=⟨_,rfl⟩
  obtain ⟨la,lc,hlv,-,-⟩:=own_slc (uh hI).1.c.row
  subst hlv
  obtain ⟨ra,rc,hrv,-,-⟩:=own_slc (uh hI).1.r.row
  subst hrv
  obtain ⟨m,hm⟩:∃ m,gk = m + 1:=by
   cases hz:gk with
   | zero =>
    have h1:=(uh hI).2.2.2.1
    have h2:=uh HOK
    rw [hz] at h1
    rw [← h1] at h2
    simp [fgN] at h2
   | succ m=>exact ⟨m,rfl⟩
  have hlc:LC.length≤900001:=(uh hI).2.2.2.2.1
  have hkl:k≤LC.length:=(uh hI).2.2.2.2.2.1
  have HRK:Hid (LR.length = k):=hide (uh hI).2.2.2.2.2.2
  have hrl:LR.length≤900001:=by rw [uh HRK];omega
  have c8:=(uh hI).1.bs.cell 8 rfl
  by_cases hlt:k < LC.length
  ·have hd:decide ((k:Int) < (LC.length:Int)) = true:=by simp;omega
   cases hfu:s'.fu
   ·rw [hfu] at c8
    have hfo:=(uh hI).2.2.2.1
    rw [hm,fgN_go (by rw [List.length_map];exact hlt) hfu,List.getElem_map] at hfo
    obtain ⟨g2,cap2,hgv2,hcell⟩:=(uh hI).1.c.pend.cell hlt
    simp only [Value.slice.injEq,true_and] at hgv2
    obtain ⟨rfl,rfl⟩:=hgv2
    have hyF:=(uh hI).1.c.fm _ (List.getElem_mem hlt)
    have hyB:=(uh hI).1.c.ge _ (List.getElem_mem hlt)
    have hyT:=(uh hI).2.1 _ (List.getElem_mem hlt)
    have hap:=(uh hI).1.apart hlt
    have hym:LC[k]∈LC:=List.getElem_mem hlt
    have hyt:LC[k]∈LC.take (k + 1):=by rw [List.take_succ_eq_append_getElem hlt];exact List.mem_append_right _ List.mem_cons_self
    obtain ⟨y,hye⟩:∃ y,y = LC[k]:=⟨_,rfl⟩
    rw [← hye] at hcell hyF hyB hyT hap hym hyt hfo
    have hyp:y.p = .pointer (some ⟨y.A,0,none⟩):=rfl
    rw [hyp] at hcell
    have HLO:=hide (lost_any hyF.is hyT.ok)
    have HFO:=hide hfo
    have HYT:=hide hyT
    have HYF:=hide hyF
    have HYB:=hide hyB
    have HAP:=hide hap
    have HYm:=hide hym
    have HYt:=hide hyt
    have HI:=hide (uh hI)
    have i1:(0:Int)≤(k:Int):=by omega
    have i2:(k:Int) < (LC.length:Int):=by omega
    clear hfo hyF hyB hyT hap hym hyt hye hyp hI
    go_wp2_with fail
    refine (uh HLO).mono ?_
    rintro e w3 ⟨gv,rfl,hgo,hb3⟩
    have HFg3:=hide ((uh HI).1.below hb3)
    have HYF3:=hide ((uh HYF).below hb3)
    have hgb:∀ q∈gv.ownBlock.toList,wr.heap.size≤q:=fun q hq=>(hgo.lt q (by simpa using hq)).1
    have HGO:=hide hgo
    obtain ⟨ga,gc,hgv,-,-⟩:=own_slc hgo
    subst hgv
    have HGB:=hide hgb
    clear hgo hgb hb3 HLO c8 hcell
    by_cases hlo:loL y.f = []
    ·have hl0:(((loL y.f).length:Int) == (0:Int)) = true:=by rw [hlo];rfl
     have hfo2:fgN c m (k + 1) (LR.map (·.f) ++ [y.f]) (LC.map (·.f),s') = R:=by
      have:=uh HFO
      unfold fgS at this
      rw [if_pos hlo] at this
      exact this
     have HFO2:=hide hfo2
     clear hlo hfo2
     have HR3:Hid (w3.ownsRow B 126 1 (.slice ra LR.length rc) LR.length (LR.map FE.p)):=hide (uh HFg3).r.row
     have hbb3:=(uh HFg3).bb
     go_wp2_with (at_builtin;refine wpList_app1 _ rfl (.tmp 37) (.tmp 39) 125 rfl B 126 i0 _ 1 8 Tryz.underlying125 hi0 hz0 hz1 hz2 rfl (by decide) _ LR.length (LR.map FE.p) rfl ((uh HR3).alloc _) ⟨_,0,none⟩ 1 [.pointer (some ⟨y.A,0,none⟩)] rfl rfl (new_cells _ _ (by simp) [.pointer (some ⟨y.A,0,none⟩)] _) (by intro u hu;simp only [List.mem_singleton] at hu;subst hu;rfl) (by omega) (by omega) (by simp;omega) ?_)
     intro g7 cap7 w7 hown7 hgrow7 hblk7
     have hFg7:=(uh HFg3).app (x:=y) (k':=k + 1) (g1:=g7) (c1:=cap7) (Nat.le_succ k) (uh HYF3) (uh HYB) (uh HAP) (Or.inl (uh HYt)) (fun q hq=>Or.inl (List.mem_append_right _ (List.mem_flatMap.2 ⟨y,uh HYm,hq⟩))) hown7 hgrow7 (by simpa using hblk7)
     have HN:=hide (And.intro hFg7 (And.intro (uh HI).2.1 (And.intro (fun (q:FE) (hq:q∈LR ++ [y])=>(List.mem_append.1 hq).elim ((uh HI).2.2.1 q) (fun p=>(List.mem_singleton.1 p) ▸ uh HYT)) (And.intro (show fgN c m (k + 1) ((LR ++ [y]).map (·.f)) (LC.map (·.f),s') = R by rw [List.map_append];exact uh HFO2) (And.intro (uh HI).2.2.2.2.1 (And.intro (show k + 1≤LC.length by omega) (show (LR ++ [y]).length = k + 1 by rw [List.length_append,uh HRK];rfl)))))))
     clear hown7 hgrow7 hblk7 hFg7 HI
     go_wp2_with fail
     go_roundg m
     case rel=>exact ⟨k + 1,LC,LR ++ [y],s',by go_num,HN⟩
     case measure=>omega
    ·have hl0:(((loL y.f).length:Int) == (0:Int)) = false:=by
      have:(loL y.f).length≠0:=fun e=>hlo (List.length_eq_zero_iff.1 e)
      simp;omega
     have hfo2:fgN c m (k + 1) (LR.map (·.f) ++ [wiO y.f]) ((loL y.f).foldl (fndF c y.f) (LC.map (·.f),s')) = R:=by
      have:=uh HFO
      unfold fgS at this
      rw [if_neg hlo] at this
      exact this
     obtain ⟨R1,hR1⟩:∃ R1,R1 = (loL y.f).foldl (fndF c y.f) (LC.map (·.f),s'):=⟨_,rfl⟩
     rw [← hR1] at hfo2
     have HR1:=hide hR1
     have HFO2:=hide hfo2
     have HOK1:Hid (R1.2.ok = true):=hide (fgN_mono m (k + 1) _ R1 (by rw [hfo2];exact uh HOK))
     have HWO:=hide (without_f (uh HYF3).is (uh HYT).ok (Nat.le_trans (uh HYT).ln (by omega)))
     clear hlo hfo2 hR1
     go_wp2_with fail
     refine (uh HWO).mono ?_
     rintro e w4 ⟨A4,rfl,av4,ov4,hF4,hge4,hb4⟩
     have HFg4:=hide ((uh HFg3).below hb4)
     have HR4:Hid (w4.ownsRow B 126 1 (.slice ra LR.length rc) LR.length (LR.map FE.p)):=hide (uh HFg4).r.row
     have hbb4:=(uh HFg4).bb
     have HGO4:=hide (ownsRow_of_eq (uh HGO) (fun q hq=>hb4.block q ((uh HGO).lt q hq).2))
     have hd4:∀ q∈bsF A4 av4 ov4,(q ∉ flF (.slice ra LR.length rc) LR∧q≠S∧q ∉ (Value.slice (some ⟨g2,0,none⟩) LC.length lc).ownBlock.toList)∧q ∉ flF (.slice (some ⟨g2,0,none⟩) LC.length lc) LC∧w.heap.size≤q∧B≤q:=fun q hq=>by
      have h1:=hge4 q hq
      refine ⟨⟨fun hn=>?_,fun e=>?_,fun hn=>?_⟩,fun hn=>?_,Nat.le_trans (uh HFg3).st.size h1,Nat.le_trans (uh HFg3).bb h1⟩
      ·have:=(uh HFg3).r.lt q hn;omega
      ·have:=(uh HFg3).bs.lt;omega
      ·have:=(uh HFg3).c.lt q (List.mem_append_left _ hn);omega
      ·have:=(uh HFg3).c.lt q hn;omega
     have HF4:=hide hF4
     have HD4:=hide hd4
     clear hF4 hge4 hb4 hd4 HWO HGO HFg3 HYF3
     go_wp2_with (at_builtin;refine wpList_app1 _ rfl (.tmp 41) (.tmp 44) 125 rfl B 126 i0 _ 1 8 Tryz.underlying125 hi0 hz0 hz1 hz2 rfl (by decide) _ LR.length (LR.map FE.p) rfl ((uh HR4).alloc _) ⟨_,0,none⟩ 1 [.pointer (some ⟨A4,0,none⟩)] rfl rfl (new_cells _ _ (by simp) [.pointer (some ⟨A4,0,none⟩)] _) (by intro u hu;simp only [List.mem_singleton] at hu;subst hu;rfl) (by omega) (by omega) (by simp;omega) ?_)
     intro g7 cap7 w7 hown7 hgrow7 hblk7
     have hs7:=stp_grow hgrow7 (by simpa using hblk7)
     have hFg7:=(uh HFg4).app (x:=⟨A4,wiO y.f,av4,ov4⟩) (k':=k + 1) (g1:=g7) (c1:=cap7) (Nat.le_succ k) (uh HF4) (fun q hq=>(uh HD4 q hq).2.2.2) (fun q hq=>(uh HD4 q hq).1) (Or.inr (fun q hq=>(uh HD4 q hq).2.1)) (fun q hq=>Or.inr (uh HD4 q hq).2.2.1) hown7 hgrow7 (by simpa using hblk7)
     have hGO7:=ownsRow_of_eq (uh HGO4) (fun q hq=>hs7.block q ((uh HGO4).lt q hq).2 (fun hn=>by
      have h1:=uh HGB q (by simpa using hq)
      have h2:=(uh HI).1.r.lt q (List.mem_append_left _ hn)
      omega))
     have hGD7:∀ q∈(Value.slice ga (loL y.f).length gc).ownBlock.toList,q ∉ flF (.slice (some ⟨g2,0,none⟩) LC.length lc) LC∧q≠S:=fun q hq=>by
      have h1:=uh HGB q hq
      exact ⟨fun hn=>by have:=(uh HI).1.c.lt q hn;omega,fun e=>by have:=(uh HI).1.bs.lt;omega⟩
     obtain ⟨z,hz⟩:∃ z:FE,z = ⟨A4,wiO y.f,av4,ov4⟩:=⟨_,rfl⟩
     rw [← hz] at hFg7
     have HZ:Hid (z.f = wiO y.f):=hide (by rw [hz])
     obtain ⟨B3,hB3⟩:∃ B3,B3 = wr.heap.size:=⟨_,rfl⟩
     rw [← hB3] at hGO7
     have HJ0:=hide (And.intro hFg7 (And.intro hGO7 (And.intro hGD7 (And.intro (uh HI).2.1 (And.intro (show ((loL y.f).drop 0).foldl (fndF c y.f) (LC.map (·.f),s') = R1 from (uh HR1).symm) (And.intro (uh HI).2.2.2.2.1 (And.intro (show k + 1≤LC.length by omega) (uh HYm))))))))
     clear hown7 hgrow7 hblk7 hs7 hFg7 hGO7 hGD7 hz hB3 HFg4 HR4 HGO4 HF4 HD4 HAP HYF HYm
     have hl24:=loL_len (uh HYT).ok
     go_wp2_with fail
     go_loopg [6,48] (loL y.f).length (fun gn cv iv wx=>∃ (j:Nat) (LD:List FE) (sa:Sr),j + gn = (loL y.f).length∧iv = .int .i64 j∧Hid (Fg w wx B F0 S (shC c0 hv lp kv wv c.bd sa.lf lo sa.fu) (k + 1) cv LD (.slice (some ⟨g7,0,none⟩) (LR.length + 1) cap7) (LR ++ [z])∧wx.ownsRow B3 3 1 (.slice ga (loL y.f).length gc) (loL y.f).length (natV (loL y.f))∧(∀ q∈(Value.slice ga (loL y.f).length gc).ownBlock.toList,q ∉ flF cv LD∧q≠S)∧(∀ y∈LD,Td y.f)∧((loL y.f).drop j).foldl (fndF c y.f) (LD.map (·.f),sa) = R1∧LD.length≤bigC + 1∧k + 1≤LD.length∧y∈LD))
     case atStart=>exact ⟨0,LC,s',by omega,rfl,HJ0⟩
     case round =>
      clear HJ0
      obtain ⟨j,LD,sa,hjn,rfl,hJ⟩:=hrel
      obtain ⟨G2,hG2⟩:∃ G2,G2 = gk:=⟨_,rfl⟩
      by_cases hjl:j < (loL y.f).length
      ·have hd2:decide ((j:Int) < ((loL y.f).length:Int)) = true:=by simp;omega
       obtain ⟨g3,cap3,hgv3,hcell⟩:=ints_cell (uh hJ).2.1 hjl
       simp only [Value.slice.injEq,true_and] at hgv3
       obtain ⟨rfl,rfl⟩:=hgv3
       have hdr:(loL y.f).drop j = (loL y.f)[j] :: (loL y.f).drop (j + 1):=List.drop_eq_getElem_cons hjl
       have hjo:(loL y.f)[j] < y.f.ow.length:=by
        have:=List.getElem_mem hjl
        unfold loL at this
        rw [List.mem_filter,List.mem_range] at this
        exact this.1
       have hfo:=(uh hJ).2.2.2.2.1
       rw [hdr,List.foldl_cons] at hfo
       obtain ⟨i,hi⟩:∃ i,i = (loL y.f)[j]:=⟨_,rfl⟩
       rw [← hi] at hfo hjo hcell
       have hoki:(fndF c y.f (LD.map (·.f),sa) i).2.ok = true:=fold_mono (fndF c y.f) (fun r b h=>fndF_mono r b h) ((loL y.f).drop (j + 1)) (by rw [hfo];exact uh HOK1)
       have HFD:=hide (found_any (c:=c) (s:=sa) (x:=y) (i:=i) (L:=LD) (uh hJ).1.bs (uh hJ).1.c (uh hJ).2.2.2.1 (uh hJ).2.2.2.2.2.2.2 (uh hJ).1.sc (uh hJ).1.bb hjo hoki)
       have hle0:(LD.map (fun q:FE=>q.f)).length = LD.length:=List.length_map _
       have HLE:Hid ((fndF c y.f (LD.map (·.f),sa) i).1.length≤bigC + 1):=hide (by
        refine fndF_len _ i hoki ?_
        show (LD.map (fun q:FE=>q.f)).length≤bigC + 1
        have h9:=(uh hJ).2.2.2.2.2.1
        omega)
       obtain ⟨R2,hR2⟩:∃ R2,R2 = fndF c y.f (LD.map (·.f),sa) i:=⟨_,rfl⟩
       rw [← hR2] at HFD HLE hfo
       have HFo:=hide hfo
       have HJ:=hide (uh hJ)
       have k1:(0:Int)≤(j:Int):=by omega
       have k2:(j:Int) < ((loL y.f).length:Int):=by omega
       clear hdr hjo hfo hi hoki hR2 hJ hle0
       go_wp2_with fail
       refine (uh HFD).mono ?_
       rintro e w8 ⟨v8,L8,rfl,hfl8,htd8,hmap8,hbk8,hS8,hs8⟩
       have hFg8:=(uh HJ).1.more (uh HJ).2.2.2.2.2.2.1 hfl8 hbk8 hS8 hs8
       have hno:∀ q∈(Value.slice (some ⟨g3,0,none⟩) (loL y.f).length gc).ownBlock.toList,q ∉ S :: flF u6 LD:=fun q hq hn=>by
        rcases List.mem_cons.1 hn with p | p
        ·exact ((uh HJ).2.2.1 q hq).2 p
        ·exact ((uh HJ).2.2.1 q hq).1 p
       have hGO8:=ownsRow_of_eq (uh HJ).2.1 (fun q hq=>hs8.block q ((uh HJ).2.1.lt q hq).2 (hno q (by simpa using hq)))
       have hGD8:∀ q∈(Value.slice (some ⟨g3,0,none⟩) (loL y.f).length gc).ownBlock.toList,q ∉ flF v8 (LD ++ L8)∧q≠S:=fun q hq=>⟨fun hn=>by
        rcases hs8.foot q (List.mem_cons_of_mem _ hn) with p | p
        ·exact hno q hq p
        ·have:=((uh HJ).2.1.lt q (by simpa using hq)).2;omega,((uh HJ).2.2.1 q hq).2⟩
       have hTd8:∀ q∈LD ++ L8,Td q.f:=fun q hq=>(List.mem_append.1 hq).elim ((uh HJ).2.2.2.1 q) (htd8 q)
       have hle8:(LD ++ L8).length≤bigC + 1:=by
        have:=uh HLE
        rw [← hmap8,List.length_map] at this
        exact this
       have hfo8:((loL y.f).drop (j + 1)).foldl (fndF c y.f) ((LD ++ L8).map (·.f),R2.2) = R1:=by rw [hmap8];exact uh HFo
       have HN:=hide (And.intro hFg8 (And.intro hGO8 (And.intro hGD8 (And.intro hTd8 (And.intro hfo8 (And.intro hle8 (And.intro (show k + 1≤(LD ++ L8).length by rw [List.length_append];have:=(uh HJ).2.2.2.2.2.2.1;omega) (show y∈LD ++ L8 from List.mem_append_left _ (uh HJ).2.2.2.2.2.2.2))))))))
       clear hfl8 htd8 hmap8 hbk8 hS8 hs8 hFg8 hno hGO8 hGD8 hTd8 hle8 hfo8 HJ HFD HLE HFo
       go_wp2_with fail
       go_roundg (G2 - 1)
       case rel=>exact ⟨j + 1,LD ++ L8,R2.2,by omega,by go_num,HN⟩
       case measure=>omega
      ·have hd2:decide ((j:Int) < ((loL y.f).length:Int)) = false:=by simp;omega
       have hrr:(LD.map (·.f),sa) = R1:=by
        have:=(uh hJ).2.2.2.2.1
        rw [List.drop_eq_nil_of_le (by omega)] at this
        exact this
       have HN:=hide (And.intro (uh hJ).1 (And.intro (uh hJ).2.2.2.1 (And.intro (fun (q:FE) (hq:q∈LR ++ [z])=>(List.mem_append.1 hq).elim ((uh HI).2.2.1 q) (fun p=>by rw [List.mem_singleton.1 p,uh HZ];exact wiO_td (uh HYT).ok)) (And.intro (show fgN c m (k + 1) ((LR ++ [z]).map (·.f)) (LD.map (·.f),sa) = R by rw [hrr,List.map_append,List.map_singleton,uh HZ];exact uh HFO2) (And.intro (uh hJ).2.2.2.2.2.1 (And.intro (uh hJ).2.2.2.2.2.2.1 (show (LR ++ [z]).length = k + 1 by rw [List.length_append,uh HRK];rfl)))))))
       clear hrr hJ
       go_wp2_with fail
       go_roundg m
       case rel=>exact ⟨k + 1,LD,LR ++ [z],sa,by go_num,HN⟩
       case measure=>omega
   ·rw [hfu] at c8
    have hfo:=(uh hI).2.2.2.1
    rw [hm,fgN_end (fun h=>by rw [hfu] at h;cases h.2)] at hfo
    have HFO:=hide hfo
    clear hfo
    go_wp2_with fail
    go_ret
    obtain ⟨v',L',h1,h2,h3,h4,h5,h6,h7⟩:=fg_post (uh hI).1 (uh hI).2.2.1 (uh HFO)
    exact ⟨v',h1,L',h2,h3,h4,h5,h6,h7⟩
  ·have hd:decide ((k:Int) < (LC.length:Int)) = false:=by simp;omega
   have hfo:=(uh hI).2.2.2.1
   rw [hm,fgN_end (fun h=>hlt (by simpa using h.1))] at hfo
   have HFO:=hide hfo
   clear hfo
   go_wp2_with fail
   go_ret
   obtain ⟨v',L',h1,h2,h3,h4,h5,h6,h7⟩:=fg_post (uh hI).1 (uh hI).2.2.1 (uh HFO)
   exact ⟨v',h1,L',h2,h3,h4,h5,h6,h7⟩
end
theorem fnG_lo {c:Cd} (r:List CF × Sr) (g:CF):(fnG c r g).2.lo = r.2.lo:=by unfold fnG;split <;> rfl
theorem fold_lo {β:Type} (g:List CF × Sr→β→List CF × Sr) (hg:∀ r b,(g r b).2.lo = r.2.lo):∀ (l:List β) (r:List CF × Sr),(l.foldl g r).2.lo = r.2.lo
 | [],_=>rfl
 | b :: l,r=>(fold_lo g hg l (g r b)).trans (hg r b)
theorem fnS_lo {c:Cd} {f:CF} {i:Nat} (r:List CF × Sr) (a:Nat):(fnS c f i r a).2.lo = r.2.lo:=by
 unfold fnS
 split
 ·exact fold_lo _ fnG_lo _ _
 ·rfl
theorem fndF_lo {c:Cd} {f:CF} (r:List CF × Sr) (i:Nat):(fndF c f r i).2.lo = r.2.lo:=fold_lo _ fnS_lo _ _
theorem fgN_lo {c:Cd}:∀ (n k:Nat) (res:List CF) (r:List CF × Sr),(fgN c n k res r).2.lo = r.2.lo
 | 0,_,_,_=>rfl
 | n + 1,k,res,r=>by
  unfold fgN
  split
  ·rw [fgN_lo n]
   unfold fgS
   split
   ·rfl
   ·exact fold_lo _ fndF_lo _ _
  ·rfl
theorem layS_mono {c:Cd} {n:Nat} {f:CF} {s:Sr} (h:(layS c n f s).ok = true):s.ok = true∧(knA s n).length≤big:=by
 have h1:(s.ok && decide ((knA s n).length≤big)) = true:=by
  unfold layS at h
  split at h
  ·exact h
  ·exact h
 rw [Bool.and_eq_true,decide_eq_true_eq] at h1
 exact h1
theorem layF_mono {c:Cd} {n:Nat}:∀ (l:List CF) {s:Sr},(l.foldl (fun s g=>layS c n g s) s).ok = true→s.ok = true
 | [],_,h=>h
 | _ :: l,_,h=>(layS_mono (layF_mono l h)).1
theorem arS_mono {c:Cd} {fuel a b:Nat} {f:CF} {s:Sr} (h:(arS c fuel a b f s).ok = true):s.ok = true:=by
 unfold arS at h
 split at h
 ·exact (layS_mono h).1
 ·have h1:=layF_mono _ h
  exact fgN_mono fuel 0 [] ([f],wrS a 2 s) h1
theorem arF_mono {c:Cd} {fuel a b:Nat}:∀ (l:List CF) {s:Sr},(l.foldl (fun s g=>arS c fuel a b g s) s).ok = true→s.ok = true
 | [],_,h=>h
 | _ :: l,_,h=>arS_mono (arF_mono l h)
def Apt (O:List (Option Nat)):Prop:=∀ i j k:Nat,O[i]? = some (some k)→O[j]? = some (some k)→i = j
def fpt (O:List (Option Nat)):List Nat:=O.filterMap id
theorem mem_fpt {O:List (Option Nat)} {k:Nat}:k∈fpt O↔∃ i:Nat,O[i]? = some (some k):=by
 unfold fpt
 rw [List.mem_filterMap]
 constructor
 ·rintro ⟨a,ha,e⟩
  obtain ⟨i,hi⟩:=List.mem_iff_getElem?.1 ha
  exact ⟨i,by rw [hi];exact congrArg some e⟩
 ·rintro ⟨i,hi⟩
  exact ⟨some k,List.mem_of_getElem? hi,rfl⟩
theorem Apt.set {O:List (Option Nat)} (h:Apt O) (p:Nat) {o:Option Nat} (ho:∀ k,o = some k→O[p]? = some (some k)∨∀ j:Nat,O[j]?≠some (some k)):Apt (O.set p o):=by
 intro i j k hi hj
 rw [List.getElem?_set] at hi hj
 by_cases e1:p = i
 ·by_cases e2:p = j
  ·exact e1.symm.trans e2
  ·rw [if_pos e1] at hi
   rw [if_neg e2] at hj
   split at hi
   ·simp only [Option.some.injEq] at hi
    rcases ho k hi with q | q
    ·exact e1.symm.trans (h _ _ _ q hj)
    ·exact absurd hj (q j)
   ·simp at hi
 ·rw [if_neg e1] at hi
  by_cases e2:p = j
  ·rw [if_pos e2] at hj
   split at hj
   ·simp only [Option.some.injEq] at hj
    rcases ho k hj with q | q
    ·exact (h _ _ _ hi q).trans e2
    ·exact absurd hi (q i)
   ·simp at hj
  ·rw [if_neg e2] at hj
   exact h _ _ _ hi hj
def vNil:Value:=.slice none 0 0
structure En where
 D:Nat
 x:FE
 d:Bool
def En.bs (e:En):List Nat:=e.D :: e.x.bs
def En.c (e:En):List Value:=[.pointer (some ⟨e.D,0,none⟩),.bool e.d]
def En.m (e:En):Ent:=⟨e.x.f,e.d⟩
def enL (L:List En):List Value:=L.flatMap En.c
def En.ok (w:World) (e:En):Prop:=IsD w e.D e.x.A e.x.f e.x.av e.x.ov∧Td e.x.f
theorem enL_len (L:List En):(enL L).length = L.length * 2:=by
 induction L with
 | nil=>rfl
 | cons a L ih =>
  unfold enL at ih ⊢
  rw [List.flatMap_cons,List.length_append,ih,List.length_cons]
  show 2 + _ = _
  omega
theorem enL_app (L M:List En):enL (L ++ M) = enL L ++ enL M:=by unfold enL;rw [List.flatMap_append]
theorem enL_take (L:List En) (k:Nat):(enL L).take (k * 2) = enL (L.take k):=by
 induction L generalizing k with
 | nil=>simp [enL]
 | cons a L ih =>
  cases k with
  | zero=>simp [enL]
  | succ k =>
   have:=ih k
   unfold enL at this ⊢
   rw [List.take_succ_cons,List.flatMap_cons,List.flatMap_cons,← this,show (k + 1) * 2 = (k * 2) + 1 + 1 by omega]
   rfl
theorem enL_get {L:List En} {i:Nat} (hi:i < L.length):(enL L)[i * 2]? = some (.pointer (some ⟨L[i].D,0,none⟩))∧(enL L)[i * 2 + 1]? = some (.bool L[i].d):=by
 induction L generalizing i with
 | nil=>simp at hi
 | cons a L ih =>
  cases i with
  | zero=>exact ⟨rfl,rfl⟩
  | succ i =>
   have:=ih (i:=i) (by simpa using hi)
   unfold enL at this ⊢
   rw [List.flatMap_cons,show (i + 1) * 2 = (i * 2) + 1 + 1 by omega,show i * 2 + 1 + 1 + 1 = (i * 2 + 1) + 1 + 1 by omega]
   exact this
theorem enL_set {L:List En} {i:Nat} (hi:i < L.length) (e:En):((enL L).set (i * 2) (.pointer (some ⟨e.D,0,none⟩))).set (i * 2 + 1) (.bool e.d) = enL (L.set i e):=by
 induction L generalizing i with
 | nil=>simp at hi
 | cons a L ih =>
  cases i with
  | zero=>rfl
  | succ i =>
   have:=ih (i:=i) (by simpa using hi)
   unfold enL at this ⊢
   rw [List.set_cons_succ,List.flatMap_cons,List.flatMap_cons,← this,show (i + 1) * 2 = (i * 2) + 1 + 1 by omega,show i * 2 + 1 + 1 + 1 = (i * 2 + 1) + 1 + 1 by omega]
   rfl
def olS (S:Nat) (hv kv wv:Value) (KV WV:List Value):List (Option Nat):=some S :: hv.ownBlock :: kv.ownBlock :: wv.ownBlock :: (KV.map Value.ownBlock ++ WV.map Value.ownBlock)
def shF (S:Nat) (hv kv wv:Value) (KV WV:List Value):List Nat:=fpt (olS S hv kv wv KV WV)
def drF (K:List (List En)):List Nat:=K.flatMap (fun l=>l.flatMap En.bs)
theorem mem_drF {K:List (List En)} {k:Nat}:k∈drF K↔∃ l∈K,∃ e∈l,k∈e.bs:=by
 unfold drF
 simp only [List.mem_flatMap]
structure Sh (w:World) (S:Nat) (c:Cd) (c0 hv kv wv:Value) (KV WV:List Value) (K:List (List En)) (s:Sr):Prop where
 bs:Bk w S 229 (shC c0 hv c.lp kv wv c.bd s.lf s.lo s.fu)
 hr:w.ownsRow 0 4 1 hv c.hd.length (blC c.hd)
 kr:w.ownsRow 0 255 1 kv K.length KV
 ke:∀ i,i < K.length→w.ownsRow 0 258 2 (KV.getD i vNil) (K.getD i []).length (enL (K.getD i []))
 wr:w.ownsRow 0 200 1 wv K.length WV
 we:∀ i,i < K.length→w.ownsRow 0 4 1 (WV.getD i vNil) 5 (blC (s.wr.getD i []))
 wl:s.wr.length = K.length
 hl:c.hd.length = K.length
 nl:c.nds.length = K.length
 km:s.kn = K.map (fun l=>l.map En.m)
 dr:∀ l∈K,∀ e∈l,e.ok w
 nd:Apt (olS S hv kv wv KV WV)
 da:∀ k∈drF K,k ∉ shF S hv kv wv KV WV
section
variable {w w':World} {S:Nat} {c:Cd} {c0 hv kv wv:Value} {KV WV:List Value} {K:List (List En)} {s:Sr}
theorem Sh.kvl (h:Sh w S c c0 hv kv wv KV WV K s):KV.length = K.length:=by have:=h.kr.1;omega
theorem Sh.wvl (h:Sh w S c c0 hv kv wv KV WV K s):WV.length = K.length:=by have:=h.wr.1;omega
theorem ol_k {i:Nat} (hi:i < KV.length):(olS S hv kv wv KV WV)[4 + i]? = some (KV.getD i vNil).ownBlock:=by
 unfold olS
 rw [show 4 + i = i + 1 + 1 + 1 + 1 by omega]
 simp only [List.getElem?_cons_succ]
 rw [List.getElem?_append_left (by simpa using hi)]
 simp [hi]
theorem ol_w {i:Nat} (hi:i < WV.length):(olS S hv kv wv KV WV)[4 + (KV.length + i)]? = some (WV.getD i vNil).ownBlock:=by
 unfold olS
 rw [show 4 + (KV.length + i) = (KV.length + i) + 1 + 1 + 1 + 1 by omega]
 simp only [List.getElem?_cons_succ]
 rw [List.getElem?_append_right (by simp)]
 simp [hi]
theorem ol_set {n:Nat} (v:Value) (hn:n < KV.length):olS S hv kv wv (KV.set n v) WV = (olS S hv kv wv KV WV).set (4 + n) v.ownBlock:=by
 unfold olS
 rw [show 4 + n = n + 1 + 1 + 1 + 1 by omega]
 simp only [List.set_cons_succ]
 rw [List.set_append_left _ _ (by simpa using hn),List.map_set]
theorem ol_in {i k:Nat} (h:(olS S hv kv wv KV WV)[i]? = some (some k)):i = 0∧k = S∨i = 1∧hv.ownBlock = some k∨i = 2∧kv.ownBlock = some k∨i = 3∧wv.ownBlock = some k∨(∃ j,j < KV.length∧i = 4 + j∧(KV.getD j vNil).ownBlock = some k)∨∃ j,j < WV.length∧i = 4 + (KV.length + j)∧(WV.getD j vNil).ownBlock = some k:=by
 unfold olS at h
 match i with
 | 0=>left;simpa [eq_comm] using h
 | 1=>right;left;simpa using h
 | 2=>right;right;left;simpa using h
 | 3=>right;right;right;left;simpa using h
 | i + 4 =>
  simp only [List.getElem?_cons_succ] at h
  by_cases hl:i < KV.length
  ·right;right;right;right;left
   rw [List.getElem?_append_left (by simpa using hl)] at h
   refine ⟨i,hl,by omega,?_⟩
   simpa [hl] using h
  ·right;right;right;right;right
   rw [List.getElem?_append_right (by simp;omega)] at h
   have hl2:i - KV.length < WV.length:=by
    have:=(List.getElem?_eq_some_iff.1 h).1
    simpa using this
   refine ⟨i - KV.length,hl2,by omega,?_⟩
   simpa [hl2] using h
theorem Sh.lt (h:Sh w S c c0 hv kv wv KV WV K s):∀ k∈shF S hv kv wv KV WV,k < w.heap.size:=by
 intro k hk
 obtain ⟨i,hi⟩:=mem_fpt.1 hk
 rcases ol_in hi with ⟨-,rfl⟩ | ⟨-,e⟩ | ⟨-,e⟩ | ⟨-,e⟩ | ⟨j,hj,-,e⟩ | ⟨j,hj,-,e⟩
 ·exact h.bs.lt
 ·exact (h.hr.lt k e).2
 ·exact (h.kr.lt k e).2
 ·exact (h.wr.lt k e).2
 ·exact ((h.ke j (by rw [← h.kvl];exact hj)).lt k e).2
 ·exact ((h.we j (by rw [← h.wvl];exact hj)).lt k e).2
theorem Sh.drlt (h:Sh w S c c0 hv kv wv KV WV K s):∀ k∈drF K,k < w.heap.size:=by
 intro k hk
 obtain ⟨l,hl,e,he,hk⟩:=mem_drF.1 hk
 exact (h.dr l hl e he).1.lt k hk
theorem mem_sh {i k:Nat} (h:(olS S hv kv wv KV WV)[i]? = some (some k)):k∈shF S hv kv wv KV WV:=mem_fpt.2 ⟨i,h⟩
theorem mem_shS:S∈shF S hv kv wv KV WV:=mem_sh (i:=0) rfl
theorem En.ok.of_eq {e:En} (h:e.ok w) (he:∀ k∈e.bs,w'.heap[k]? = w.heap[k]?):e.ok w':=⟨h.1.of_eq he,h.2⟩
theorem Sh.of_eq (h:Sh w S c c0 hv kv wv KV WV K s) (he:∀ k∈shF S hv kv wv KV WV,w'.heap[k]? = w.heap[k]?) (hd:∀ k∈drF K,w'.heap[k]? = w.heap[k]?):Sh w' S c c0 hv kv wv KV WV K s:=by
 have hK:=h.kvl
 have hW:=h.wvl
 refine ⟨h.bs.of_eq (he S mem_shS),ownsRow_of_eq h.hr (fun k hk=>he k (mem_sh (i:=1) (congrArg some hk))),ownsRow_of_eq h.kr (fun k hk=>he k (mem_sh (i:=2) (congrArg some hk))),fun i hi=>ownsRow_of_eq (h.ke i hi) (fun k hk=>he k (mem_sh ((ol_k (by omega)).trans (congrArg some hk)))),ownsRow_of_eq h.wr (fun k hk=>he k (mem_sh (i:=3) (congrArg some hk))),fun i hi=>ownsRow_of_eq (h.we i hi) (fun k hk=>he k (mem_sh ((ol_w (by omega)).trans (congrArg some hk)))),h.wl,h.hl,h.nl,h.km,fun l hl e hel=>(h.dr l hl e hel).of_eq (fun k hk=>hd k (mem_drF.2 ⟨l,hl,e,hel,hk⟩)),h.nd,h.da⟩
theorem Sh.below (h:Sh w S c c0 hv kv wv KV WV K s) (hb:Below w.heap.size w w'):Sh w' S c c0 hv kv wv KV WV K s:=h.of_eq (fun k hk=>hb.block k (h.lt k hk)) (fun k hk=>hb.block k (h.drlt k hk))
theorem Sh.stp {F F':List Nat} (h:Sh w S c c0 hv kv wv KV WV K s) (hs:Stp F w F' w') (h1:∀ k∈shF S hv kv wv KV WV,k ∉ F) (h2:∀ k∈drF K,k ∉ F):Sh w' S c c0 hv kv wv KV WV K s:=h.of_eq (fun k hk=>hs.block k (h.lt k hk) (h1 k hk)) (fun k hk=>hs.block k (h.drlt k hk) (h2 k hk))
theorem Sh.own {F F':List Nat} (h:Sh w S c c0 hv kv wv KV WV K s) {s':Sr} (hb:Bk w' S 229 (shC c0 hv c.lp kv wv c.bd s'.lf s'.lo s'.fu)) (hs:Stp F w F' w') (hF:∀ k∈F,k = S∨k ∉ shF S hv kv wv KV WV∧k ∉ drF K) (e1:s'.kn = s.kn) (e2:s'.wr = s.wr):Sh w' S c c0 hv kv wv KV WV K s':=by
 have hne:∀ i k,i≠0→(olS S hv kv wv KV WV)[i]? = some (some k)→w'.heap[k]? = w.heap[k]?:=fun i k hi0 hi =>
  hs.block k (h.lt k (mem_sh hi)) (fun hk=>by
   rcases hF k hk with p | p
   ·subst p
    exact hi0 (h.nd i 0 k hi rfl)
   ·exact p.1 (mem_sh hi))
 have hK:=h.kvl
 have hW:=h.wvl
 refine ⟨hb,ownsRow_of_eq h.hr (fun k hk=>hne 1 k (by omega) (congrArg some hk)),ownsRow_of_eq h.kr (fun k hk=>hne 2 k (by omega) (congrArg some hk)),fun i hi=>ownsRow_of_eq (h.ke i hi) (fun k hk=>hne _ k (by omega) ((ol_k (by omega)).trans (congrArg some hk))),ownsRow_of_eq h.wr (fun k hk=>hne 3 k (by omega) (congrArg some hk)),fun i hi=>?_,by rw [e2];exact h.wl,h.hl,h.nl,by rw [e1];exact h.km,fun l hl e hel=>(h.dr l hl e hel).of_eq (fun k hk=>?_),h.nd,h.da⟩
 ·rw [e2]
  exact ownsRow_of_eq (h.we i hi) (fun k hk=>hne _ k (by omega) ((ol_w (by omega)).trans (congrArg some hk)))
 ·have hm:=mem_drF.2 ⟨l,hl,e,hel,hk⟩
  refine hs.block k (h.drlt k hm) (fun hq=>?_)
  rcases hF k hq with p | p
  ·exact h.da k hm (by rw [p];exact mem_shS)
  ·exact p.2 hm
theorem Sh.put (h:Sh w S c c0 hv kv wv KV WV K s) {n:Nat} (hn:n < K.length) {v':Value} {l':List En} (he:∀ i k,i≠2→i≠4 + n→(olS S hv kv wv KV WV)[i]? = some (some k)→w'.heap[k]? = w.heap[k]?)
  (hk:w'.ownsRow 0 255 1 kv K.length (KV.set n v')) (hr:w'.ownsRow 0 258 2 v' l'.length (enL l')) (hv':∀ k,v'.ownBlock = some k→(KV.getD n vNil).ownBlock = some k∨w.heap.size≤k)
  (hd:∀ k∈drF K,w'.heap[k]? = w.heap[k]?) (hl:∀ e∈l',e.ok w'∧∀ k∈e.bs,k ∉ shF S hv kv wv (KV.set n v') WV):Sh w' S c c0 hv kv wv (KV.set n v') WV (K.set n l') { s with kn:=s.kn.set n (l'.map En.m) }:=by
 have hK:=h.kvl
 have hW:=h.wvl
 have hnK:n < KV.length:=by omega
 have hin:∀ k∈shF S hv kv wv (KV.set n v') WV,k∈shF S hv kv wv KV WV∨w.heap.size≤k:=fun k hk=>by
  obtain ⟨i,hi⟩:=mem_fpt.1 hk
  rw [ol_set v' hnK,List.getElem?_set] at hi
  split at hi
  ·rename_i e
   split at hi
   ·simp only [Option.some.injEq] at hi
    rcases hv' k hi with q | q
    ·exact Or.inl (mem_sh ((ol_k hnK).trans (congrArg some q)))
    ·exact Or.inr q
   ·simp at hi
  ·exact Or.inl (mem_sh hi)
 have hKs:(K.set n l').length = K.length:=List.length_set
 refine ⟨h.bs.of_eq (he 0 S (by omega) (by omega) rfl),ownsRow_of_eq h.hr (fun k hk=>he 1 k (by omega) (by omega) (congrArg some hk)),by rw [hKs];exact hk,fun i hi=>?_,by rw [hKs];exact ownsRow_of_eq h.wr (fun k hk=>he 3 k (by omega) (by omega) (congrArg some hk)),fun i hi=>?_,by rw [hKs];exact h.wl,by rw [hKs];exact h.hl,by rw [hKs];exact h.nl,?_,fun l hl2 e hel=>?_,?_,fun k hk hm=>?_⟩
 ·rw [hKs] at hi
  by_cases e:i = n
  ·subst e
   have e1:(KV.set i v').getD i vNil = v':=by simp [hnK]
   have e2:(K.set i l').getD i [] = l':=by simp [hn]
   rw [e1,e2]
   exact hr
  ·have e1:(KV.set n v').getD i vNil = KV.getD i vNil:=by
    rw [List.getD_eq_getElem?_getD,List.getElem?_set_ne (fun e'=>e e'.symm),← List.getD_eq_getElem?_getD]
   have e2:(K.set n l').getD i [] = K.getD i []:=by
    rw [List.getD_eq_getElem?_getD,List.getElem?_set_ne (fun e'=>e e'.symm),← List.getD_eq_getElem?_getD]
   rw [e1,e2]
   exact ownsRow_of_eq (h.ke i hi) (fun k hk=>he _ k (by omega) (by omega) ((ol_k (by omega)).trans (congrArg some hk)))
 ·rw [hKs] at hi
  exact ownsRow_of_eq (h.we i hi) (fun k hk=>he _ k (by omega) (by omega) ((ol_w (by omega)).trans (congrArg some hk)))
 ·show s.kn.set n _ = _
  rw [h.km,List.map_set]
 ·rcases List.mem_or_eq_of_mem_set hl2 with p | p
  ·exact (h.dr l p e hel).of_eq (fun k hk=>hd k (mem_drF.2 ⟨l,p,e,hel,hk⟩))
  ·subst p;exact (hl e hel).1
 ·rw [ol_set v' hnK]
  refine h.nd.set (4 + n) (fun k hk=>?_)
  rcases hv' k hk with q | q
  ·exact Or.inl ((ol_k hnK).trans (congrArg some q))
  ·exact Or.inr (fun j hj=>by have:=h.lt k (mem_sh hj);omega)
 ·obtain ⟨l,hl2,e,hel,hk2⟩:=mem_drF.1 hk
  rcases List.mem_or_eq_of_mem_set hl2 with p | p
  ·have hq:=mem_drF.2 ⟨l,p,e,hel,hk2⟩
   rcases hin k hm with q | q
   ·exact h.da k hq q
   ·have:=h.drlt k hq;omega
  ·subst p;exact (hl e hel).2 k hk2 hm
theorem Sh.bad (h:Sh w S c c0 hv kv wv KV WV K s) {n:Nat} (hn:n < K.length) {t:Nat} (ht:t < 5) {g cap:Nat} (hg:WV.getD n vNil = .slice (some ⟨g,0,none⟩) 5 cap):Sh (w.setCell ⟨g,t,none⟩ (.bool true)) S c c0 hv kv wv KV WV K (wrS n t s)∧g∈shF S hv kv wv KV WV:=by
 have hK:=h.kvl
 have hW:=h.wvl
 have hgo:(olS S hv kv wv KV WV)[4 + (KV.length + n)]? = some (some g):=by rw [ol_w (by omega),hg];rfl
 have hne:∀ i k,i≠4 + (KV.length + n)→(olS S hv kv wv KV WV)[i]? = some (some k)→(w.setCell ⟨g,t,none⟩ (.bool true)).heap[k]? = w.heap[k]?:=fun i k hi hk=>by
  refine Below.heap_setCell _ _ _ _ (fun e=>hi ?_)
  rw [show k = g from e] at hk
  exact h.nd i _ g hk hgo
 refine ⟨⟨h.bs.of_eq (hne 0 S (by omega) rfl),ownsRow_of_eq h.hr (fun k hk=>hne 1 k (by omega) (congrArg some hk)),ownsRow_of_eq h.kr (fun k hk=>hne 2 k (by omega) (congrArg some hk)),fun i hi=>ownsRow_of_eq (h.ke i hi) (fun k hk=>hne _ k (by omega) ((ol_k (by omega)).trans (congrArg some hk))),ownsRow_of_eq h.wr (fun k hk=>hne 3 k (by omega) (congrArg some hk)),fun i hi=>?_,?_,h.hl,h.nl,h.km,fun l hl e hel=>(h.dr l hl e hel).of_eq (fun k hk=>?_),h.nd,h.da⟩,mem_sh hgo⟩
 ·by_cases e:i = n
  ·subst e
   have h1:=h.we i hi
   rw [hg] at h1 ⊢
   have h2:=(h1.stored t (.bool true)).1
   have e3:(wrS i t s).wr.getD i [] = (s.wr.getD i []).set t true:=by
    show (s.wr.set i _).getD i [] = _
    have:i < s.wr.length:=by rw [h.wl];exact hi
    simp [this]
   rw [e3]
   have e4:blC ((s.wr.getD i []).set t true) = (blC (s.wr.getD i [])).set t (.bool true):=by unfold blC;rw [List.map_set]
   rw [e4]
   exact h2
  ·have e3:(wrS n t s).wr.getD i [] = s.wr.getD i []:=by
    show (s.wr.set n _).getD i [] = _
    rw [List.getD_eq_getElem?_getD,List.getElem?_set_ne (fun e'=>e e'.symm),← List.getD_eq_getElem?_getD]
   rw [e3]
   exact ownsRow_of_eq (h.we i hi) (fun k hk=>hne _ k (by omega) ((ol_w (by omega)).trans (congrArg some hk)))
 ·show (s.wr.set n _).length = _
  rw [List.length_set];exact h.wl
 ·have hm:=mem_drF.2 ⟨l,hl,e,hel,hk⟩
  refine Below.heap_setCell _ _ _ _ (fun e'=>h.da k hm ?_)
  rw [show k = g from e']
  exact mem_sh hgo
end
section
variable {P:Program} (w:World)
theorem run_app2 (base:Nat) (t ty e:TypeId) (i:TypeInfo) (z:Value) (size bytes:Nat) (ht:P.underlying t = some (.slice e)) (hi:P.info? e = some i) (hz:i.zero = some z)
  (hsize:i.size = size) (hby:i.bytes = bytes) (hzs:z.cells.size = size) (hsz:0 < size)
  (v:Value) (n:Nat) (xs:List Value) (hown:w.ownsRow base e size v n xs)
  (a:Addr) (c:Nat) (news:List Value) (hl:news.length = size) (hnews:∀ j u,news[j]? = some u→w.cell? (a.add j) = some u) (h1:∀ u∈news,u.oneCell' = true)
  (h63:n + 1≤2000000000000) (hb:bytes≤16) (hbase:base≤w.heap.size) :
  ∃ v' w',(Builtin.append_ #[t,t] ty #[v,.slice (some a) 1 c]).run P w = .ok v' w'∧w'.ownsRow base e size v' (n + 1) (xs ++ news)∧w.grownBy w' v.ownBlock ∧
   (v'.ownBlock = v.ownBlock∨v'.ownBlock = some w.heap.size)∧∃ g cap,v' = .slice (some ⟨g,0,none⟩) (n + 1) cap:=by
 have hbytes:(n + 1) * bytes≤140737488355328:=Nat.le_trans (Nat.mul_le_mul h63 hb) (by decide)
 obtain ⟨v',w',hr,ho,hg,_⟩:=run_append_own (P:=P) w base t ty e i z size bytes ht hi hz hsize hby hzs hsz v n xs hown a 1 c news (by omega) hnews h1 (by unfold maxLen;omega) hbytes hbase
 refine ⟨v',w',hr,ho,hg,?_,?_⟩
 ·subst hsize
  subst hby
  rcases hown.2 with ⟨rfl,rfl⟩ | ⟨g,cap,cur,rfl,hbg,hgg,hnc,hcm,hcs,htake⟩
  ·have hr2:=run_append_nil (P:=P) w t ty e i z ht hi hz a 1 c news (by omega) hnews (by omega) (by omega) (by omega)
   rw [hr] at hr2
   injection hr2 with e1 e2
   subst e1
   exact Or.inr rfl
  ·by_cases hroom:n + 1≤cap
   ·have hfit:n * i.size + news.length≤cur.size:=by
     rw [hl,hcs]
     have:=Nat.mul_le_mul_right i.size hroom
     rw [Nat.add_mul] at this
     omega
    have hr2:=run_append_room (P:=P) w t ty e i ht hi g n cap cur hgg a 1 c news (by omega) hnews h1 hroom hfit
    rw [hr] at hr2
    injection hr2 with e1 e2
    subst e1
    exact Or.inl rfl
   ·have holds:∀ j u,xs[j]? = some u→w.cell? ((⟨g,0,none⟩:Addr).add j) = some u:=hown.cells (g:=g) rfl
    have hr2:=run_append_grow (P:=P) w t ty e i z ht hi hz ⟨g,0,none⟩ n cap xs hown.1 holds a 1 c news (by omega) hnews (by omega) (by omega) (growslice_fits (by omega) hbytes)
    rw [hr] at hr2
    injection hr2 with e1 e2
    subst e1
    exact Or.inr rfl
 ·rcases ho.2 with ⟨_,h⟩ | ⟨g,cap,_,h,_⟩
  ·omega
  ·exact ⟨g,cap,h⟩
theorem wpList_app2 {ops:Array Oper} {rest:List Oper} {o:Oper} {a:Act} {Q:Exit→Act→World→Prop}
  (hg:o.guard = none) (s x:Operand) (t:TypeId) (hop:o.op = Op.call { callee:=Callee.builtin Builtin.append,args:=#[s,x],argTypes:=#[t,t] })
  (base:Nat) (e:TypeId) (i:TypeInfo) (z:Value) (size bytes:Nat) (ht:P.underlying t = some (.slice e)) (hi:P.info? e = some i) (hz:i.zero = some z)
  (hsize:i.size = size) (hby:i.bytes = bytes) (hzs:z.cells.size = size) (hsz:0 < size)
  (v:Value) (n:Nat) (xs:List Value) (hs:a.eval s = v) (hown:w.ownsRow base e size v n xs)
  (ad:Addr) (c:Nat) (news:List Value) (hx:a.eval x = .slice (some ad) 1 c) (hl:news.length = size) (hnews:∀ j u,news[j]? = some u→w.cell? (ad.add j) = some u) (h1:∀ u∈news,u.oneCell' = true)
  (h63:n + 1≤2000000000000) (hb:bytes≤16) (hbase:base≤w.heap.size)
  (hK:∀ g cap w',w'.ownsRow base e size (.slice (some ⟨g,0,none⟩) (n + 1) cap) (n + 1) (xs ++ news)→w.grownBy w' v.ownBlock→(some g = v.ownBlock∨g = w.heap.size)→wpList P ops Q rest (a.put o.dst (.slice (some ⟨g,0,none⟩) (n + 1) cap)) w') :
  wpList P ops Q (o :: rest) a w:=by
 refine wpList_plain hg fun K hK'=>?_
 obtain ⟨v',w',hrun,r1,r2,r3,g,cap,rfl⟩:=run_app2 (P:=P) w base t o.type e i z size bytes ht hi hz hsize hby hzs hsz v n xs hown ad c news hl hnews h1 h63 hb hbase
 unfold Oper.wp
 simp [execOp,hop,resolve,invoke,builtin,hs,hx,hrun,Result.andThen]
 exact hK' _ _ (hK g cap w' r1 r2 (by simpa [Value.ownBlock] using r3))
end
end Go.Proofs.YtciihepbeacppaaGreat
