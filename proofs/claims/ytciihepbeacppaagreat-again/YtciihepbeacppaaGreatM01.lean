import Derived.Test.YtciihepbeacppaaGreatM00
import Derived.Deep.LoopGhost
namespace Go.Proofs.YtciihepbeacppaaGreat
open Go.RowKit
set_option linter.unusedVariables false
def IsPv (B:Nat) (WV:Value) (w:World) (P:Nat) (ws:List ByteArray) (s:PS) (F:List Nat) (wv vv hv nv:Value):Prop :=
  w.heap[P]? = some (.cells #[wv,.int .i64 s.pos,.bool s.failed,vv,hv,nv] 133 (0,0))∧(B≤P∧wv = WV) ∧
  w.ownsRow B 9 1 wv ws.length (ws.map Value.string) ∧
  w.ownsRow B 5 1 vv s.vars.length (bc s.vars) ∧
  w.ownsRow B 5 1 hv s.hid.length (bc s.hid) ∧
  w.ownsRow B 186 6 nv s.nodes.length (ndCells s.nodes) ∧
  F = P :: (wv.ownBlock.toList ++ (vv.ownBlock.toList ++ (hv.ownBlock.toList ++ nv.ownBlock.toList)))∧F.Nodup
section
variable {B:Nat} {WV:Value} {w:World} {P:Nat} {ws:List ByteArray} {s:PS} {F:List Nat} {wv vv hv nv:Value}
theorem IsP.named (h:IsP B WV w P ws s F):∃ wv vv hv nv,IsPv B WV w P ws s F wv vv hv nv:=h
theorem IsPv.is (h:IsPv B WV w P ws s F wv vv hv nv):IsP B WV w P ws s F:=⟨wv,vv,hv,nv,h⟩
theorem IsPv.of_eq {w':World} (h:IsPv B WV w P ws s F wv vv hv nv) (he:∀ k∈F,w'.heap[k]? = w.heap[k]?):IsPv B WV w' P ws s F wv vv hv nv:=by
 obtain ⟨hP,hB,h1,h2,h3,h4,hF,hN⟩:=h
 have hm:∀ k,k = P∨wv.ownBlock = some k∨vv.ownBlock = some k∨hv.ownBlock = some k∨nv.ownBlock = some k→k∈F:=by
  intro k hk;rw [hF];simpa using hk
 exact ⟨by rw [he P (hm P (by simp))];exact hP,hB,ownsRow_of_eq h1 (fun k hk=>he k (hm k (by simp [hk]))),ownsRow_of_eq h2 (fun k hk=>he k (hm k (by simp [hk]))),
  ownsRow_of_eq h3 (fun k hk=>he k (hm k (by simp [hk]))),ownsRow_of_eq h4 (fun k hk=>he k (hm k (by simp [hk]))),hF,hN⟩
theorem IsPv.drewN (h:IsPv B WV w P ws s F wv vv hv nv) (n:Nat):IsPv B WV (w.drewN n) P ws s F wv vv hv nv:=h.of_eq (fun _ _=>rfl)
theorem IsPv.alloc (h:IsPv B WV w P ws s F wv vv hv nv) (o:Obj):IsPv B WV (w.alloc o) P ws s F wv vv hv nv:=h.of_eq (fun k hk=>Below.heap_alloc _ _ _ (h.is.mem k hk).2)
theorem IsPv.setPos (h:IsPv B WV w P ws s F wv vv hv nv) (n:Nat):IsPv B WV (w.setCell ⟨P,1,none⟩ (.int .i64 n)) P ws { s with pos:=n } F wv vv hv nv:=by
 obtain ⟨hP,hB,h1,h2,h3,h4,hF,hN⟩:=h
 have hne:∀ k,wv.ownBlock = some k∨vv.ownBlock = some k∨hv.ownBlock = some k∨nv.ownBlock = some k→k≠P:=by
  rw [hF] at hN
  rintro k hk rfl
  exact (List.nodup_cons.1 hN).1 (by simpa using hk)
 have hk:∀ k,wv.ownBlock = some k∨vv.ownBlock = some k∨hv.ownBlock = some k∨nv.ownBlock = some k→(w.setCell ⟨P,1,none⟩ (.int .i64 n)).heap[k]? = w.heap[k]? :=
  fun k hk=>Below.heap_setCell _ _ _ _ (hne k hk)
 exact ⟨set6 hP _,hB,ownsRow_of_eq h1 (fun k h=>hk k (by simp [h])),ownsRow_of_eq h2 (fun k h=>hk k (by simp [h])),ownsRow_of_eq h3 (fun k h=>hk k (by simp [h])),ownsRow_of_eq h4 (fun k h=>hk k (by simp [h])),hF,hN⟩
theorem IsPv.apart (h:IsPv B WV w P ws s F wv vv hv nv):(∀ k,wv.ownBlock = some k∨vv.ownBlock = some k∨hv.ownBlock = some k∨nv.ownBlock = some k→k≠P) ∧
  (∀ k,vv.ownBlock = some k→wv.ownBlock≠some k∧hv.ownBlock≠some k∧nv.ownBlock≠some k)∧(∀ k,hv.ownBlock = some k→wv.ownBlock≠some k∧vv.ownBlock≠some k∧nv.ownBlock≠some k) ∧
  (∀ k,nv.ownBlock = some k→wv.ownBlock≠some k∧vv.ownBlock≠some k∧hv.ownBlock≠some k):=by
 obtain ⟨hP,hB,h1,h2,h3,h4,hF,hN⟩:=h
 rw [hF] at hN
 cases a:wv.ownBlock <;> cases b:vv.ownBlock <;> cases c:hv.ownBlock <;> cases d:nv.ownBlock <;> simp [a,b,c,d] at hN ⊢ <;> grind
theorem nd_vars {P g:Nat} {a b c d:List Nat} (h:(P :: (a ++ (b ++ (c ++ d)))).Nodup) (hg:g ∉ P :: (a ++ (c ++ d))):(P :: (a ++ ([g] ++ (c ++ d)))).Nodup:=by
 simp only [List.nodup_cons,List.nodup_append,List.mem_append,List.mem_cons] at *
 grind
theorem nd_hid {P g:Nat} {a b c d:List Nat} (h:(P :: (a ++ (b ++ (c ++ d)))).Nodup) (hg:g ∉ P :: (a ++ (b ++ d))):(P :: (a ++ (b ++ ([g] ++ d)))).Nodup:=by
 simp only [List.nodup_cons,List.nodup_append,List.mem_append,List.mem_cons] at *
 grind
theorem nd_nodes {P g:Nat} {a b c d:List Nat} (h:(P :: (a ++ (b ++ (c ++ d)))).Nodup) (hg:g ∉ P :: (a ++ (b ++ c))):(P :: (a ++ (b ++ (c ++ [g])))).Nodup:=by
 simp only [List.nodup_cons,List.nodup_append,List.mem_append,List.mem_cons] at *
 grind
theorem IsPv.pushVars {w3:World} {o:Obj} {g cap:Nat} (x:UInt8) (h:IsPv B WV w P ws s F wv vv hv nv) (hg:(w.alloc o).grownBy w3 vv.ownBlock)
  (hown:w3.ownsRow B 5 1 (.slice (some ⟨g,0,none⟩) (s.vars.length + 1) cap) (s.vars.length + 1) (bc s.vars ++ [.int .u8 (x.toNat:Int)]))
  (hb:some g = vv.ownBlock∨g = (w.alloc o).heap.size) :
  ∃ F',IsP B WV (w3.setCell ⟨P,3,none⟩ (.slice (some ⟨g,0,none⟩) (s.vars.length + 1) cap)) P ws { s with vars:=s.vars ++ [x] } F'∧Stp F w F' (w3.setCell ⟨P,3,none⟩ (.slice (some ⟨g,0,none⟩) (s.vars.length + 1) cap)):=by
 have hap:=h.apart
 have hmem:=h.is.mem
 have hsz:(w.alloc o).heap.size = w.heap.size + 1:=by simp
 obtain ⟨hP,hB,h1,h2,h3,h4,hF,hN⟩:=h
 have hPl:P < w.heap.size:=(hmem P (by rw [hF];simp)).2
 have hgP:g≠P:=by
  rcases hb with hb | hb
  ·exact hap.1 g (by simp [← hb])
  ·omega
 have hkeep:∀ k,k < w.heap.size→vv.ownBlock≠some k→k≠P→(w3.setCell ⟨P,3,none⟩ (.slice (some ⟨g,0,none⟩) (s.vars.length + 1) cap)).heap[k]? = w.heap[k]?:=by
  intro k hk hne hkP
  rw [Below.heap_setCell _ _ _ _ hkP,hg.block k (by omega) (fun e=>hne e.symm),Below.heap_alloc _ _ _ hk]
 have hP3:w3.heap[P]? = some (.cells #[wv,.int .i64 s.pos,.bool s.failed,vv,hv,nv] 133 (0,0)):=by
  rw [hg.block P (by omega) (fun e=>(hap.1 P (by simp [← e])) rfl),Below.heap_alloc _ _ _ hPl];exact hP
 have hlt:∀ k,wv.ownBlock = some k∨vv.ownBlock = some k∨hv.ownBlock = some k∨nv.ownBlock = some k→k < w.heap.size:=fun k hk=>(hmem k (by rw [hF];simpa using Or.inr hk)).2
 have hgF:g∈F∨g = w.heap.size + 1:=by
  rcases hb with hb | hb
  ·left;rw [hF];simp [← hb]
  ·right;omega
 refine ⟨P :: (wv.ownBlock.toList ++ ([g] ++ (hv.ownBlock.toList ++ nv.ownBlock.toList))),⟨wv,.slice (some ⟨g,0,none⟩) (s.vars.length + 1) cap,hv,nv,set6 hP3 _,hB,?_,?_,?_,?_,rfl,?_⟩,⟨hg.os,hg.tape,hg.output,?_,?_,?_⟩⟩
 ·exact ownsRow_of_eq h1 (fun k hk=>hkeep k (hlt k (by simp [hk])) (fun e=>by have:=hap;grind) (fun e=>(hap.1 k (by simp [hk])) e))
 ·exact ownsRow_of_eq (own_cast hown (by simp) (by simp [bc])) (fun k hk=>Below.heap_setCell _ _ _ _ (by simp [Value.ownBlock] at hk;subst hk;exact hgP))
 ·exact ownsRow_of_eq h3 (fun k hk=>hkeep k (hlt k (by simp [hk])) (fun e=>by have:=hap;grind) (fun e=>(hap.1 k (by simp [hk])) e))
 ·exact ownsRow_of_eq h4 (fun k hk=>hkeep k (hlt k (by simp [hk])) (fun e=>by have:=hap;grind) (fun e=>(hap.1 k (by simp [hk])) e))
 ·rw [hF] at hN
  rcases hb with hb | hb
  ·have e:vv.ownBlock.toList = [g]:=by rw [← hb];rfl
   rw [e] at hN;exact hN
  ·refine nd_vars hN ?_
   intro hm
   have:=hlt g (by simpa using Or.resolve_left (List.mem_cons.1 hm) hgP |> fun z=>(by grind))
   omega
 ·have:=hg.size;simp [World.setCell];omega
 ·intro k hk hkF
  exact hkeep k hk (fun e=>hkF (by rw [hF];simp [e])) (fun e=>hkF (by rw [hF,e];simp))
 ·intro k hk
  rw [hF]
  rw [hF] at hgF
  grind
theorem IsPv.pushHid {w3:World} {o:Obj} {g cap:Nat} (x:UInt8) (h:IsPv B WV w P ws s F wv vv hv nv) (hg:(w.alloc o).grownBy w3 hv.ownBlock)
  (hown:w3.ownsRow B 5 1 (.slice (some ⟨g,0,none⟩) (s.hid.length + 1) cap) (s.hid.length + 1) (bc s.hid ++ [.int .u8 (x.toNat:Int)]))
  (hb:some g = hv.ownBlock∨g = (w.alloc o).heap.size) :
  ∃ F',IsP B WV (w3.setCell ⟨P,4,none⟩ (.slice (some ⟨g,0,none⟩) (s.hid.length + 1) cap)) P ws { s with hid:=s.hid ++ [x] } F'∧Stp F w F' (w3.setCell ⟨P,4,none⟩ (.slice (some ⟨g,0,none⟩) (s.hid.length + 1) cap)):=by
 have hap:=h.apart
 have hmem:=h.is.mem
 have hsz:(w.alloc o).heap.size = w.heap.size + 1:=by simp
 obtain ⟨hP,hB,h1,h2,h3,h4,hF,hN⟩:=h
 have hPl:P < w.heap.size:=(hmem P (by rw [hF];simp)).2
 have hgP:g≠P:=by
  rcases hb with hb | hb
  ·exact hap.1 g (by simp [← hb])
  ·omega
 have hkeep:∀ k,k < w.heap.size→hv.ownBlock≠some k→k≠P→(w3.setCell ⟨P,4,none⟩ (.slice (some ⟨g,0,none⟩) (s.hid.length + 1) cap)).heap[k]? = w.heap[k]?:=by
  intro k hk hne hkP
  rw [Below.heap_setCell _ _ _ _ hkP,hg.block k (by omega) (fun e=>hne e.symm),Below.heap_alloc _ _ _ hk]
 have hP3:w3.heap[P]? = some (.cells #[wv,.int .i64 s.pos,.bool s.failed,vv,hv,nv] 133 (0,0)):=by
  rw [hg.block P (by omega) (fun e=>(hap.1 P (by simp [← e])) rfl),Below.heap_alloc _ _ _ hPl];exact hP
 have hlt:∀ k,wv.ownBlock = some k∨vv.ownBlock = some k∨hv.ownBlock = some k∨nv.ownBlock = some k→k < w.heap.size:=fun k hk=>(hmem k (by rw [hF];simpa using Or.inr hk)).2
 have hgF:g∈F∨g = w.heap.size + 1:=by
  rcases hb with hb | hb
  ·left;rw [hF];simp [← hb]
  ·right;omega
 refine ⟨P :: (wv.ownBlock.toList ++ (vv.ownBlock.toList ++ ([g] ++ nv.ownBlock.toList))),⟨wv,vv,.slice (some ⟨g,0,none⟩) (s.hid.length + 1) cap,nv,set6 hP3 _,hB,?_,?_,?_,?_,rfl,?_⟩,⟨hg.os,hg.tape,hg.output,?_,?_,?_⟩⟩
 ·exact ownsRow_of_eq h1 (fun k hk=>hkeep k (hlt k (by simp [hk])) (fun e=>by have:=hap;grind) (fun e=>(hap.1 k (by simp [hk])) e))
 ·exact ownsRow_of_eq h2 (fun k hk=>hkeep k (hlt k (by simp [hk])) (fun e=>by have:=hap;grind) (fun e=>(hap.1 k (by simp [hk])) e))
 ·exact ownsRow_of_eq (own_cast hown (by simp) (by simp [bc])) (fun k hk=>Below.heap_setCell _ _ _ _ (by simp [Value.ownBlock] at hk;subst hk;exact hgP))
 ·exact ownsRow_of_eq h4 (fun k hk=>hkeep k (hlt k (by simp [hk])) (fun e=>by have:=hap;grind) (fun e=>(hap.1 k (by simp [hk])) e))
 ·rw [hF] at hN
  rcases hb with hb | hb
  ·have e:hv.ownBlock.toList = [g]:=by rw [← hb];rfl
   rw [e] at hN;exact hN
  ·refine nd_hid hN ?_
   intro hm
   have:=hlt g (by simpa using Or.resolve_left (List.mem_cons.1 hm) hgP |> fun z=>(by grind))
   omega
 ·have:=hg.size;simp [World.setCell];omega
 ·intro k hk hkF
  exact hkeep k hk (fun e=>hkF (by rw [hF];simp [e])) (fun e=>hkF (by rw [hF,e];simp))
 ·intro k hk
  rw [hF]
  rw [hF] at hgF
  grind
theorem IsPv.pushNodes {w3:World} {o:Obj} {g cap:Nat} (x:Nd) (h:IsPv B WV w P ws s F wv vv hv nv) (hg:(w.alloc o).grownBy w3 nv.ownBlock)
  (hown:w3.ownsRow B 186 6 (.slice (some ⟨g,0,none⟩) (s.nodes.length + 1) cap) (s.nodes.length + 1) (ndCells s.nodes ++ x.cells))
  (hb:some g = nv.ownBlock∨g = (w.alloc o).heap.size) :
  ∃ F',IsP B WV (w3.setCell ⟨P,5,none⟩ (.slice (some ⟨g,0,none⟩) (s.nodes.length + 1) cap)) P ws { s with nodes:=s.nodes ++ [x] } F'∧Stp F w F' (w3.setCell ⟨P,5,none⟩ (.slice (some ⟨g,0,none⟩) (s.nodes.length + 1) cap)):=by
 have hap:=h.apart
 have hmem:=h.is.mem
 have hsz:(w.alloc o).heap.size = w.heap.size + 1:=by simp
 obtain ⟨hP,hB,h1,h2,h3,h4,hF,hN⟩:=h
 have hPl:P < w.heap.size:=(hmem P (by rw [hF];simp)).2
 have hgP:g≠P:=by
  rcases hb with hb | hb
  ·exact hap.1 g (by simp [← hb])
  ·omega
 have hkeep:∀ k,k < w.heap.size→nv.ownBlock≠some k→k≠P→(w3.setCell ⟨P,5,none⟩ (.slice (some ⟨g,0,none⟩) (s.nodes.length + 1) cap)).heap[k]? = w.heap[k]?:=by
  intro k hk hne hkP
  rw [Below.heap_setCell _ _ _ _ hkP,hg.block k (by omega) (fun e=>hne e.symm),Below.heap_alloc _ _ _ hk]
 have hP3:w3.heap[P]? = some (.cells #[wv,.int .i64 s.pos,.bool s.failed,vv,hv,nv] 133 (0,0)):=by
  rw [hg.block P (by omega) (fun e=>(hap.1 P (by simp [← e])) rfl),Below.heap_alloc _ _ _ hPl];exact hP
 have hlt:∀ k,wv.ownBlock = some k∨vv.ownBlock = some k∨hv.ownBlock = some k∨nv.ownBlock = some k→k < w.heap.size:=fun k hk=>(hmem k (by rw [hF];simpa using Or.inr hk)).2
 have hgF:g∈F∨g = w.heap.size + 1:=by
  rcases hb with hb | hb
  ·left;rw [hF];simp [← hb]
  ·right;omega
 refine ⟨P :: (wv.ownBlock.toList ++ (vv.ownBlock.toList ++ (hv.ownBlock.toList ++ [g]))),⟨wv,vv,hv,.slice (some ⟨g,0,none⟩) (s.nodes.length + 1) cap,set6 hP3 _,hB,?_,?_,?_,?_,rfl,?_⟩,⟨hg.os,hg.tape,hg.output,?_,?_,?_⟩⟩
 ·exact ownsRow_of_eq h1 (fun k hk=>hkeep k (hlt k (by simp [hk])) (fun e=>by have:=hap;grind) (fun e=>(hap.1 k (by simp [hk])) e))
 ·exact ownsRow_of_eq h2 (fun k hk=>hkeep k (hlt k (by simp [hk])) (fun e=>by have:=hap;grind) (fun e=>(hap.1 k (by simp [hk])) e))
 ·exact ownsRow_of_eq h3 (fun k hk=>hkeep k (hlt k (by simp [hk])) (fun e=>by have:=hap;grind) (fun e=>(hap.1 k (by simp [hk])) e))
 ·exact ownsRow_of_eq (own_cast hown (by simp) (by simp [ndCells])) (fun k hk=>Below.heap_setCell _ _ _ _ (by simp [Value.ownBlock] at hk;subst hk;exact hgP))
 ·rw [hF] at hN
  rcases hb with hb | hb
  ·have e:nv.ownBlock.toList = [g]:=by rw [← hb];rfl
   rw [e] at hN;exact hN
  ·refine nd_nodes hN ?_
   intro hm
   have:=hlt g (by simpa using Or.resolve_left (List.mem_cons.1 hm) hgP |> fun z=>(by grind))
   omega
 ·have:=hg.size;simp [World.setCell];omega
 ·intro k hk hkF
  exact hkeep k hk (fun e=>hkF (by rw [hF];simp [e])) (fun e=>hkF (by rw [hF,e];simp))
 ·intro k hk
  rw [hF]
  rw [hF] at hgF
  grind
end
def hd0 (u:ByteArray):UInt8:=u.data.toList.headD 0
def put (l:List UInt8) (c:UInt8):List UInt8:=if plc l c = l.length then l ++ [c] else l
def vaI (ws:List ByteArray) (s:PS):Nat:=if lowB (pk ws s) then plc s.vars (hd0 (pk ws s)) else 0
def vaS (ws:List ByteArray) (s:PS):PS:=if lowB (pk ws s) then { s with pos:=s.pos + 1,vars:=put s.vars (hd0 (pk ws s)) } else s.fail
theorem hd0_at {u:ByteArray} (h:0 < u.size):hd0 u = u[0]:=by
 obtain ⟨⟨l⟩⟩:=u
 match l,h with
 | c :: r,_=>rfl
theorem lowB_size {u:ByteArray} (h:lowB u = true):u.size = 1:=by
 by_cases hs:u.size = 1
 ·exact hs
 ·rw [lowB_not u hs] at h;cases h
theorem put_le (l:List UInt8) (c:UInt8):(put l c).length≤l.length + 1:=by unfold put;split <;> simp
theorem Tryz.infoNode:(Tryz.prog.info? 186).map (fun i=>(i.zero,i.size,i.bytes)) = some (some (.agg #[.int .i64 0,.int .i64 0,.int .i64 0,.int .i64 0,.int .i64 0,.int .i64 0]),6,48):=by kernel_rfl
section
variable {B:Nat} {WV:Value} {w:World} {P:Nat} {ws:List ByteArray} {s:PS} {F:List Nat} {wv vv hv nv:Value}
theorem Fit.va (h:Fit ws s) (hp:s.pos < ws.length) (c:UInt8):Fit ws { s with pos:=s.pos + 1,vars:=put s.vars c }:=by
 obtain ⟨a,b,d,e⟩:=h
 have:=put_le s.vars c
 simp only [Fit];omega
theorem IsPv.readsV (h:IsPv B WV w P ws s F wv vv hv nv):w.cell? ⟨P,1,none⟩ = some (.int .i64 s.pos)∧w.cell? ⟨P,2,none⟩ = some (.bool s.failed)∧w.cell? ⟨P,3,none⟩ = some vv∧w.cell? ⟨P,4,none⟩ = some hv∧w.cell? ⟨P,5,none⟩ = some nv∧(∀ j,w.frozen? ⟨P,j,none⟩ = false):=by
 obtain ⟨hP,_⟩:=h
 obtain ⟨⟨c0,c1,c2,c3,c4,c5⟩,fz⟩:=cells6 hP
 exact ⟨c1,c2,c3,c4,c5,fz⟩
theorem own_da {e:TypeId} {v:Value} {sz n:Nat} {xs:List Value} (h:w.ownsRow B e sz v n xs) (k:Nat) (o:Obj):((w.drewN k).alloc o).ownsRow B e sz v n xs:=World.ownsRow.alloc (w:=w.drewN k) h o
theorem one_da (w:World) (k:Nat) (x:Value) (T:TypeId):∀ (j:Nat) (u:Value),[x][j]? = some u→((w.drewN k).alloc (.cells #[x] T)).cell? ((⟨w.heap.size,0,none⟩:Addr).add j) = some u:=one_new (w.drewN k) x T
theorem oneCell_u8 (n:Int):∀ u∈[Value.int .u8 n],u.oneCell' = true:=by intro u hu;simp at hu;subst hu;rfl
theorem le_da {B:Nat} (h:B≤w.heap.size) (k:Nat) (o:Obj):B≤((w.drewN k).alloc o).heap.size:=by simp;omega
theorem grown_block {w2:World} {o:Obj} {row:Option Nat} {k:Nat} (hg:((w.drewN k).alloc o).grownBy w2 row) (hP:P < w.heap.size) (hne:row≠some P):w2.heap[P]? = w.heap[P]?:=by
 rw [hg.block P (by simp;omega) (fun e=>hne e.symm)];exact Below.heap_alloc (w.drewN k) _ _ hP
theorem grown_cell {w2:World} {o:Obj} {row:Option Nat} {k:Nat} (hg:((w.drewN k).alloc o).grownBy w2 row) (hP:P < w.heap.size) (hne:row≠some P) (j:Nat) {v:Value} (h:w.cell? ⟨P,j,none⟩ = some v):w2.cell? ⟨P,j,none⟩ = some v :=
 (World.cell?_of_block (a:=⟨P,j,none⟩) (grown_block hg hP hne)).trans h
theorem grown_frozen {w2:World} {o:Obj} {row:Option Nat} {k:Nat} (hg:((w.drewN k).alloc o).grownBy w2 row) (hP:P < w.heap.size) (hne:row≠some P) (j:Nat) {b:Bool} (h:w.frozen? ⟨P,j,none⟩ = b):w2.frozen? ⟨P,j,none⟩ = b :=
 (World.frozen?_of_block (a:=⟨P,j,none⟩) (grown_block hg hP hne)).trans h
theorem place_quiet {n j:Nat} {v:Value} {l:List UInt8} {c:UInt8} (hj:j = plc l c) (h:w.ownsRow B 5 1 v l.length (bc l)) (hl:l.length≤20000) :
  Calls Tryz.prog 212 #[v,.int .u8 (c.toNat:Int)] (w.drewN n) fun e w''=>e = .returned (.int .i64 j)∧∃ m,w'' = w.drewN m:=by
 subst hj
 exact Calls.quiet_of_same (place_any (B:=B) (w:=w.drewN n) c h hl)
set_option maxRecDepth 100000 in
set_option maxHeartbeats 2000000 in
theorem variable_any (h:IsQ B WV w P ws s F) :
  Calls Tryz.prog 215 #[.pointer (some ⟨P,0,none⟩)] w fun e w'=>e = .returned (.int .i64 (vaI ws s))∧∃ F',IsQ B WV w' P ws (vaS ws s) F'∧Stp F w F' w':=by
 obtain ⟨i0,hi,hz0,hz1,hz2⟩:=info_parts Tryz.infoByte
 have HQ:=hide h
 have HK:=hide (peek_any h)
 obtain ⟨wv,vv,hv,nv,hpv⟩:=h.m.named
 obtain ⟨hl,hp,hvl,hhl⟩:=h.f
 clear h
 obtain ⟨u,hu⟩:∃ u,u = pk ws s:=⟨_,rfl⟩
 have HU:=hide hu
 rw [← hu] at HK
 clear hu
 cases hlow:lowB u with
 | false =>
  have HI:Hid (vaI ws s = 0):=hide (by unfold vaI;rw [← uh HU,hlow];rfl)
  have HS:Hid (vaS ws s = s.fail):=hide (by unfold vaS;rw [← uh HU,hlow];rfl)
  obtain ⟨c1,c2,c3,c4,c5,fz⟩:=hpv.readsV
  have f2:=fz 2
  clear c1 c3 c4 c5 fz hpv
  go_enter Tryz.func215,Tryz.ntmps215
  go_wp2_with (first | (go_at_call 160;refine (uh HK).mono ?_;rintro e w' ⟨rfl,n,rfl⟩) | (go_at_call 248;refine (isVariable_any u _).mono ?_;rintro e w' ⟨rfl,rfl⟩))
  go_ret
  exact ⟨ret_int (by rw [uh HI];rfl),F,⟨by rw [uh HS];exact ((uh HQ).m.drewN n).setFailed true,by rw [uh HS];exact (uh HQ).f⟩,((Stp.refl F w).drewN n).setCell (Or.inl (uh HQ).m.memP) _⟩
 | true =>
  have hus:0 < u.size:=by rw [lowB_size hlow];omega
  have HI:Hid (vaI ws s = plc s.vars u[0]):=hide (by unfold vaI;rw [← uh HU,hlow,if_pos rfl,hd0_at hus])
  have HS:Hid (vaS ws s = { s with pos:=s.pos + 1,vars:=put s.vars u[0] }):=hide (by unfold vaS;rw [← uh HU,hlow,if_pos rfl,hd0_at hus])
  have hlt:s.pos < ws.length:=(pk_lt (by rw [← uh HU];omega)).2
  have hple:=plc_le s.vars u[0]
  obtain ⟨j,hj⟩:∃ j,j = plc s.vars u[0]:=⟨_,rfl⟩
  have HJ:=hide hj
  rw [← hj] at hple
  clear hj
  obtain ⟨ao,cap,rfl,hm,_⟩:=bytes_of_own hpv.2.2.2.1
  obtain ⟨c1,c2,c3,c4,c5,fz⟩:=hpv.readsV
  have f1:=fz 1
  have HPV:=hide hpv
  clear fz c2 c3 c4 c5 hpv
  go_enter Tryz.func215,Tryz.ntmps215
  go_wp2_with (first | (go_at_call 160;refine (uh HK).mono ?_;rintro e w' ⟨rfl,n,rfl⟩) | (go_at_call 248;refine (isVariable_any u _).mono ?_;rintro e w' ⟨rfl,rfl⟩))
  have hpv1:=((uh HPV).drewN n).setPos (s.pos + 1)
  have hst1:Stp F w F ((w.drewN n).setCell ⟨P,1,none⟩ (.int .i64 ((s.pos:Int) + 1))):=((Stp.refl F w).drewN n).setCell (Or.inl (uh HQ).m.memP) _
  rw [show (((s.pos + 1:Nat)):Int) = (s.pos:Int) + 1 by omega] at hpv1
  generalize (w.drewN n).setCell ⟨P,1,none⟩ (.int .i64 ((s.pos:Int) + 1)) = w1 at hpv1 hst1 ⊢
  clear c1 f1
  obtain ⟨_,_,c3,_,_,fz⟩:=hpv1.readsV
  have f3:=fz 3
  have hrow:=hpv1.2.2.2.1
  have HR:=hide hrow
  have HV1:=hide hpv1
  have HST:=hide hst1
  clear fz hpv1 hst1 hrow
  have hPl:P < w1.heap.size:=((uh HV1).is.mem P (uh HV1).is.memP).2
  have hBs:B≤w1.heap.size:=by have:=((uh HV1).is.mem P (uh HV1).is.memP).1;omega
  have HNP:Hid ((Value.slice ao s.vars.length cap).ownBlock≠some P):=hide (fun e=>(uh HV1).apart.1 P (by simp [e]) rfl)
  by_cases hjl:j = s.vars.length
  ·have hjt:((j:Int) == (s.vars.length:Int)) = true:=by simp [hjl]
   have HJL:=hide hjl
   clear hjl
   have c3a:∀ (k:Nat) (o:Obj),((w1.drewN k).alloc o).cell? ⟨P,3,none⟩ = some (.slice ao s.vars.length cap):=fun k o=>(World.cell?_of_block (a:=⟨P,3,none⟩) (Below.heap_alloc (w1.drewN k) o P hPl)).trans c3
   go_quiet ((go_at_call 212;exact place_quiet (uh HJ) (uh HR) (by omega)))
   go_wp2_with fail
   go_region_law (refine step_app1 _ rfl (.tmp 38) (.tmp 41) 101 rfl B 5 i0 (.int .u8 0) 1 1 Tryz.underlying101 hi hz0 hz1 hz2 rfl (by decide) (.slice ao s.vars.length cap) s.vars.length (bc s.vars) (by simp [Act.eval]) (own_da (uh HR) _ _) ⟨w1.heap.size,0,none⟩ 1 [.int .u8 (u[0].toNat:Int)] (by simp [Act.eval]) rfl (one_da _ _ _ _) (oneCell_u8 _) (by omega) (by omega) (le_da hBs _ _) ?_;intro g2 cap2 w2 hown2 hgrow2 hblk2;have c3':=grown_cell hgrow2 hPl (uh HNP) 3 c3;have f3':=grown_frozen hgrow2 hPl (uh HNP) 3 f3;have HO2:=hide hown2;have HG2:=hide hgrow2;have HB2:=hide hblk2;clear hown2 hgrow2 hblk2)
   all_goals
    go_wp2_with fail
    go_ret
    obtain ⟨F',hI',hS'⟩:=IsPv.pushVars u[0] ((uh HV1).drewN _) (uh HG2) (uh HO2) (uh HB2)
    refine ⟨ret_int (by rw [uh HI,← uh HJ]),F',⟨?_,?_⟩,((uh HST).drewN _).trans hS'⟩
    ·rw [uh HS];unfold put;rw [if_pos (by rw [← uh HJ];exact uh HJL)];exact hI'
    ·rw [uh HS];exact (uh HQ).f.va hlt _
  ·have hjt:((j:Int) == (s.vars.length:Int)) = false:=by simp;omega
   have HJL:=hide hjl
   clear hjl
   go_quiet ((go_at_call 212;exact place_quiet (uh HJ) (uh HR) (by omega)))
   go_wp2_with fail
   go_ret
   refine ⟨ret_int (by rw [uh HI,← uh HJ]),F,⟨?_,?_⟩,(uh HST).drewN _⟩
   ·rw [uh HS];unfold put;rw [if_neg (by rw [← uh HJ];exact uh HJL)];exact (uh HV1).is.drewN _
   ·rw [uh HS];exact (uh HQ).f.va hlt _
end
def kNil:ByteArray:=⟨#[110,105,108]⟩
def valK (ws:List ByteArray) (s:PS):Nat:=if acB ws kNil s then 0 else 1
def valI (ws:List ByteArray) (s:PS):Nat:=if acB ws kNil s then 0 else vaI ws s
def valS (ws:List ByteArray) (s:PS):PS:=if acB ws kNil s then s.adv else vaS ws s
section
variable {B:Nat} {WV:Value} {w:World} {P:Nat} {ws:List ByteArray} {s:PS} {F:List Nat}
theorem loc_new {w1:World} {F':List Nat} {xs:Array Value} {T:TypeId} (h0:IsP B WV w P ws s F) (hS:Stp F (w.alloc (.cells xs T)) F' w1) :
  w1.heap[w.heap.size]? = some (.cells xs T (0,0))∧w.heap.size ∉ F'∧w.heap.size < w1.heap.size:=by
 have hn:w.heap.size ∉ F:=fun hm=>by have:=(h0.mem _ hm).2;omega
 refine ⟨?_,?_,?_⟩
 ·rw [hS.block _ (by simp) hn];exact heap_alloc_new w _
 ·intro hm
  rcases hS.foot _ hm with h | h
  ·exact hn h
  ·simp at h;omega
 ·have:=hS.size;simp at this;omega
theorem loc_keep {w0 w1:World} {F':List Nat} {r:Nat} {o:Obj} (hr:w0.heap[r]? = some o) (hn:r ∉ F) (hS:Stp F w0 F' w1):w1.heap[r]? = some o∧r ∉ F'∧r < w1.heap.size:=by
 have hl:=(Array.getElem?_eq_some_iff.1 hr).1
 refine ⟨?_,?_,?_⟩
 ·rw [hS.block _ hl hn];exact hr
 ·intro hm
  rcases hS.foot _ hm with h | h
  ·exact hn h
  ·omega
 ·have:=hS.size;omega
theorem cells2 {r:Nat} {a b:Value} {T:TypeId} (h:w.heap[r]? = some (.cells #[a,b] T (0,0))):(w.cell? ⟨r,0,none⟩ = some a∧w.cell? ⟨r,1,none⟩ = some b)∧w.frozen? ⟨r,0,none⟩ = false∧w.frozen? ⟨r,1,none⟩ = false:=by
 refine ⟨⟨?_,?_⟩,?_,?_⟩ <;> simp [World.cell?,World.frozen?,h]
theorem IsQ.alloc (h:IsQ B WV w P ws s F) (o:Obj):IsQ B WV (w.alloc o) P ws s F:=⟨h.m.alloc o,h.f⟩
theorem IsQ.setOther (h:IsQ B WV w P ws s F) {p:Addr} (hp:p.block ∉ F) (u:Value):IsQ B WV (w.setCell p u) P ws s F:=⟨h.m.setOther hp u,h.f⟩
set_option maxRecDepth 100000 in
set_option maxHeartbeats 2000000 in
theorem value_any (h:IsQ B WV w P ws s F) :
  Calls Tryz.prog 213 #[.pointer (some ⟨P,0,none⟩)] w fun e w'=>e = .returned (.agg #[.int .i64 (valK ws s),.int .i64 (valI ws s)])∧∃ F',IsQ B WV w' P ws (valS ws s) F'∧Stp F w F' w':=by
 have HQ:=hide h
 have HA:=fun o=>hide (accept_any kNil (by decide) (h.alloc o))
 clear h
 cases hb:acB ws kNil s with
 | true =>
  have HK:Hid (valK ws s = 0):=hide (if_pos hb)
  have HI:Hid (valI ws s = 0):=hide (if_pos hb)
  have HS:Hid (valS ws s = acS ws kNil s):=hide (by unfold valS acS;rw [if_pos hb,if_pos hb])
  simp only [hb] at HA
  clear hb
  go_enter Tryz.func213,Tryz.ntmps213
  go_wp2_with (go_at_call 158;refine (uh (HA _)).mono ?_;rintro e w' ⟨rfl,hI,hS⟩;obtain ⟨hb,hn,hl⟩:=loc_new (uh HQ).m hS;obtain ⟨⟨d0,d1⟩,e0,e1⟩:=cells2 hb;have HI2:=hide hI;have HS2:=hide hS;clear hI hS hb)
  refine bodyPost_ret (v:=.agg #[.int .i64 0,.int .i64 0]) (by simp [results,Tryz.results213,go_sem,d0,d1]) rfl ⟨by rw [uh HK,uh HI];rfl,F,?_,?_⟩
  ·rw [uh HS];exact ((uh HI2).setOther hn _).setOther hn _
  ·exact ((((Stp.refl F w).alloc _).trans (uh HS2)).setCell (Or.inr (Nat.le_refl _)) _).setCell (Or.inr (Nat.le_refl _)) _
 | false =>
  have HK:Hid (valK ws s = 1):=hide (if_neg (by simp [hb]))
  have HI:Hid (valI ws s = vaI ws s):=hide (if_neg (by simp [hb]))
  have HS:Hid (valS ws s = vaS ws s):=hide (if_neg (by simp [hb]))
  have HS0:Hid (acS ws kNil s = s):=hide (if_neg (by simp [hb]))
  simp only [hb] at HA
  clear hb
  go_enter Tryz.func213,Tryz.ntmps213
  go_wp2_with (go_at_call 158;refine (uh (HA _)).mono ?_;rintro e w' ⟨rfl,hI,hS⟩;obtain ⟨hb,hn,hl⟩:=loc_new (uh HQ).m hS;rw [uh HS0] at hI;have HI2:=hide hI;have HS2:=hide hS;have HB:=hide hb;clear hI hS hb)
  refine (variable_any (uh HI2)).mono ?_
  rintro e w2 ⟨rfl,F',hI3,hS3⟩
  obtain ⟨hb3,hn3,hl3⟩:=loc_keep (uh HB) hn hS3
  obtain ⟨⟨d0,d1⟩,e0,e1⟩:=cells2 hb3
  have HI3:=hide hI3
  have HS3:=hide hS3
  clear hI3 hS3 hb3
  go_wp2_with fail
  refine bodyPost_ret (v:=.agg #[.int .i64 1,.int .i64 (vaI ws s)]) (by simp [results,Tryz.results213,go_sem,d0,d1]) rfl ⟨by rw [uh HK,uh HI];rfl,F',?_,?_⟩
  ·rw [uh HS];exact ((uh HI3).setOther hn3 _).setOther hn3 _
  ·exact (((((Stp.refl F w).alloc _).trans (uh HS2)).trans (uh HS3)).setCell (Or.inr (Nat.le_refl _)) _).setCell (Or.inr (Nat.le_refl _)) _
end
def teK (ws:List ByteArray) (s:PS):Nat:=if upB (pk ws s) then 2 else valK ws s
def teI (ws:List ByteArray) (s:PS):Nat:=if upB (pk ws s) then plc s.hid (hd0 (pk ws s)) else valI ws s
def teS (ws:List ByteArray) (s:PS):PS:=if upB (pk ws s) then { s with pos:=s.pos + 1,hid:=put s.hid (hd0 (pk ws s)) } else valS ws s
theorem upB_size {u:ByteArray} (h:upB u = true):u.size = 1:=by
 by_cases hs:u.size = 1
 ·exact hs
 ·rw [upB_not u hs] at h;cases h
section
variable {B:Nat} {WV:Value} {w:World} {P:Nat} {ws:List ByteArray} {s:PS} {F:List Nat} {wv vv hv nv:Value}
theorem Fit.te (h:Fit ws s) (hp:s.pos < ws.length) (c:UInt8):Fit ws { s with pos:=s.pos + 1,hid:=put s.hid c }:=by
 obtain ⟨a,b,d,e⟩:=h
 have:=put_le s.hid c
 simp only [Fit];omega
set_option maxRecDepth 100000 in
set_option maxHeartbeats 2000000 in
theorem term_any (h:IsQ B WV w P ws s F) :
  Calls Tryz.prog 184 #[.pointer (some ⟨P,0,none⟩)] w fun e w'=>e = .returned (.agg #[.int .i64 (teK ws s),.int .i64 (teI ws s)])∧∃ F',IsQ B WV w' P ws (teS ws s) F'∧Stp F w F' w':=by
 obtain ⟨i0,hi,hz0,hz1,hz2⟩:=info_parts Tryz.infoByte
 have HQ:=hide h
 obtain ⟨w0,hw0⟩:∃ w0,w0 = w.alloc (.cells #[.int .i64 0,.int .i64 0] 184):=⟨_,rfl⟩
 have h0:IsQ B WV w0 P ws s F:=by rw [hw0];exact h.alloc _
 have HS00:Hid (Stp F w F w0):=hide (by rw [hw0];exact (Stp.refl F w).alloc _)
 have HB0:Hid (w0.heap[w.heap.size]? = some (.cells #[.int .i64 0,.int .i64 0] 184 (0,0))):=hide (by rw [hw0];exact heap_alloc_new w _)
 have HN0:Hid (w.heap.size ∉ F):=hide (fun hm=>by have:=(h.m.mem _ hm).2;omega)
 have HW0:=hide hw0
 clear hw0
 have HQ0:=hide h0
 have HK:=hide (peek_any h0)
 obtain ⟨wv,vv,hv,nv,hpv⟩:=h0.m.named
 obtain ⟨hl,hp,hvl,hhl⟩:=h.f
 clear h h0
 obtain ⟨u,hu⟩:∃ u,u = pk ws s:=⟨_,rfl⟩
 have HU:=hide hu
 rw [← hu] at HK
 clear hu
 cases hlow:upB u with
 | false =>
  have HIK:Hid (teK ws s = valK ws s):=hide (by unfold teK;rw [← uh HU,hlow];rfl)
  have HII:Hid (teI ws s = valI ws s):=hide (by unfold teI;rw [← uh HU,hlow];rfl)
  have HS:Hid (teS ws s = valS ws s):=hide (by unfold teS;rw [← uh HU,hlow];rfl)
  clear hpv
  go_enter Tryz.func184,Tryz.ntmps184
  go_wp2_with (first | (rw [← uh HW0];go_at_call 160;refine (uh HK).mono ?_;rintro e w' ⟨rfl,n,rfl⟩) | (go_at_call 211;refine (isHidden_any u _).mono ?_;rintro e w' ⟨rfl,rfl⟩))
  refine (value_any (w:=w0.drewN n) ⟨(uh HQ0).m.drewN n,(uh HQ0).f⟩).mono ?_
  rintro e w2 ⟨rfl,F',hI3,hS3⟩
  obtain ⟨hb3,hn3,hl3⟩:=loc_keep (w0:=w0.drewN n) (uh HB0) (uh HN0) hS3
  obtain ⟨⟨d0,d1⟩,e0,e1⟩:=cells2 hb3
  have HI3:=hide hI3
  have HS3:=hide hS3
  clear hI3 hS3 hb3
  go_wp2_with fail
  refine bodyPost_ret (v:=.agg #[.int .i64 (valK ws s),.int .i64 (valI ws s)]) (by simp [results,Tryz.results184,go_sem,d0,d1]) rfl ⟨by rw [uh HIK,uh HII],F',?_,?_⟩
  ·rw [uh HS];exact ((uh HI3).setOther hn3 _).setOther hn3 _
  ·exact ((((uh HS00).drewN n).trans (uh HS3)).setCell (Or.inr (Nat.le_refl _)) _).setCell (Or.inr (Nat.le_refl _)) _
 | true =>
  have hus:0 < u.size:=by rw [upB_size hlow];omega
  have HIK:Hid (teK ws s = 2):=hide (by unfold teK;rw [← uh HU,hlow,if_pos rfl])
  have HI:Hid (teI ws s = plc s.hid u[0]):=hide (by unfold teI;rw [← uh HU,hlow,if_pos rfl,hd0_at hus])
  have HS:Hid (teS ws s = { s with pos:=s.pos + 1,hid:=put s.hid u[0] }):=hide (by unfold teS;rw [← uh HU,hlow,if_pos rfl,hd0_at hus])
  have hlt:s.pos < ws.length:=(pk_lt (by rw [← uh HU];omega)).2
  have hple:=plc_le s.hid u[0]
  obtain ⟨j,hj⟩:∃ j,j = plc s.hid u[0]:=⟨_,rfl⟩
  have HJ:=hide hj
  rw [← hj] at hple
  clear hj
  obtain ⟨ao,cap,rfl,hm,_⟩:=bytes_of_own hpv.2.2.2.2.1
  obtain ⟨c1,c2,c3,c4,c5,fz⟩:=hpv.readsV
  have f1:=fz 1
  have HPV:=hide hpv
  clear fz c2 c3 c4 c5 hpv
  go_enter Tryz.func184,Tryz.ntmps184
  go_wp2_with (first | (rw [← uh HW0];go_at_call 160;refine (uh HK).mono ?_;rintro e w' ⟨rfl,n,rfl⟩) | (go_at_call 211;refine (isHidden_any u _).mono ?_;rintro e w' ⟨rfl,rfl⟩))
  have hpv1:=((uh HPV).drewN n).setPos (s.pos + 1)
  have hst1:Stp F w0 F ((w0.drewN n).setCell ⟨P,1,none⟩ (.int .i64 ((s.pos:Int) + 1))):=((Stp.refl F w0).drewN n).setCell (Or.inl (uh HQ).m.memP) _
  rw [show (((s.pos + 1:Nat)):Int) = (s.pos:Int) + 1 by omega] at hpv1
  generalize (w0.drewN n).setCell ⟨P,1,none⟩ (.int .i64 ((s.pos:Int) + 1)) = w1 at hpv1 hst1 ⊢
  clear c1 f1
  obtain ⟨hb1,hn1,hl1⟩:=loc_keep (uh HB0) (uh HN0) hst1
  have HB1:=hide hb1
  clear hb1
  obtain ⟨_,_,_,c4,_,fz⟩:=hpv1.readsV
  have f4:=fz 4
  have hrow:=hpv1.2.2.2.2.1
  have HR:=hide hrow
  have HV1:=hide hpv1
  have HST:=hide hst1
  clear fz hpv1 hst1 hrow
  have hPl:P < w1.heap.size:=((uh HV1).is.mem P (uh HV1).is.memP).2
  have hBs:B≤w1.heap.size:=by have:=((uh HV1).is.mem P (uh HV1).is.memP).1;omega
  have HNP:Hid ((Value.slice ao s.hid.length cap).ownBlock≠some P):=hide (fun e=>(uh HV1).apart.1 P (by simp [e]) rfl)
  by_cases hjl:j = s.hid.length
  ·have hjt:((j:Int) == (s.hid.length:Int)) = true:=by simp [hjl]
   have HJL:=hide hjl
   clear hjl
   have c4a:∀ (k:Nat) (o:Obj),((w1.drewN k).alloc o).cell? ⟨P,4,none⟩ = some (.slice ao s.hid.length cap):=fun k o=>(World.cell?_of_block (a:=⟨P,4,none⟩) (Below.heap_alloc (w1.drewN k) o P hPl)).trans c4
   go_quiet ((go_at_call 212;exact place_quiet (uh HJ) (uh HR) (by omega)))
   go_wp2_with fail
   go_region_law (refine step_app1 _ rfl (.tmp 34) (.tmp 37) 101 rfl B 5 i0 (.int .u8 0) 1 1 Tryz.underlying101 hi hz0 hz1 hz2 rfl (by decide) (.slice ao s.hid.length cap) s.hid.length (bc s.hid) (by simp [Act.eval]) (own_da (uh HR) _ _) ⟨w1.heap.size,0,none⟩ 1 [.int .u8 (u[0].toNat:Int)] (by simp [Act.eval]) rfl (one_da _ _ _ _) (oneCell_u8 _) (by omega) (by omega) (le_da hBs _ _) ?_;intro g2 cap2 w2 hown2 hgrow2 hblk2;have c4':=grown_cell hgrow2 hPl (uh HNP) 4 c4;have f4':=grown_frozen hgrow2 hPl (uh HNP) 4 f4;obtain ⟨F',hI',hS'⟩:=IsPv.pushHid u[0] ((uh HV1).drewN _) hgrow2 hown2 hblk2;have HI':=hide hI';have HS':=hide hS';clear hown2 hgrow2 hblk2 hI' hS')
   all_goals
    obtain ⟨hb3,hn3,hl3⟩:=loc_keep (w0:=w1.drewN _) (uh HB1) hn1 (uh HS')
    generalize hw3:World.setCell _ (⟨P,4,none⟩:Addr) _ = w3 at HI' HS' hb3 hl3 ⊢
    obtain ⟨⟨d0,d1⟩,e0,e1⟩:=cells2 hb3
    clear hb3 hw3
    go_wp2_with fail
    refine bodyPost_ret (v:=.agg #[.int .i64 2,.int .i64 j]) (by simp [results,Tryz.results184,go_sem,d0,d1]) rfl ⟨by rw [uh HIK,uh HI,← uh HJ];rfl,F',⟨?_,?_⟩,?_⟩
    ·rw [uh HS];unfold put;rw [if_pos (by rw [← uh HJ];exact uh HJL)];exact ((uh HI').setOther hn3 _).setOther hn3 _
    ·rw [uh HS];exact (uh HQ).f.te hlt _
    ·exact ((((uh HS00).trans ((uh HST).drewN _)).trans (uh HS')).setCell (Or.inr (Nat.le_refl _)) _).setCell (Or.inr (Nat.le_refl _)) _
  ·have hjt:((j:Int) == (s.hid.length:Int)) = false:=by simp;omega
   have HJL:=hide hjl
   clear hjl
   obtain ⟨⟨d0,d1⟩,e0,e1⟩:=cells2 (uh HB1)
   go_quiet ((go_at_call 212;exact place_quiet (uh HJ) (uh HR) (by omega)))
   go_wp2_with fail
   refine bodyPost_ret (v:=.agg #[.int .i64 2,.int .i64 j]) (by simp [results,Tryz.results184,go_sem,d0,d1]) rfl ⟨by rw [uh HIK,uh HI,← uh HJ];rfl,F,⟨?_,?_⟩,?_⟩
   ·rw [uh HS];unfold put;rw [if_neg (by rw [← uh HJ];exact uh HJL)];exact (((uh HV1).is.drewN _).setOther hn1 _).setOther hn1 _
   ·rw [uh HS];exact (uh HQ).f.te hlt _
   ·exact ((((uh HS00).trans (uh HST)).drewN _).setCell (Or.inr (Nat.le_refl _)) _).setCell (Or.inr (Nat.le_refl _)) _
end
def kEq:ByteArray:=⟨#[61]⟩
def kNe:ByteArray:=⟨#[33,61]⟩
def kTo:ByteArray:=⟨#[45,62]⟩
def kOpen:ByteArray:=⟨#[40]⟩
def kComma:ByteArray:=⟨#[44]⟩
def kClose:ByteArray:=⟨#[41]⟩
def kEmp:ByteArray:=⟨#[101,109,112]⟩
def kLs:ByteArray:=⟨#[108,115]⟩
def kStar:ByteArray:=⟨#[42]⟩
def relK (ws:List ByteArray) (s:PS):Nat:=if acB ws kEq s then 1 else if acB ws kNe s then 2 else 3
def relS (ws:List ByteArray) (s:PS):PS:=if acB ws kEq s then s.adv else if acB ws kNe s then s.adv else exS ws kTo s
structure Atm where
 k:Nat
 lk:Nat
 li:Nat
 rk:Nat
 ri:Nat
def Atm.cells (a:Atm):List Value:=[.int .i64 a.k,.int .i64 a.lk,.int .i64 a.li,.int .i64 a.rk,.int .i64 a.ri]
section
variable {B:Nat} {WV:Value} {w:World} {P:Nat} {ws:List ByteArray} {s:PS} {F:List Nat} {wv vv hv nv:Value}
set_option maxRecDepth 100000 in
set_option maxHeartbeats 2000000 in
theorem relation_any (h:IsQ B WV w P ws s F) :
  Calls Tryz.prog 185 #[.pointer (some ⟨P,0,none⟩)] w fun e w'=>e = .returned (.int .i64 (relK ws s))∧IsQ B WV w' P ws (relS ws s) F∧Stp F w F w':=by
 have HQ:=hide h
 have HA:=hide (accept_any kEq (by decide) h)
 clear h
 cases hb:acB ws kEq s with
 | true =>
  have HK:Hid (relK ws s = 1):=hide (if_pos hb)
  have HS:Hid (relS ws s = acS ws kEq s):=hide (by unfold relS acS;rw [if_pos hb,if_pos hb])
  simp only [hb] at HA
  clear hb
  go_enter Tryz.func185,Tryz.ntmps185
  go_wp2_with (go_at_call 158;refine (uh HA).mono ?_;rintro e w' ⟨rfl,hI,hS⟩)
  go_ret
  exact ⟨ret_int (by rw [uh HK];rfl),by rw [uh HS];exact hI,hS⟩
 | false =>
  have HS0:Hid (acS ws kEq s = s):=hide (if_neg (by simp [hb]))
  simp only [hb] at HA
  cases hb2:acB ws kNe s with
  | true =>
   have HK:Hid (relK ws s = 2):=hide (by unfold relK;rw [hb,hb2];rfl)
   have HS:Hid (relS ws s = acS ws kNe s):=hide (by unfold relS acS;rw [hb,hb2];rfl)
   have HB2:=hide hb2
   clear hb hb2
   go_enter Tryz.func185,Tryz.ntmps185
   go_wp2_with fail
   refine (uh HA).mono ?_
   rintro e w1 ⟨rfl,hI,hS⟩
   rw [uh HS0] at hI
   have HA2:=accept_any kNe (by decide) hI
   rw [uh HB2] at HA2
   have HA2:=hide HA2
   clear hI
   have HS1:=hide hS
   clear hS
   go_wp2_with fail
   refine (uh HA2).mono ?_
   rintro e w2 ⟨rfl,hI2,hS2⟩
   go_wp2_with fail
   go_ret
   exact ⟨ret_int (by rw [uh HK];rfl),by rw [uh HS];exact hI2,(uh HS1).trans hS2⟩
  | false =>
   have HK:Hid (relK ws s = 3):=hide (by unfold relK;rw [hb,hb2];rfl)
   have HS:Hid (relS ws s = exS ws kTo s):=hide (by unfold relS;rw [hb,hb2];rfl)
   have HS02:Hid (acS ws kNe s = s):=hide (if_neg (by simp [hb2]))
   have HB2:=hide hb2
   clear hb hb2
   go_enter Tryz.func185,Tryz.ntmps185
   go_wp2_with fail
   refine (uh HA).mono ?_
   rintro e w1 ⟨rfl,hI,hS⟩
   rw [uh HS0] at hI
   have HA2:=accept_any kNe (by decide) hI
   rw [uh HB2,uh HS02] at HA2
   have HA2:=hide HA2
   clear hI
   have HS1:=hide hS
   clear hS
   go_wp2_with fail
   refine (uh HA2).mono ?_
   rintro e w2 ⟨rfl,hI2,hS2⟩
   have HE:=hide (expect_any kTo (by decide) hI2)
   clear hI2
   go_wp2_with fail
   refine (uh HE).mono ?_
   rintro e w3 ⟨rfl,hI3,hS3⟩
   go_wp2_with fail
   go_ret
   exact ⟨ret_int (by rw [uh HK];rfl),by rw [uh HS];exact hI3,((uh HS1).trans hS2).trans hS3⟩
theorem cells5 {r:Nat} {a b c d e:Value} {T:TypeId} (h:w.heap[r]? = some (.cells #[a,b,c,d,e] T (0,0))) :
  (w.cell? ⟨r,0,none⟩ = some a∧w.cell? ⟨r,1,none⟩ = some b∧w.cell? ⟨r,2,none⟩ = some c∧w.cell? ⟨r,3,none⟩ = some d∧w.cell? ⟨r,4,none⟩ = some e) ∧
  w.frozen? ⟨r,0,none⟩ = false∧w.frozen? ⟨r,1,none⟩ = false∧w.frozen? ⟨r,2,none⟩ = false∧w.frozen? ⟨r,3,none⟩ = false∧w.frozen? ⟨r,4,none⟩ = false:=by
 refine ⟨⟨?_,?_,?_,?_,?_⟩,?_,?_,?_,?_,?_⟩ <;> simp [World.cell?,World.frozen?,h]
def liS1 (ws:List ByteArray) (s:PS):PS:=exS ws kOpen s
def liS2 (ws:List ByteArray) (s:PS):PS:=exS ws kComma (teS ws (liS1 ws s))
def liS (ws:List ByteArray) (s:PS):PS:=exS ws kClose (teS ws (liS2 ws s))
def liA (ws:List ByteArray) (s:PS):Atm:=⟨4,teK ws (liS1 ws s),teI ws (liS1 ws s),teK ws (liS2 ws s),teI ws (liS2 ws s)⟩
set_option maxRecDepth 100000 in
set_option maxHeartbeats 2000000 in
theorem list_any (h:IsQ B WV w P ws s F) :
  Calls Tryz.prog 183 #[.pointer (some ⟨P,0,none⟩)] w fun e w'=>e = .returned (.agg (liA ws s).cells.toArray)∧∃ F',IsQ B WV w' P ws (liS ws s) F'∧Stp F w F' w':=by
 have HQ:=hide h
 have HA:=fun o=>hide (expect_any kOpen (by decide) (h.alloc o))
 clear h
 go_enter Tryz.func183,Tryz.ntmps183
 go_wp2_with fail
 refine (uh (HA _)).mono ?_
 rintro e w1 ⟨rfl,hI1,hS1⟩
 obtain ⟨hb1,hn1,hl1⟩:=loc_new (uh HQ).m hS1
 have HB1:=hide hb1
 have HI1:=hide hI1
 have HS1:=hide (((Stp.refl F w).alloc _).trans hS1)
 clear hb1 hI1 hS1
 go_wp2_with fail
 refine (term_any (uh HI1)).mono ?_
 rintro e w2 ⟨rfl,F2,hI2,hS2⟩
 obtain ⟨hb2,hn2,hl2⟩:=loc_keep (uh HB1) hn1 hS2
 have HB2:=hide hb2
 have HI2:=hide hI2
 have HS2:=hide ((uh HS1).trans hS2)
 clear hb2 hI2 hS2
 go_wp2_with fail
 refine (expect_any kComma (by decide) ((uh HI2).alloc _)).mono ?_
 rintro e w3 ⟨rfl,hI3,hS3⟩
 obtain ⟨hb3,hn3,hl3⟩:=loc_keep (uh HB2) hn2 (((Stp.refl F2 w2).alloc _).trans hS3)
 obtain ⟨hc3,hm3,hk3⟩:=loc_new (uh HI2).m hS3
 have HB3:=hide hb3
 have HC3:=hide hc3
 have HI3:=hide hI3
 have HS3:=hide ((uh HS2).trans (((Stp.refl F2 w2).alloc _).trans hS3))
 clear hb3 hc3 hI3 hS3
 go_wp2_with fail
 refine (term_any (uh HI3)).mono ?_
 rintro e w4 ⟨rfl,F4,hI4,hS4⟩
 obtain ⟨hb4,hn4,hl4⟩:=loc_keep (uh HB3) hn3 hS4
 obtain ⟨hc4,hm4,hk4⟩:=loc_keep (uh HC3) hm3 hS4
 have HB4:=hide hb4
 have HC4:=hide hc4
 have HI4:=hide hI4
 have HS4:=hide ((uh HS3).trans hS4)
 clear hb4 hc4 hI4 hS4
 go_wp2_with fail
 refine (expect_any kClose (by decide) ((uh HI4).alloc _)).mono ?_
 rintro e w5 ⟨rfl,hI5,hS5⟩
 have hS5':=((Stp.refl F4 w4).alloc _).trans hS5
 obtain ⟨hb5,hn5,hl5⟩:=loc_keep (uh HB4) hn4 hS5'
 obtain ⟨hc5,hm5,hk5⟩:=loc_keep (uh HC4) hm4 hS5'
 obtain ⟨hd5,ho5,hp5⟩:=loc_new (uh HI4).m hS5
 obtain ⟨⟨a0,a1,a2,a3,a4⟩,g0,g1,g2,g3,g4⟩:=cells5 hb5
 obtain ⟨⟨d0,d1⟩,e0,e1⟩:=cells2 hc5
 obtain ⟨⟨x0,x1⟩,y0,y1⟩:=cells2 hd5
 have HI5:=hide hI5
 have HS5:=hide ((uh HS4).trans hS5')
 clear hb5 hc5 hd5 hI5 hS5 hS5'
 go_wp2_with fail
 refine bodyPost_ret (v:=.agg (liA ws s).cells.toArray) (by simp [results,Tryz.results183,go_sem,a0,a1,a2,a3,a4,liA,Atm.cells,liS1,liS2]) rfl ⟨rfl,F4,?_,?_⟩
 ·exact (((((uh HI5).setOther hn5 _).setOther hn5 _).setOther hn5 _).setOther hn5 _).setOther hn5 _
 ·exact (((((uh HS5).setCell (Or.inr (Nat.le_refl _)) _).setCell (Or.inr (Nat.le_refl _)) _).setCell (Or.inr (Nat.le_refl _)) _).setCell (Or.inr (Nat.le_refl _)) _).setCell (Or.inr (Nat.le_refl _)) _
end
def atS (ws:List ByteArray) (s:PS):PS:=if acB ws kEmp s then s.adv else if acB ws kLs s then liS ws s.adv else teS ws (relS ws (teS ws s))
def atA (ws:List ByteArray) (s:PS):Atm :=
 if acB ws kEmp s then ⟨0,0,0,0,0⟩ else if acB ws kLs s then liA ws s.adv else ⟨relK ws (teS ws s),teK ws s,teI ws s,teK ws (relS ws (teS ws s)),teI ws (relS ws (teS ws s))⟩
def atCells (l:List Atm):List Value:=l.flatMap Atm.cells
def foG (ws:List ByteArray):Nat→PS→List Atm × PS
 | 0,s=>([],s)
 | n + 1,s=>if acB ws kStar s then (atA ws s.adv :: (foG ws n (atS ws s.adv)).1,(foG ws n (atS ws s.adv)).2) else ([],s)
def foA (ws:List ByteArray) (s:PS):List Atm:=atA ws s :: (foG ws (ws.length + 1) (atS ws s)).1
def foS (ws:List ByteArray) (s:PS):PS:=(foG ws (ws.length + 1) (atS ws s)).2
section
variable {ws:List ByteArray} {s:PS}
theorem adv_pos:s.pos≤s.adv.pos:=Nat.le_succ _
theorem exS_pos (k:ByteArray):s.pos≤(exS ws k s).pos:=by unfold exS;split;exact adv_pos;exact Nat.le_refl _
theorem vaS_pos:s.pos≤(vaS ws s).pos:=by unfold vaS;split;exact Nat.le_succ _;exact Nat.le_refl _
theorem valS_pos:s.pos≤(valS ws s).pos:=by unfold valS;split;exact adv_pos;exact vaS_pos
theorem teS_pos:s.pos≤(teS ws s).pos:=by unfold teS;split;exact Nat.le_succ _;exact valS_pos
theorem relS_pos:s.pos≤(relS ws s).pos:=by unfold relS;split;exact adv_pos;split;exact adv_pos;exact exS_pos _
theorem liS_pos:s.pos≤(liS ws s).pos:=by
 unfold liS liS2 liS1
 exact Nat.le_trans (Nat.le_trans (Nat.le_trans (Nat.le_trans (exS_pos _) teS_pos) (exS_pos _)) teS_pos) (exS_pos _)
theorem atS_pos:s.pos≤(atS ws s).pos:=by
 unfold atS;split
 ·exact adv_pos
 ·split
  ·exact Nat.le_trans adv_pos liS_pos
  ·exact Nat.le_trans (Nat.le_trans teS_pos relS_pos) teS_pos
end
section
variable {B:Nat} {WV:Value} {w:World} {P:Nat} {ws:List ByteArray} {s:PS} {F:List Nat} {wv vv hv nv:Value}
set_option maxRecDepth 100000 in
set_option maxHeartbeats 2000000 in
theorem atom_any (h:IsQ B WV w P ws s F) :
  Calls Tryz.prog 159 #[.pointer (some ⟨P,0,none⟩)] w fun e w'=>e = .returned (.agg (atA ws s).cells.toArray)∧∃ F',IsQ B WV w' P ws (atS ws s) F'∧Stp F w F' w':=by
 have HQ:=hide h
 have HA:=fun o=>hide (accept_any kEmp (by decide) (h.alloc o))
 clear h
 cases hb:acB ws kEmp s with
 | true =>
  have HK:Hid (atA ws s = ⟨0,0,0,0,0⟩):=hide (if_pos hb)
  have HS:Hid (atS ws s = acS ws kEmp s):=hide (by unfold atS acS;rw [if_pos hb,if_pos hb])
  simp only [hb] at HA
  clear hb
  go_enter Tryz.func159,Tryz.ntmps159
  go_wp2_with fail
  refine (uh (HA _)).mono ?_
  rintro e w1 ⟨rfl,hI1,hS1⟩
  obtain ⟨hb1,hn1,hl1⟩:=loc_new (uh HQ).m hS1
  obtain ⟨⟨a0,a1,a2,a3,a4⟩,g0,g1,g2,g3,g4⟩:=cells5 hb1
  have HI1:=hide hI1
  have HS1:=hide (((Stp.refl F w).alloc _).trans hS1)
  clear hb1 hI1 hS1
  go_wp2_with fail
  refine bodyPost_ret (v:=.agg #[.int .i64 0,.int .i64 0,.int .i64 0,.int .i64 0,.int .i64 0]) (by simp [results,Tryz.results159,go_sem,a0,a1,a2,a3,a4]) rfl ⟨by rw [uh HK];rfl,F,?_,?_⟩
  ·rw [uh HS];exact (((((uh HI1).setOther hn1 _).setOther hn1 _).setOther hn1 _).setOther hn1 _).setOther hn1 _
  ·exact (((((uh HS1).setCell (Or.inr (Nat.le_refl _)) _).setCell (Or.inr (Nat.le_refl _)) _).setCell (Or.inr (Nat.le_refl _)) _).setCell (Or.inr (Nat.le_refl _)) _).setCell (Or.inr (Nat.le_refl _)) _
 | false =>
  have HS0:Hid (acS ws kEmp s = s):=hide (if_neg (by simp [hb]))
  simp only [hb] at HA
  cases hb2:acB ws kLs s with
  | true =>
   have HK:Hid (atA ws s = liA ws s.adv):=hide (by unfold atA;rw [hb,hb2];rfl)
   have HS:Hid (atS ws s = liS ws s.adv):=hide (by unfold atS;rw [hb,hb2];rfl)
   have HS02:Hid (acS ws kLs s = s.adv):=hide (if_pos hb2)
   have HB2:=hide hb2
   clear hb hb2
   go_enter Tryz.func159,Tryz.ntmps159
   go_wp2_with fail
   refine (uh (HA _)).mono ?_
   rintro e w1 ⟨rfl,hI1,hS1⟩
   obtain ⟨hb1,hn1,hl1⟩:=loc_new (uh HQ).m hS1
   rw [uh HS0] at hI1
   have HB1:=hide hb1
   have HS1:=hide (((Stp.refl F w).alloc _).trans hS1)
   have HA2:=accept_any kLs (by decide) hI1
   rw [uh HB2,uh HS02] at HA2
   replace HA2:=hide HA2
   clear hb1 hI1 hS1
   go_wp2_with fail
   refine (uh HA2).mono ?_
   rintro e w2 ⟨rfl,hI2,hS2⟩
   obtain ⟨hb2,hn2,hl2⟩:=loc_keep (uh HB1) hn1 hS2
   have HB2:=hide hb2
   have HI2:=hide hI2
   have HS2:=hide ((uh HS1).trans hS2)
   clear hb2 hI2 hS2
   go_wp2_with fail
   refine (list_any (uh HI2)).mono ?_
   rintro e w3 ⟨rfl,F3,hI3,hS3⟩
   obtain ⟨hb3,hn3,hl3⟩:=loc_keep (uh HB2) hn2 hS3
   obtain ⟨⟨a0,a1,a2,a3,a4⟩,g0,g1,g2,g3,g4⟩:=cells5 hb3
   have HI3:=hide hI3
   have HS3:=hide ((uh HS2).trans hS3)
   clear hb3 hI3 hS3
   obtain ⟨k0,k1,k2,k3,k4,hat⟩:∃ k0 k1 k2 k3 k4,liA ws s.adv = ⟨k0,k1,k2,k3,k4⟩:=⟨_,_,_,_,_,rfl⟩
   rw [hat] at HK ⊢
   clear hat
   simp only [Atm.cells]
   go_wp2_with fail
   refine bodyPost_ret (v:=.agg #[.int .i64 k0,.int .i64 k1,.int .i64 k2,.int .i64 k3,.int .i64 k4]) (by simp [results,Tryz.results159,go_sem,a0,a1,a2,a3,a4]) rfl ⟨by rw [uh HK];rfl,F3,?_,?_⟩
   ·rw [uh HS];exact (((((uh HI3).setOther hn3 _).setOther hn3 _).setOther hn3 _).setOther hn3 _).setOther hn3 _
   ·exact (((((uh HS3).setCell (Or.inr (Nat.le_refl _)) _).setCell (Or.inr (Nat.le_refl _)) _).setCell (Or.inr (Nat.le_refl _)) _).setCell (Or.inr (Nat.le_refl _)) _).setCell (Or.inr (Nat.le_refl _)) _
  | false =>
   have HK:Hid (atA ws s = ⟨relK ws (teS ws s),teK ws s,teI ws s,teK ws (relS ws (teS ws s)),teI ws (relS ws (teS ws s))⟩):=hide (by unfold atA;rw [hb,hb2];rfl)
   have HS:Hid (atS ws s = teS ws (relS ws (teS ws s))):=hide (by unfold atS;rw [hb,hb2];rfl)
   have HS02:Hid (acS ws kLs s = s):=hide (if_neg (by simp [hb2]))
   have HB2:=hide hb2
   clear hb hb2
   go_enter Tryz.func159,Tryz.ntmps159
   go_wp2_with fail
   refine (uh (HA _)).mono ?_
   rintro e w1 ⟨rfl,hI1,hS1⟩
   obtain ⟨hb1,hn1,hl1⟩:=loc_new (uh HQ).m hS1
   rw [uh HS0] at hI1
   have HB1:=hide hb1
   have HS1:=hide (((Stp.refl F w).alloc _).trans hS1)
   have HA2:=accept_any kLs (by decide) hI1
   rw [uh HB2,uh HS02] at HA2
   replace HA2:=hide HA2
   clear hb1 hI1 hS1
   go_wp2_with fail
   refine (uh HA2).mono ?_
   rintro e w2 ⟨rfl,hI2,hS2⟩
   obtain ⟨hb2,hn2,hl2⟩:=loc_keep (uh HB1) hn1 hS2
   have HB2:=hide hb2
   have HI2:=hide hI2
   have HS2:=hide ((uh HS1).trans hS2)
   clear hb2 hI2 hS2
   go_wp2_with fail
   refine (term_any (uh HI2)).mono ?_
   rintro e w3 ⟨rfl,F3,hI3,hS3⟩
   obtain ⟨hb3,hn3,hl3⟩:=loc_keep (uh HB2) hn2 hS3
   have HB3:=hide hb3
   have HI3:=hide hI3
   have HS3:=hide ((uh HS2).trans hS3)
   clear hb3 hI3 hS3
   go_wp2_with fail
   refine (relation_any ((uh HI3).alloc _)).mono ?_
   rintro e w4 ⟨rfl,hI4,hS4⟩
   obtain ⟨hb4,hn4,hl4⟩:=loc_keep (uh HB3) hn3 (((Stp.refl F3 w3).alloc _).trans hS4)
   obtain ⟨hc4,hm4,hk4⟩:=loc_new (uh HI3).m hS4
   have HB4:=hide hb4
   have HC4:=hide hc4
   have HI4:=hide hI4
   have HS4:=hide ((uh HS3).trans (((Stp.refl F3 w3).alloc _).trans hS4))
   clear hb4 hc4 hI4 hS4
   go_wp2_with fail
   refine (term_any (uh HI4)).mono ?_
   rintro e w5 ⟨rfl,F5,hI5,hS5⟩
   obtain ⟨hb5,hn5,hl5⟩:=loc_keep (uh HB4) hn4 hS5
   obtain ⟨hc5,hm5,hk5⟩:=loc_keep (uh HC4) hm4 hS5
   obtain ⟨⟨a0,a1,a2,a3,a4⟩,g0,g1,g2,g3,g4⟩:=cells5 hb5
   obtain ⟨⟨d0,d1⟩,e0,e1⟩:=cells2 hc5
   have HI5:=hide hI5
   have HS5:=hide ((uh HS4).trans hS5)
   clear hb5 hc5 hI5 hS5
   go_wp2_with fail
   refine bodyPost_ret (v:=.agg #[.int .i64 (relK ws (teS ws s)),.int .i64 (teK ws s),.int .i64 (teI ws s),.int .i64 (teK ws (relS ws (teS ws s))),.int .i64 (teI ws (relS ws (teS ws s)))]) (by simp [results,Tryz.results159,go_sem,World.cell?_alloc_past,hl5,a0,a1,a2,a3,a4]) rfl ⟨by rw [uh HK];rfl,F5,?_,?_⟩
   ·rw [uh HS];exact ((((((uh HI5).setOther hn5 _).setOther hn5 _).setOther hn5 _).setOther hn5 _).setOther hn5 _).alloc _
   ·exact ((((((uh HS5).setCell (Or.inr (Nat.le_refl _)) _).setCell (Or.inr (Nat.le_refl _)) _).setCell (Or.inr (Nat.le_refl _)) _).setCell (Or.inr (Nat.le_refl _)) _).setCell (Or.inr (Nat.le_refl _)) _).alloc _
end
section
variable {P:Program} (w:World)
theorem wpList_app1 {ops:Array Oper} {rest:List Oper} {o:Oper} {a:Act} {Q:Exit→Act→World→Prop}
  (hg:o.guard = none) (s x:Operand) (t:TypeId) (hop:o.op = Op.call { callee:=Callee.builtin Builtin.append,args:=#[s,x],argTypes:=#[t,t] })
  (base:Nat) (e:TypeId) (i:TypeInfo) (z:Value) (size bytes:Nat) (ht:P.underlying t = some (.slice e)) (hi:P.info? e = some i) (hz:i.zero = some z)
  (hsize:i.size = size) (hby:i.bytes = bytes) (hzs:z.cells.size = size) (hsz:0 < size)
  (v:Value) (n:Nat) (xs:List Value) (hs:a.eval s = v) (hown:w.ownsRow base e size v n xs)
  (ad:Addr) (c:Nat) (news:List Value) (hx:a.eval x = .slice (some ad) 1 c) (hl:news.length = size) (hnews:∀ j u,news[j]? = some u→w.cell? (ad.add j) = some u) (h1:∀ u∈news,u.oneCell' = true)
  (h63:n + 1≤1000000) (hb:bytes≤1000) (hbase:base≤w.heap.size)
  (hK:∀ g cap w',w'.ownsRow base e size (.slice (some ⟨g,0,none⟩) (n + 1) cap) (n + 1) (xs ++ news)→w.grownBy w' v.ownBlock→(some g = v.ownBlock∨g = w.heap.size)→wpList P ops Q rest (a.put o.dst (.slice (some ⟨g,0,none⟩) (n + 1) cap)) w') :
  wpList P ops Q (o :: rest) a w:=by
 refine wpList_plain hg fun K hK'=>?_
 obtain ⟨v',w',hrun,r1,r2,r3,g,cap,rfl⟩:=run_app1 (P:=P) w base t o.type e i z size bytes ht hi hz hsize hby hzs hsz v n xs hown ad c news hl hnews h1 h63 hb hbase
 unfold Oper.wp
 simp [execOp,hop,resolve,invoke,builtin,hs,hx,hrun,Result.andThen]
 exact hK' _ _ (hK g cap w' r1 r2 (by simpa [Value.ownBlock] using r3))
end
theorem new_cells (w:World) (b:Nat) (hb:b = w.heap.size) (xs:List Value) (T:TypeId):∀ (j:Nat) (u:Value),xs[j]? = some u→(w.alloc (.cells xs.toArray T)).cell? ((⟨b,0,none⟩:Addr).add j) = some u:=by
 intro j u hj
 subst hb
 rw [show (⟨w.heap.size,0,none⟩:Addr).add j = ⟨w.heap.size,j,none⟩ by unfold Addr.add;split <;> simp_all]
 rw [World.cell?_alloc_mark]
 simpa using hj
theorem Atm.one (a:Atm):∀ u∈a.cells,u.oneCell' = true:=by
 intro u hu;simp [Atm.cells] at hu;rcases hu with rfl | rfl | rfl | rfl | rfl <;> rfl
theorem atCells_snoc (l:List Atm) (a:Atm):atCells (l ++ [a]) = atCells l ++ a.cells:=by simp [atCells]
theorem Tryz.infoAtom:(Tryz.prog.info? 239).map (fun i=>(i.zero,i.size,i.bytes)) = some (some (.agg #[.int .i64 0,.int .i64 0,.int .i64 0,.int .i64 0,.int .i64 0]),5,40):=by kernel_rfl
theorem own_one (w:World) (b B:Nat) (hb:b = w.heap.size) (hB:B≤w.heap.size) (T:TypeId) (sz:Nat) (xs:List Value) (hx:xs.length = sz):(w.alloc (.cells xs.toArray T)).ownsRow B T sz (.slice (some ⟨b,0,none⟩) 1 1) 1 xs:=by
 subst hb;subst hx
 exact ⟨by simp,.inr ⟨w.heap.size,1,xs.toArray,rfl,hB,heap_alloc_new w _,Nat.le_refl _,by decide,by simp,by simp⟩⟩
section
variable {B:Nat} {WV:Value} {w:World} {P:Nat} {ws:List ByteArray} {s:PS} {F:List Nat} {wv vv hv nv:Value}
theorem rowStep {w w':World} {B:Nat} {e:TypeId} {sz n:Nat} {v:Value} {xs:List Value} {F F':List Nat} (h:w.ownsRow B e sz v n xs) (hS:Stp F w F' w') (ho:∀ k,v.ownBlock = some k→k ∉ F):w'.ownsRow B e sz v n xs :=
 ownsRow_of_eq h (fun k hk=>hS.block k (h.lt k hk).2 (ho k hk))
theorem rowAlloc2 {w:World} {B:Nat} {e:TypeId} {sz n:Nat} {v:Value} {xs:List Value} (h:w.ownsRow B e sz v n xs) (o o':Obj):((w.alloc o).alloc o').ownsRow B e sz v n xs:=(h.alloc o).alloc o'
theorem form_step {wr w3 w4:World} {F2 F3:List Nat} {st':PS} {v:Value} {al:List Atm} {o o':Obj} {g n cap:Nat} (hS:Stp F w F2 wr) (hown:wr.ownsRow w.heap.size 239 5 v al.length (atCells al)) (hout:∀ k,v.ownBlock = some k→k ∉ F2)
  (hI3:IsQ B WV w3 P ws st' F3) (hS3:Stp F2 wr F3 w3) (hg:((w3.alloc o).alloc o').grownBy w4 v.ownBlock) (hb:some g = v.ownBlock∨g = w3.heap.size + 1 + 1) :
  IsQ B WV w4 P ws st' F3∧Stp F w F3 w4∧∀ k,(Value.slice (some ⟨g,0,none⟩) n cap).ownBlock = some k→k ∉ F3:=by
 have hnot:∀ k,v.ownBlock = some k→k ∉ F3:=by
  intro k hk hm
  rcases hS3.foot k hm with h | h
  ·exact hout k hk h
  ·have:=(hown.lt k hk).2;omega
 have hS3':=((hS.trans hS3).alloc o).alloc o'
 refine ⟨⟨((hI3.m.alloc o).alloc o').of_eq (fun k hk=>hg.block k (by have:=(hI3.m.mem k hk).2;simp;omega) (fun e=>hnot k e.symm hk)),hI3.f⟩,hS3'.grown hg (fun k hk=>Or.inr (hown.lt k hk).1),?_⟩
 intro k hk hm
 simp [Value.ownBlock] at hk
 subst hk
 rcases hb with hb | hb
 ·exact hnot g hb.symm hm
 ·have:=(hI3.m.mem g hm).2;omega
theorem foG_stop (n:Nat) (h:acB ws kStar s = false):foG ws n s = ([],s):=by
 cases n with
 | zero=>rfl
 | succ n=>simp [foG,h]
theorem foG_go (n:Nat) (h:acB ws kStar s = true):foG ws (n + 1) s = (atA ws s.adv :: (foG ws n (atS ws s.adv)).1,(foG ws n (atS ws s.adv)).2):=by simp [foG,h]
set_option maxRecDepth 100000 in
set_option maxHeartbeats 2000000 in
theorem formula_any (h:IsQ B WV w P ws s F) :
  Calls Tryz.prog 121 #[.pointer (some ⟨P,0,none⟩)] w fun e w'=>∃ v F',e = .returned v∧IsQ B WV w' P ws (foS ws s) F'∧Stp F w F' w' ∧
   w'.ownsRow w.heap.size 239 5 v (foA ws s).length (atCells (foA ws s))∧(∀ k,v.ownBlock = some k→k ∉ F'):=by
 obtain ⟨i0,hi,hz0,hz1,hz2⟩:=info_parts Tryz.infoAtom
 have HQ:=hide h
 obtain ⟨hl,_,_,_⟩:=h.f
 clear h
 go_enter Tryz.func121,Tryz.ntmps121
 go_wp2_with fail
 refine (atom_any (uh HQ)).mono ?_
 rintro e w1 ⟨rfl,F1,hI1,hS1⟩
 have HI1:=hide hI1
 have HS1:=hide hS1
 clear hI1 hS1
 obtain ⟨A0,hA0⟩:∃ A0,A0 = atA ws s:=⟨_,rfl⟩
 have HA0:=hide hA0
 rw [← hA0]
 clear hA0
 obtain ⟨k0,k1,k2,k3,k4⟩:=A0
 simp only [Atm.cells]
 go_wp2_with fail
 go_loopg [4] (ws.length + 1) (fun m v wr=>∃ (st:PS) (al:List Atm) (F2:List Nat),IsQ B WV wr P ws st F2∧Stp F w F2 wr∧wr.ownsRow w.heap.size 239 5 v al.length (atCells al)∧(∀ k,v.ownBlock = some k→k ∉ F2)∧al.length≤st.pos + 1 ∧
  Hid (ws.length < m + st.pos∧foA ws s = al ++ (foG ws m st).1∧foS ws s = (foG ws m st).2))
 case atStart =>
  refine ⟨atS ws s,[⟨k0,k1,k2,k3,k4⟩],F1,((uh HI1).alloc _).alloc _,((uh HS1).alloc _).alloc _,?_,?_,by simp,?_⟩
  ·have hsz1:=(uh HS1).size
   exact own_cast (own_one (w1.alloc _) (w1.heap.size + 1) w.heap.size (by simp) (by simp;omega) _ 5 [.int .i64 k0,.int .i64 k1,.int .i64 k2,.int .i64 k3,.int .i64 k4] rfl) rfl (by simp [atCells,Atm.cells])
  ·intro k hk hm
   simp [Value.ownBlock] at hk
   have:=((uh HI1).m.mem k hm).2
   omega
  ·exact ⟨by omega,by rw [foA,← uh HA0];rfl,rfl⟩
 case round =>
  obtain ⟨st,al,F2,hI,hS,hown,hout,hlen,hhid⟩:=hrel
  obtain ⟨_,hpos,_,_⟩:=hI.f
  have HI:=hide hI
  have HS:=hide hS
  have HOWN:=hide hown
  have HOUT:=hide hout
  have HA:=accept_any kStar (by decide) hI
  clear hI hS hown hout
  cases hb:acB ws kStar st with
  | false =>
   have HS0:Hid (acS ws kStar st = st):=hide (if_neg (by simp [hb]))
   rw [hb,uh HS0] at HA
   replace HA:=hide HA
   have HB:=hide hb
   clear hb
   go_wp2_with fail
   refine (uh HA).mono ?_
   rintro e w2 ⟨rfl,hI2,hS2⟩
   have HI2:=hide hI2
   have HS2:=hide hS2
   clear hI2 hS2
   go_wp2_with fail
   go_ret
   obtain ⟨_,hfa,hfs⟩:=uh hhid
   rw [foG_stop _ (uh HB)] at hfa hfs
   refine ⟨_,F2,rfl,by rw [hfs];exact uh HI2,(uh HS).trans (uh HS2),?_,uh HOUT⟩
   rw [hfa,List.append_nil]
   exact ownsRow_of_eq (uh HOWN) (fun k hk=>(uh HS2).block k ((uh HOWN).lt k hk).2 (uh HOUT k hk))
  | true =>
   have HS0:Hid (acS ws kStar st = st.adv):=hide (if_pos hb)
   rw [hb,uh HS0] at HA
   replace HA:=hide HA
   have HB:=hide hb
   have hplt:st.pos < ws.length:=acB_lt (by decide) hb
   clear hb
   go_wp2_with fail
   refine (uh HA).mono ?_
   rintro e w2 ⟨rfl,hI2,hS2⟩
   have HI2:=hide hI2
   have HS2:=hide hS2
   clear hI2 hS2
   go_wp2_with fail
   refine (atom_any (uh HI2)).mono ?_
   rintro e w3 ⟨rfl,F3,hI3,hS3⟩
   have HI3:=hide hI3
   have HS3:=hide ((uh HS2).trans hS3)
   clear hI3 hS3
   obtain ⟨A1,hA1⟩:∃ A1,A1 = atA ws st.adv:=⟨_,rfl⟩
   have HA1:=hide hA1
   rw [← hA1]
   clear hA1
   obtain ⟨j0,j1,j2,j3,j4⟩:=A1
   simp only [Atm.cells]
   go_wp2_with (at_builtin;refine wpList_app1 _ rfl (.tmp 14) (.tmp 16) 102 rfl w.heap.size 239 i0 _ 5 40 Tryz.underlying102 hi hz0 hz1 hz2 rfl (by decide) _ al.length (atCells al) rfl (rowAlloc2 (rowStep (uh HOWN) (uh HS3) (uh HOUT)) _ _) ⟨_,0,none⟩ 1 [.int .i64 j0,.int .i64 j1,.int .i64 j2,.int .i64 j3,.int .i64 j4] rfl rfl ?c1 ?c2 ?c3 ?c4 ?c5 ?_)
   case c1=>exact new_cells (w3.alloc _) _ (by simp) [.int .i64 j0,.int .i64 j1,.int .i64 j2,.int .i64 j3,.int .i64 j4] _
   case c2=>exact Atm.one ⟨j0,j1,j2,j3,j4⟩
   case c3=>omega
   case c4=>omega
   case c5=>have:=(uh HS).size;have:=(uh HS3).size;simp;omega
   intro g cap w4 hown4 hgrow4 hblk4
   have R:=form_step (n:=al.length + 1) (cap:=cap) (uh HS) (uh HOWN) (uh HOUT) (uh HI3) (uh HS3) hgrow4 hblk4
   have HR:=hide R
   have HO4:=hide hown4
   clear R hown4 hgrow4 hblk4
   go_wp2_with fail
   obtain ⟨hfm,hfa,hfs⟩:=uh hhid
   obtain ⟨m,rfl⟩:∃ m,gk = m + 1:=⟨gk - 1,by omega⟩
   rw [foG_go _ (uh HB),← uh HA1] at hfa hfs
   go_roundg m
   case measure=>omega
   case rel =>
    have hp2:=atS_pos (ws:=ws) (s:=st.adv)
    have hpa:st.adv.pos = st.pos + 1:=rfl
    refine ⟨atS ws st.adv,al ++ [⟨j0,j1,j2,j3,j4⟩],F3,(uh HR).1,(uh HR).2.1,?_,(uh HR).2.2,by simp;omega,⟨by omega,?_,hfs⟩⟩
    ·exact own_cast (uh HO4) (by simp) (by rw [atCells_snoc];rfl)
    ·rw [hfa];simp
end
end Go.Proofs.YtciihepbeacppaaGreat
