import Derived.Test.YtciihepbeacppaaGreatWX
import Derived.Test.YtciihepbeacppaaGreatM00
namespace Go.Proofs.YtciihepbeacppaaGreat
open Go.RowKit
set_option linter.unusedVariables false
def IsL (B:Nat) (w:World) (X:Nat) (ws:List ByteArray) (s:PS) (al:List Atm):Prop :=
 ∃ Q,w.heap[X]? = some (.cells #[.pointer (some ⟨Q,0,none⟩),.pointer none] 88 (0,0))∧B≤X∧IsC B w Q ws s al
theorem IsC.alloc {B:Nat} {w:World} {Q:Nat} {ws:List ByteArray} {s:PS} {al:List Atm} (h:IsC B w Q ws s al) (o:Obj):IsC B (w.alloc o) Q ws s al:=by
 obtain ⟨vv,pv,nv,h0,hB,h1,h2,h3⟩:=h
 exact ⟨vv,pv,nv,by rw [Below.heap_alloc _ _ _ (Array.getElem?_eq_some_iff.1 h0).1];exact h0,hB,h1.alloc o,h2.alloc o,h3.alloc o⟩
set_option maxRecDepth 100000 in
set_option maxHeartbeats 1000000 in
theorem load_any (s:ByteArray) (w:World) (hs:s.size≤20000) :
  Calls Tryz.prog 25 #[.string s] w fun e w'=>Below w.heap.size w w' ∧
   ((rdE s.data.toList≠0∧e = .returned (.tuple #[.pointer none,.int .i64 (rdE s.data.toList)])) ∨
    (rdE s.data.toList = 0∧∃ X,e = .returned (.tuple #[.pointer (some ⟨X,0,none⟩),.int .i64 0])∧IsL w.heap.size w' X (rdW s.data.toList) (rdS s.data.toList) (prA (rdW s.data.toList) ini))):=by
 go_enter Tryz.func25,Tryz.ntmps25
 go_wp2_with fail
 refine (read_any s w hs).mono ?_
 rintro e w1 ⟨hbl,(⟨hne,rfl⟩ | ⟨h0,Q,rfl,hc⟩)⟩
 ·have hbf:(((rdE s.data.toList:Nat):Int) != 0) = true:=by rw [bne_iff_ne];omega
  have HN:=hide hne
  clear hne
  go_wp2_with fail
  go_ret2
  exact ⟨hbl,Or.inl ⟨uh HN,rfl⟩⟩
 ·have H0:=hide h0
  have HC:=hide hc
  clear h0 hc
  go_wp2_with fail
  go_ret2
  have hz:=hbl.size
  exact ⟨hbl.alloc hz _,Or.inr ⟨uh H0,w1.heap.size,rfl,Q,heap_alloc_new w1 _,hz,(uh HC).alloc _⟩⟩
def eqW (a b:ByteArray):Bool:=a.toList == b.toList
end Go.Proofs.YtciihepbeacppaaGreat
