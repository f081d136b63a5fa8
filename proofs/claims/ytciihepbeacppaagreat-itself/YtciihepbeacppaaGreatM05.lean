import Derived.Test.YtciihepbeacppaaGreatWX
set_option maxRecDepth 100000
set_option maxHeartbeats 0
namespace Go.Proofs.YtciihepbeacppaaGreat
open Tryz Go.RowKit World Below
set_option linter.unusedVariables false
def IsL(B:Nat)(w:World)(X:Nat)(ws:List ByteArray)(s:PS)(al:List bC):Prop :=
 ∃Q,w.heap[X]?=some (.cells #[.pointer (some ⟨Q,0,none⟩),.pointer none] 88 (0,0))/\B<=X/\XR B w Q ws s al
theorem XR.alloc{B:Nat}{w:World}{Q:Nat}{ws:List ByteArray}{s:PS}{al:List bC}(h:XR B w Q ws s al)(o:Obj):XR B (w.alloc o) Q ws s al:=by
 obtain⟨vv,pv,nv,h0,hB,h1,h2,h3⟩:=h;exact⟨vv,pv,nv,by rw[heap_alloc _ _ _ (Array.getElem?_eq_some_iff.1 h0).1];exact h0,hB,h1.alloc o,h2.alloc o,h3.alloc o⟩
theorem OR(s:ByteArray)(w:World)(hs:s.size<=20000):
  Calls prog 25 #[.string s] w λe w'=>Below w.heap.size w w' /\
   ((lJ s.data.toList≠0/\e=.returned (.tuple #[.pointer none,.int .i64 (lJ s.data.toList)])) \/
    (lJ s.data.toList=0/\∃X,e=.returned (.tuple #[.pointer (some ⟨X,0,none⟩),.int .i64 0])/\IsL w.heap.size w' X (bN s.data.toList) (b7 s.data.toList) (fZ (bN s.data.toList) bY))):=by
 go_enter func25,ntmps25;go_wp2_with fail
 refine(PM s w hs).mono ?_;rintro e w1 ⟨bS,(⟨aJ,rfl⟩|⟨h0,Q,rfl,hc⟩)⟩
 .have Za:(((lJ s.data.toList:Nat):Int) != 0)=true:=by rw[bne_iff_ne];omega
  have HN:=ab aJ;clear aJ;go_wp2_with fail
  go_ret2;exact⟨bS,zq0 ⟨uh HN,rfl⟩⟩
 .have H0:=ab h0;have HC:=ab hc;clear h0 hc;go_wp2_with fail
  go_ret2;have hz:=bS.size;exact⟨bS.alloc hz _,zq1 ⟨uh H0,w1.heap.size,rfl,Q,heap_alloc_new w1 _,hz,(uh HC).alloc _⟩⟩
def bO(a b:ByteArray):Bool:=a.toList==b.toList
def fy:ByteArray:=⟨#[110,105,108]⟩
def dl(u:ByteArray):Bool:=bO u fy||aX u||lz u
def Eb:List ByteArray->ByteArray->Nat
 |[],_=>0
 |x::r,k=>if bO x k then 0 else Eb r k+1
def amI(l:List ByteArray)(c:ByteArray):Int:=if Eb l c<l.length then Eb l c else -1
def em:ByteArray:=⟨#[]⟩
def cJ:ByteArray:=⟨#[42]⟩
def bV:ByteArray:=⟨#[61]⟩
def dN:ByteArray:=⟨#[33,61]⟩
def rcB(l:List ByteArray):Bool:=match l with
 |[a]=>bO a cJ
 |[a,b,c]=>aX a&&(aX c||bO c fy)&&(bO b bV||bO b dN)
 |_=>false
structure oQ where
 k:ByteArray
 a:ByteArray
 b:ByteArray
def oQ.cells(i:oQ):List Value:=[.string i.k,.string i.a,.string i.b]
def qE:ByteArray:=⟨#[101,109,112]⟩
def jU:ByteArray:=⟨#[108,115]⟩
def kS:ByteArray:=⟨#[45,62]⟩
def Xd:ByteArray:=⟨#[40]⟩
def Sj:ByteArray:=⟨#[44]⟩
def QU:ByteArray:=⟨#[41]⟩
theorem Mx:qE.toList=[101,109,112]:=ByteArray.toList_eq _
theorem WZ:jU.toList=[108,115]:=ByteArray.toList_eq _
def sm(l:List ByteArray):Bool:=match l with
 |[a]=>bO a qE
 |[a,b,c]=>dl a&&dl c&&(bO b bV||bO b dN||bO b kS)
 |[a,b,c,d,e,f]=>bO a jU&&bO b Xd&&bO d Sj&&bO f QU&&(dl c&&dl e)
 |_=>false
def raE(l:List ByteArray):Bool:=match l with|[_]=>true|_=>false
def raA(l:List ByteArray):oQ:=match l with
 |[a,b,c]=>⟨b,a,c⟩
 |[_,_,c,_,e,_]=>⟨jU,c,e⟩
 |_=>⟨em,em,em⟩
def Iq(l:List oQ):List Value:=l.flatMap oQ.cells
def Rh(l:List ByteArray):List oQ:=if raE l then [] else [raA l]
def vM:List ByteArray->List ByteArray->Option (List oQ)
 |cur,[]=>if sm cur then some (Rh cur) else none
 |cur,x::r=>if bO x cJ then (if sm cur then (vM [] r).map (Rh cur++·) else none) else vM (cur++[x]) r
theorem oH(w:World)(b:Nat)(hb:b=w.heap.size)(xs:List Value)(T:TypeId):∀(j:Nat) (u:Value),xs[j]?=some u->(w.alloc (.cells xs.toArray T)).cell? ((⟨b,0,none⟩:Addr).add j)=some u:=by
 intro j u hj;subst hb;rw[show(⟨w.heap.size,0,none⟩:Addr).add j=⟨w.heap.size,j,none⟩ by unfold Addr.add;split <;> simp_all];rw[cell?_alloc_mark];simpa using hj
