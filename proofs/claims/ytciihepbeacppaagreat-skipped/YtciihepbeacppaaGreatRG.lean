import Derived.Test.YtciihepbeacppaaGreatM06
namespace Go.Proofs.YtciihepbeacppaaGreat
open Tryz Go.RowKit
set_option linter.unusedVariables false
def aD:ByteArray:=⟨#[115,107,105,112]⟩
def fL:ByteArray:=⟨#[102,114,101,101]⟩
def lB:ByteArray:=⟨#[110,101,119]⟩
def yU:ByteArray:=⟨#[99,111,112,121]⟩
def zt:ByteArray:=⟨#[108,111,97,100]⟩
def sK:ByteArray:=⟨#[115,116,111,114,101]⟩
def a6:ByteArray:=⟨#[46]⟩
def nW:ByteArray:=⟨#[110]⟩
def rsI(l:List ByteArray):Option pE:=match l with
 |[a]=>if aX a aD then some ⟨aD,em,em,em,0,false⟩ else none
 |[a,b]=>if aX a fL&&aK b then some ⟨fL,b,em,em,0,false⟩ else none
 |[a,b,c]=>if aK a&&aX b bS then (if aX c cC||aX c lB then some ⟨c,a,em,em,0,false⟩ else if aK c then some ⟨yU,a,c,em,0,false⟩ else none) else none
 |[a,b,c,d,e] =>
  if aK a&&aX b bS&&aK c&&aX d a6&&aX e nW then some ⟨zt,a,c,em,0,false⟩ else
  if aK a&&aX b a6&&aX c nW&&aX d bS&&(aK e||aX e cC) then some ⟨sK,a,e,em,0,false⟩ else none
 |_=>none
theorem infoBool:(prog.info? 4).map (λi=>(i.zero,i.size,i.bytes))=some (some (.bool false),1,1):=by kernel_rfl
