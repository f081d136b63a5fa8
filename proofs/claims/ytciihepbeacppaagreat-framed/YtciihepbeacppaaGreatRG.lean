import Derived.Test.YtciihepbeacppaaGreatM06
namespace Go.Proofs.YtciihepbeacppaaGreat
open Tryz Go.RowKit
set_option linter.unusedVariables false
def gh:ByteArray:=⟨#[115,107,105,112]⟩
def fW:ByteArray:=⟨#[102,114,101,101]⟩
def mb:ByteArray:=⟨#[110,101,119]⟩
def Cm:ByteArray:=⟨#[99,111,112,121]⟩
def Df:ByteArray:=⟨#[108,111,97,100]⟩
def wI:ByteArray:=⟨#[115,116,111,114,101]⟩
def a8:ByteArray:=⟨#[46]⟩
def nW:ByteArray:=⟨#[110]⟩
def rsI(l:List ByteArray):Option qj:=match l with
 |[a]=>if aW a gh then some ⟨gh,em,em,em,0,false⟩ else none
 |[a,b]=>if aW a fW&&aF b then some ⟨fW,b,em,em,0,false⟩ else none
 |[a,b,c]=>if aF a&&aW b bW then (if aW c bZ||aW c mb then some ⟨c,a,em,em,0,false⟩ else if aF c then some ⟨Cm,a,c,em,0,false⟩ else none) else none
 |[a,b,c,d,e] =>
  if aF a&&aW b bW&&aF c&&aW d a8&&aW e nW then some ⟨Df,a,c,em,0,false⟩ else
  if aF a&&aW b a8&&aW c nW&&aW d bW&&(aF e||aW e bZ) then some ⟨wI,a,e,em,0,false⟩ else none
 |_=>none
theorem infoBool:(prog.info? 4).map (λi=>(i.zero,i.size,i.bytes))=some (some (.bool false),1,1):=by kernel_rfl
