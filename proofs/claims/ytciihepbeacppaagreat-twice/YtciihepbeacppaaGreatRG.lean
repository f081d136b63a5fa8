import Derived.Test.YtciihepbeacppaaGreatM06
namespace Go.Proofs.YtciihepbeacppaaGreat
open Tryz Go.RowKit
set_option linter.unusedVariables false
def fj:ByteArray:=⟨#[115,107,105,112]⟩
def eX:ByteArray:=⟨#[102,114,101,101]⟩
def kG:ByteArray:=⟨#[110,101,119]⟩
def Ac:ByteArray:=⟨#[99,111,112,121]⟩
def Bb:ByteArray:=⟨#[108,111,97,100]⟩
def uk:ByteArray:=⟨#[115,116,111,114,101]⟩
def aW:ByteArray:=⟨#[46]⟩
def nW:ByteArray:=⟨#[110]⟩
def rsI(l:List ByteArray):Option oe:=match l with
 |[a]=>if aV a fj then some ⟨fj,em,em,em,0,false⟩ else none
 |[a,b]=>if aV a eX&&aI b then some ⟨eX,b,em,em,0,false⟩ else none
 |[a,b,c]=>if aI a&&aV b bM then (if aV c b9||aV c kG then some ⟨c,a,em,em,0,false⟩ else if aI c then some ⟨Ac,a,c,em,0,false⟩ else none) else none
 |[a,b,c,d,e] =>
  if aI a&&aV b bM&&aI c&&aV d aW&&aV e nW then some ⟨Bb,a,c,em,0,false⟩ else
  if aI a&&aV b aW&&aV c nW&&aV d bM&&(aI e||aV e b9) then some ⟨uk,a,e,em,0,false⟩ else none
 |_=>none
theorem infoBool:(prog.info? 4).map (λi=>(i.zero,i.size,i.bytes))=some (some (.bool false),1,1):=by kernel_rfl
