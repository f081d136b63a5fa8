import Derived.Test.YtciihepbeacppaaGreatM05
namespace Go.Proofs.YtciihepbeacppaaGreat
open Tryz Go.RowKit
set_option linter.unusedVariables false
def IA:ByteArray:=⟨#[115,107,105,112]⟩
def Gx:ByteArray:=⟨#[102,114,101,101]⟩
def Uk:ByteArray:=⟨#[110,101,119]⟩
def iE:ByteArray:=⟨#[46]⟩
def nW:ByteArray:=⟨#[110]⟩
theorem infoBool:(prog.info? 4).map (λi=>(i.zero,i.size,i.bytes))=some (some (.bool false),1,1):=by kernel_rfl
