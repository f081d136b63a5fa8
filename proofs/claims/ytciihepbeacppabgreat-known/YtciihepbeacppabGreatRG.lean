import Derived.Test.YtciihepbeacppabGreatM06
namespace Go.Proofs.YtciihepbeacppabGreat
open Go.RowKit
set_option linter.unusedVariables false
def skipW : ByteArray:=⟨#[115,107,105,112]⟩
def freeW : ByteArray:=⟨#[102,114,101,101]⟩
def newW : ByteArray:=⟨#[110,101,119]⟩
def dotW : ByteArray:=⟨#[46]⟩
def nW : ByteArray:=⟨#[110]⟩
theorem Tryz.infoBool : (Tryz.prog.info? 4).map (fun i=>(i.zero,i.size,i.bytes)) = some (some (.bool false),1,1):=by kernel_rfl
end Go.Proofs.YtciihepbeacppabGreat
