import Derived.Test.YtciihepbeacppaaGreatM06
namespace Go.Proofs.YtciihepbeacppaaGreat
open Tryz Go.RowKit
set_option linter.unusedVariables false
theorem infoBool:(prog.info? 4).map (λi=>(i.zero,i.size,i.bytes))=some (some (.bool false),1,1):=by kernel_rfl
