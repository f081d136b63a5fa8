import Derived.Test.YtciihepbeacppaaGreatRR
namespace Go.Proofs.YtciihepbeacppaaGreat
open Go.RowKit

/-- the reference's Read -/
theorem rread_any (s : ByteArray) (w : World) : Calls Tryz.prog 26 #[.string s] w fun e w' => RrPost s w e w' := by
  by_cases hlong : 240 < s.size
  · exact rread_long s w hlong
  · by_cases hbad : (rrW s.data.toList).length = 0 ∨ eqW ((rrW s.data.toList)[0]?.getD em) preW = false ∨ fndL (rrW s.data.toList) lbW = (rrW s.data.toList).length
    · exact rread_bad s w hlong (Or.inr hbad)
    · by_cases hok : rrE s.data.toList = 0
      · exact rread_ok s w hlong hbad hok
      · exact rread_mid s w hlong hbad hok
end Go.Proofs.YtciihepbeacppaaGreat
