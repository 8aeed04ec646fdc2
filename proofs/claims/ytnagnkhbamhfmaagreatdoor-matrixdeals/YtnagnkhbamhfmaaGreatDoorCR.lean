import Derived.Test.YtnagnkhbamhfmaaGreatDoorCO
set_option maxRecDepth 100000
set_option maxHeartbeats 8000000
namespace Go.Proofs.YtnagnkhbamhfmaaGreatDoor
set_option linter.all false
open Go.RowKit
def rAt (P:Nat)(C:Nat->Nat)(i k:Nat):Nat:=prd (fun j=>C j^(i^j)) k%P
theorem Pw {B:Nat}{w z:World}(_:Below B w z)(S:List Nat):Kept S z z:=Kept.refl S z
end Go.Proofs.YtnagnkhbamhfmaaGreatDoor
