/- nat.Add and nat.Sub: the limbs' sums and rests, carried. -/
import Derived.Test.YtchiiphmpkmloaaTypes
import Derived.Test.YtchiiphmpkmloaaLimb
import Derived.Test.YtchiiphmpkmloaaInv
import Derived.Deep.RegionLaw
namespace Go.Proofs.Ytchiiphmpkmloaa
open Go.RowKit
end Go.Proofs.Ytchiiphmpkmloaa
