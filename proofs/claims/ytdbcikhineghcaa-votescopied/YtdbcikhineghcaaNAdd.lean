/- nat.Add and nat.Sub: the limbs' sums and rests, carried. -/
import Derived.Test.YtdbcikhineghcaaTypes
import Derived.Test.YtdbcikhineghcaaLimb
import Derived.Test.YtdbcikhineghcaaInv
import Derived.Deep.RegionLaw
namespace Go.Proofs.Ytdbcikhineghcaa
open Go.RowKit
end Go.Proofs.Ytdbcikhineghcaa
