/- The two array types of the program: their zero values, sizes, literals. -/
import Derived.Test.YtdbcikhineghcaaRows
import Derived.Test.YtdbcikhineghcaaKit
import Derived.Test.YtdbcikhineghcaaVal
namespace Go.Proofs.Ytdbcikhineghcaa
open Go.RowKit
end Go.Proofs.Ytdbcikhineghcaa
