/- The two array types of the program: their zero values, sizes, literals. -/
import Derived.Test.YtchiiphmpkmloaaRows
import Derived.Test.YtchiiphmpkmloaaKit
import Derived.Test.YtchiiphmpkmloaaVal
namespace Go.Proofs.Ytchiiphmpkmloaa
open Go.RowKit
end Go.Proofs.Ytchiiphmpkmloaa
