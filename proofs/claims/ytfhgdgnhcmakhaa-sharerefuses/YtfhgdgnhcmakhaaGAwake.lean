/- What must come, whatever the arguments are: the check of the laws of layer 7. -/
import Derived.Test.YtfhgdgnhcmakhaaGW
import Derived.Test.YtfhgdgnhcmakhaaGV
namespace Go.Proofs.Ytfhgdgnhcmakhaa
open Go.RowKit
theorem le_p : lN leL (3 - 1) = 1055500680322183127 := rfl
theorem le_q : lN leL (3 - 2) = 1966023127 := rfl
end Go.Proofs.Ytfhgdgnhcmakhaa
