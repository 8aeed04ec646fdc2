import Derived.Test.YtfhgdgnhcmakhaaGreatGW
import Derived.Test.YtfhgdgnhcmakhaaGreatGV
namespace Go.Proofs.YtfhgdgnhcmakhaaGreat
open Go.RowKit
theorem le_p : lN leL (3 - 1) = 1055500680322183127 := rfl
theorem le_q : lN leL (3 - 2) = 1966023127 := rfl
end Go.Proofs.YtfhgdgnhcmakhaaGreat
