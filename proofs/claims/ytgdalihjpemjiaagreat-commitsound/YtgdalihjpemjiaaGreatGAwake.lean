import Derived.Test.YtgdalihjpemjiaaGreatGW
import Derived.Test.YtgdalihjpemjiaaGreatGV
namespace Go.Proofs.YtgdalihjpemjiaaGreat
set_option linter.unusedVariables false
open Go.RowKit
theorem le_p : lN leL (3 - 1) = 1055500680322183127 := rfl
theorem le_q : lN leL (3 - 2) = 1966023127 := rfl
theorem eqn_yes (X : Nat) : decide (X % 2 ^ 256 = X % 2 ^ 256) = true := decide_eq_true rfl
end Go.Proofs.YtgdalihjpemjiaaGreat
