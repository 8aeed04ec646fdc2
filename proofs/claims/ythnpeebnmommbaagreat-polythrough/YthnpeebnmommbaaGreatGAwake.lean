/- What must come, whatever the arguments are: the check of the laws of layer 7. -/
import Derived.Test.YthnpeebnmommbaaGreatGW
import Derived.Test.YthnpeebnmommbaaGreatGV
namespace Go.Proofs.YthnpeebnmommbaaGreat
open Go.RowKit
theorem le_p : lN leL (3 - 1) = 1055500680322183127 := rfl
theorem le_q : lN leL (3 - 2) = 1966023127 := rfl
theorem eqn_yes (X : Nat) : decide (X % 2 ^ 256 = X % 2 ^ 256) = true := decide_eq_true rfl
end Go.Proofs.YthnpeebnmommbaaGreat
