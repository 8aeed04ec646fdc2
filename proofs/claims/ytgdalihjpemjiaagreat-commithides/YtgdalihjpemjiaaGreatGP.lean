import Derived.Test.YtgdalihjpemjiaaGreatGO
import Derived.Test.YtgdalihjpemjiaaGreatGH
import Derived.Test.YtgdalihjpemjiaaGreatGI
import Derived.Test.YtgdalihjpemjiaaGreatGC
import Derived.Test.YtgdalihjpemjiaaGreatGE
namespace Go.Proofs.YtgdalihjpemjiaaGreat
set_option linter.unusedVariables false
open Go.RowKit
def Eu (i x y : Nat) : Prop := i = 0 ∨ (y < x ∧ x * y * 2 ^ i < 2 * (2 ^ 256 * 2 ^ 256))
structure GcdH (wr w : World) (g4 g5 g6 x y : Nat) : Prop where
 z : Row wr g4 (natC 0) 40
 x : Row wr g5 (natC x) 40
 y : Row wr g6 (natC y) 40
 below : Below w.heap.size w wr
end Go.Proofs.YtgdalihjpemjiaaGreat
