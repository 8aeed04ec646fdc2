import Derived.Test.YtfhgdgnhcmakhaaGreatGO
import Derived.Test.YtfhgdgnhcmakhaaGreatGH
import Derived.Test.YtfhgdgnhcmakhaaGreatGI
import Derived.Test.YtfhgdgnhcmakhaaGreatGC
import Derived.Test.YtfhgdgnhcmakhaaGreatGE
namespace Go.Proofs.YtfhgdgnhcmakhaaGreat
open Go.RowKit
def Eu (i x y : Nat) : Prop := i = 0 ∨ (y < x ∧ x * y * 2 ^ i < 2 * (2 ^ 256 * 2 ^ 256))
structure GcdH (wr w : World) (g4 g5 g6 x y : Nat) : Prop where
 z : Row wr g4 (natC 0) 38
 x : Row wr g5 (natC x) 38
 y : Row wr g6 (natC y) 38
 below : Below w.heap.size w wr
end Go.Proofs.YtfhgdgnhcmakhaaGreat
