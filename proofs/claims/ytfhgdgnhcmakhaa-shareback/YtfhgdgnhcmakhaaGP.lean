/- The document's Div, AddMod, MulMod. -/
import Derived.Test.YtfhgdgnhcmakhaaGO
import Derived.Test.YtfhgdgnhcmakhaaGH
import Derived.Test.YtfhgdgnhcmakhaaGI
import Derived.Test.YtfhgdgnhcmakhaaGC
import Derived.Test.YtfhgdgnhcmakhaaGE
namespace Go.Proofs.Ytfhgdgnhcmakhaa
open Go.RowKit
end Go.Proofs.Ytfhgdgnhcmakhaa
/- The document's SubMod, Gcd, Inv. -/
namespace Go.Proofs.Ytfhgdgnhcmakhaa
open Go.RowKit
/-- What Euclid's way holds behind i steps. -/
def Eu (i x y : Nat) : Prop := i = 0 ∨ (y < x ∧ x * y * 2 ^ i < 2 * (2 ^ 256 * 2 ^ 256))
/-- The rows that Gcd holds on to. -/
structure GcdH (wr w : World) (g4 g5 g6 x y : Nat) : Prop where
 z : Row wr g4 (natC 0) 31
 x : Row wr g5 (natC x) 31
 y : Row wr g6 (natC y) 31
 below : Below w.heap.size w wr
end Go.Proofs.Ytfhgdgnhcmakhaa
