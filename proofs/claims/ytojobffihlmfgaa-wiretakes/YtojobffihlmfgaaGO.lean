/- The document's parted: how often digits go into others, and what is left, bit by bit. -/
import Derived.Test.YtojobffihlmfgaaGM
import Derived.Test.YtojobffihlmfgaaGN
import Derived.Test.YtojobffihlmfgaaGH
import Derived.Test.YtojobffihlmfgaaGB
import Derived.Test.YtojobffihlmfgaaGE
namespace Go.Proofs.Ytojobffihlmfgaa
open Go.RowKit
end Go.Proofs.Ytojobffihlmfgaa
/- The document's Rem and Div. -/
namespace Go.Proofs.Ytojobffihlmfgaa
open Go.RowKit
end Go.Proofs.Ytojobffihlmfgaa
/- The document's Div, AddMod, MulMod. -/
namespace Go.Proofs.Ytojobffihlmfgaa
open Go.RowKit
end Go.Proofs.Ytojobffihlmfgaa
/- The document's SubMod, Gcd, Inv. -/
namespace Go.Proofs.Ytojobffihlmfgaa
open Go.RowKit
/-- What Euclid's way holds behind i steps. -/
def Eu (i x y : Nat) : Prop := i = 0 ∨ (y < x ∧ x * y * 2 ^ i < 2 * (2 ^ 256 * 2 ^ 256))
/-- The rows that Gcd holds on to. -/
structure GcdH (wr w : World) (g4 g5 g6 x y : Nat) : Prop where
 z : Row wr g4 (natC 0) 51
 x : Row wr g5 (natC x) 51
 y : Row wr g6 (natC y) 51
 below : Below w.heap.size w wr
end Go.Proofs.Ytojobffihlmfgaa
