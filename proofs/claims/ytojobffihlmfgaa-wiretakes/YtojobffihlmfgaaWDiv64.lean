/- bits.LeadingZeros64 and bits.Div64, where the divisor has its highest bit. -/
import Derived.Test.YtojobffihlmfgaaGB
import Derived.Test.YtojobffihlmfgaaGF
namespace Go.Proofs.Ytojobffihlmfgaa
open Go.RowKit
/-- Half a limb of a quotient. -/
def d32 (u x y : Nat) : Nat := (u * 4294967296 + x) / y
/-- What is held of a guess q with the rest r, in the loops. -/
structure Gu (u x y q r : Nat) : Prop where
 sum : q * (y / 4294967296) + r = u
 le : d32 u x y ≤ q
end Go.Proofs.Ytojobffihlmfgaa
