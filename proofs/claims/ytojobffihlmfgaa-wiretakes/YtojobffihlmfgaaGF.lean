/- Plain mathematics: products limb by limb, quotients guessed limb by limb. -/
import Derived.Test.YtojobffihlmfgaaGA
import Derived.Test.YtojobffihlmfgaaGE
import Derived.Test.YtojobffihlmfgaaGB
import Derived.Lib.Mul64
import Derived.Laws.Bits64b
namespace Go.Proofs.Ytojobffihlmfgaa
/-- What goes over when a natural is multiplied with a limb, and more is added. -/
def tlC (A L M k : Nat) : Nat := (A % 2 ^ (64 * k) * L + M % 2 ^ (64 * k)) / 2 ^ (64 * k)
/-- What is carried up in a product, by rows. -/
def muH (A B k : Nat) : Nat := A * (B % 2 ^ (64 * k)) / 2 ^ (64 * k)
/-- The guess at a limb. -/
def gs (R M : Nat) : Nat := if lm M 3 ≤ lm R 3 then 18446744073709551615 else (lm R 3 * 18446744073709551616 + lm R 2) / lm M 3
/-- What is left when a limb has been guessed, above 0 by 2^320. -/
def zz (N M g : Nat) : Nat := N + 2 ^ 256 * 18446744073709551616 - g * M
end Go.Proofs.Ytojobffihlmfgaa
/- bits.Mul64; the closure of wide.timesLimb, and timesLimb. -/
namespace Go.Proofs.Ytojobffihlmfgaa
open Go.RowKit
end Go.Proofs.Ytojobffihlmfgaa
/- wide.Mul. -/
namespace Go.Proofs.Ytojobffihlmfgaa
open Go.RowKit
end Go.Proofs.Ytojobffihlmfgaa
