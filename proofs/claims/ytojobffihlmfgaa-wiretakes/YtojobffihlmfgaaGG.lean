/- wide.guess and wide.divideLimb. -/
import Derived.Test.YtojobffihlmfgaaWDiv64
import Derived.Test.YtojobffihlmfgaaGB
import Derived.Test.YtojobffihlmfgaaGD
import Derived.Test.YtojobffihlmfgaaGF
namespace Go.Proofs.Ytojobffihlmfgaa
open Go.RowKit
/-- What is over, as a limb. -/
def zo (N M g : Nat) : Nat := zz N M g / 2 ^ 256 % 18446744073709551616
end Go.Proofs.Ytojobffihlmfgaa
/- wide.divide and wide.remains. -/
namespace Go.Proofs.Ytojobffihlmfgaa
open Go.RowKit
/-- The rest of the number, from limb i on. -/
def yy (N i : Nat) : Nat := N / 2 ^ (64 * i)
end Go.Proofs.Ytojobffihlmfgaa
/- wide.divide at any naturals; wide.remains, Rem, Div, AddMod, MulMod. -/
namespace Go.Proofs.Ytojobffihlmfgaa
open Go.RowKit
/-- By m, where m may be 0; and the error's number. -/
def modZ (N M : Nat) : Nat := if M = 0 then 0 else N % M
def errI (M : Nat) : Int := if M = 0 then 1 else 0
end Go.Proofs.Ytojobffihlmfgaa
