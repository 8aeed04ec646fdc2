/- The document's Nats: the lower, and the higher 256 bits of digits. -/
import Derived.Test.YtojobffihlmfgaaGM
import Derived.Test.YtojobffihlmfgaaGE
import Derived.Test.YtojobffihlmfgaaGB
import Derived.Test.YtojobffihlmfgaaGH
import Derived.Test.YtojobffihlmfgaaGG
namespace Go.Proofs.Ytojobffihlmfgaa
open Go.RowKit
end Go.Proofs.Ytojobffihlmfgaa
/- Plain mathematics: a product digit by digit. -/
namespace Go.Proofs.Ytojobffihlmfgaa
/-- A number with another digit m. -/
def putD (U m d : Nat) : Nat := U % 2 ^ (16 * m) + 2 ^ (16 * m) * (d + 65536 * (U / 2 ^ (16 * m) / 65536))
/-- What holds behind k turns of the inner loop. -/
def Sm (A B i k U c : Nat) : Prop := U + 2 ^ (16 * (i + k)) * c = A % 2 ^ (16 * i) * B + dg A i * (B % 2 ^ (16 * k)) * 2 ^ (16 * i) ∧ U < 2 ^ (16 * (i + 16)) ∧ c < 65536
end Go.Proofs.Ytojobffihlmfgaa
/- The document's Mul: the product, digit by digit. -/
namespace Go.Proofs.Ytojobffihlmfgaa
open Go.RowKit
end Go.Proofs.Ytojobffihlmfgaa
/- Plain mathematics: a division bit by bit. -/
namespace Go.Proofs.Ytojobffihlmfgaa
/-- What is left, and how often, behind the bits from g on. -/
def pR (A M g : Nat) : Nat := A / 2 ^ g % M
def pQ (A M g : Nat) : Nat := 2 ^ g * (A / 2 ^ g / M)
def pB (A g : Nat) : Nat := A / 2 ^ g % 2
end Go.Proofs.Ytojobffihlmfgaa
/- wide.Div. -/
namespace Go.Proofs.Ytojobffihlmfgaa
open Go.RowKit
/-- How often b goes into a, where b may be 0. -/
def divZ (A B : Nat) : Nat := if B = 0 then 0 else A / B
end Go.Proofs.Ytojobffihlmfgaa
