/- The document's Up and Down: a natural times two, by two, so often. -/
import Derived.Test.YtojobffihlmfgaaGA
import Derived.Test.YtojobffihlmfgaaGB
namespace Go.Proofs.Ytojobffihlmfgaa
open Go.RowKit
end Go.Proofs.Ytojobffihlmfgaa
/- nat.Up. -/
namespace Go.Proofs.Ytojobffihlmfgaa
open Go.RowKit
/-- A limb of A times 2^(64 L + f): what the limb below pushes over lies beneath. -/
def upV (A f j : Nat) : Nat := lm A j * 2 ^ f % 18446744073709551616
def upW (A f j : Nat) : Nat := upV A f j ||| lm A (j - 1) / 2 ^ (64 - f)
/-- A limb of A by 2^(64 L + f). -/
def downV (A f i : Nat) : Nat := lm A i / 2 ^ f
def downW (A f i : Nat) : Nat := downV A f i ||| lm A (i + 1) * 2 ^ (64 - f) % 18446744073709551616
end Go.Proofs.Ytojobffihlmfgaa
/- nat.Down. -/
namespace Go.Proofs.Ytojobffihlmfgaa
open Go.RowKit
end Go.Proofs.Ytojobffihlmfgaa
