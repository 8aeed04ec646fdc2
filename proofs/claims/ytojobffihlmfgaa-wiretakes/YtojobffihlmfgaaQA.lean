/- Plain mathematics of layer 9: powers of what is 1 to the Q. -/
import Derived.Test.YtojobffihlmfgaaPM
import Derived.Test.YtojobffihlmfgaaFA
import Derived.Test.YtojobffihlmfgaaGT
import Derived.Test.YtojobffihlmfgaaGJ
import Derived.Test.YtojobffihlmfgaaMQ
namespace Go.Proofs.Ytojobffihlmfgaa
end Go.Proofs.Ytojobffihlmfgaa
/- power's In, Mul, Exp, Of, Inv, Multi: of a group that New has made, and of one that nobody made. -/
namespace Go.Proofs.Ytojobffihlmfgaa
open Go.RowKit
/-- Is a natural a member of the subgroup? -/
def memN (P Q A : Nat) : Bool := decide (A < P) && decide (A ^ Q % P = 1)
end Go.Proofs.Ytojobffihlmfgaa
/- The document's Of, Exp, Mul, In and Multi of layer 9. -/
namespace Go.Proofs.Ytojobffihlmfgaa
open Go.RowKit
/-- The cells of a small group's numbers. -/
def smC (P Q G : Int) : Array Value := #[.int .i64 P, .int .i64 Q, .int .i64 G]
end Go.Proofs.Ytojobffihlmfgaa
/- What must come, whatever the arguments are: the check of the laws of layer 9. -/
namespace Go.Proofs.Ytojobffihlmfgaa
open Go.RowKit
def le5 : Nat := 499752131551553962
end Go.Proofs.Ytojobffihlmfgaa
