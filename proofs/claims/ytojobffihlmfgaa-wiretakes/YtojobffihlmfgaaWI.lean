/- Rings that nobody made: what mont's functions answer of them; and Prod's errors. -/
import Derived.Test.YtojobffihlmfgaaGT
import Derived.Test.YtojobffihlmfgaaGH
namespace Go.Proofs.Ytojobffihlmfgaa
open Go.RowKit
end Go.Proofs.Ytojobffihlmfgaa
/- wide.InvMod. -/
namespace Go.Proofs.Ytojobffihlmfgaa
open Go.RowKit
/-- The rows that InvMod's loop holds on to. -/
structure Held (wr w : World) (g3 g4 g6 g7 g8 g9 g10 M L S b f : Nat) : Prop where
 m : Row wr g3 (natC M) 51
 z : Row wr g4 (natC 0) 51
 one : Row wr g6 (natC 1) 51
 l : Row wr g7 (natC L) 51
 s : Row wr g8 (natC S) 51
 b : Row wr g9 (natC b) 51
 f : Row wr g10 (natC f) 51
 below : Below w.heap.size w wr
end Go.Proofs.Ytojobffihlmfgaa
/- InvMod of any two naturals; a natural written by its four limbs. -/
namespace Go.Proofs.Ytojobffihlmfgaa
open Go.RowKit
end Go.Proofs.Ytojobffihlmfgaa
