/- Rings that nobody made: what mont's functions answer of them; and Prod's errors. -/
import Derived.Test.YtnkpfcbcmfhjkaaGT
namespace Go.Proofs.Ytnkpfcbcmfhjkaa
open Go.RowKit
end Go.Proofs.Ytnkpfcbcmfhjkaa
/- wide.InvMod. -/
namespace Go.Proofs.Ytnkpfcbcmfhjkaa
open Go.RowKit
/-- The rows that InvMod's loop holds on to. -/
structure Held (wr w : World) (g3 g4 g6 g7 g8 g9 g10 M L S b f : Nat) : Prop where
 m : Row wr g3 (natC M) 52
 z : Row wr g4 (natC 0) 52
 one : Row wr g6 (natC 1) 52
 l : Row wr g7 (natC L) 52
 s : Row wr g8 (natC S) 52
 b : Row wr g9 (natC b) 52
 f : Row wr g10 (natC f) 52
 below : Below w.heap.size w wr
end Go.Proofs.Ytnkpfcbcmfhjkaa
/- InvMod of any two naturals; a natural written by its four limbs. -/
namespace Go.Proofs.Ytnkpfcbcmfhjkaa
open Go.RowKit
end Go.Proofs.Ytnkpfcbcmfhjkaa
