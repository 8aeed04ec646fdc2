import Derived.Test.YtdionnhelppliaaGreatGN
set_option maxRecDepth 100000
set_option maxHeartbeats 2000000
namespace Go.Proofs.YtdionnhelppliaaGreat
set_option linter.unusedVariables false
open Go.RowKit
structure PartH (wr w : World) (g2 g3 g4 g5 g6 g7 A M Q R : Nat) : Prop where
 a : Row wr g2 (digC A) 126
 m : Row wr g3 (digC M) 126
 z : Row wr g4 (digC 0) 126
 z' : Row wr g5 (digC 0) 126
 q : Row wr g6 (digC Q) 126
 r : Row wr g7 (digC R) 126
 below : Below w.heap.size w wr
def Eu (i x y : Nat) : Prop := i = 0 ∨ (y < x ∧ x * y * 2 ^ i < 2 * (2 ^ 256 * 2 ^ 256))
structure GcdH (wr w : World) (g4 g5 g6 x y : Nat) : Prop where
 z : Row wr g4 (natC 0) 45
 x : Row wr g5 (natC x) 45
 y : Row wr g6 (natC y) 45
 below : Below w.heap.size w wr
end Go.Proofs.YtdionnhelppliaaGreat
