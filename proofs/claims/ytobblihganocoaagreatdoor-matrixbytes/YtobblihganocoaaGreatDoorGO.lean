import Derived.Test.YtobblihganocoaaGreatDoorGN
set_option maxRecDepth 100000
set_option maxHeartbeats 2000000
namespace Go.Proofs.YtobblihganocoaaGreatDoor
set_option linter.unusedVariables false
open Go.RowKit
structure PartH (wr w:World)(g2 g3 g4 g5 g6 g7 A M Q R:Nat):Prop where
 a:Row wr g2 (Kd A) 219
 m:Row wr g3 (Kd M) 219
 z:Row wr g4 (Kd 0) 219
 z':Row wr g5 (Kd 0) 219
 q:Row wr g6 (Kd Q) 219
 r:Row wr g7 (Kd R) 219
 below:Below w.heap.size w wr
def Eu (i x y:Nat):Prop:=i=0∨(y<x/\x*y*2^i<2*(2^256*2^256))
structure GcdH (wr w:World)(g4 g5 g6 x y:Nat):Prop where
 z:Row wr g4 (Zc 0) 62
 x:Row wr g5 (Zc x) 62
 y:Row wr g6 (Zc y) 62
 below:Below w.heap.size w wr
