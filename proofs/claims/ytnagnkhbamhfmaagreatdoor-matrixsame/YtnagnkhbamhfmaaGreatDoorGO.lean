import Derived.Test.YtnagnkhbamhfmaaGreatDoorGN
set_option maxRecDepth 100000
set_option maxHeartbeats 8000000
namespace Go.Proofs.YtnagnkhbamhfmaaGreatDoor
set_option linter.all false
open Go.RowKit
structure PartH (wr w:World)(g2 g3 g4 g5 g6 g7 A M Q R:Nat):Prop where
 a:Row wr g2 (LD A) 206
 m:Row wr g3 (LD M) 206
 z:Row wr g4 (LD 0) 206
 z':Row wr g5 (LD 0) 206
 q:Row wr g6 (LD Q) 206
 r:Row wr g7 (LD R) 206
 below:Below w.heap.size w wr
def Eu (i x y:Nat):Prop:=i=0∨(y<x/\x*y*2^i<2*(2^256*2^256))
structure GcdH (wr w:World)(g4 g5 g6 x y:Nat):Prop where
 z:Row wr g4 (Zd 0) 57
 x:Row wr g5 (Zd x) 57
 y:Row wr g6 (Zd y) 57
 below:Below w.heap.size w wr
end Go.Proofs.YtnagnkhbamhfmaaGreatDoor
