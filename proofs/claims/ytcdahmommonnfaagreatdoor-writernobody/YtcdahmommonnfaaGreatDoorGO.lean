import Derived.Test.YtcdahmommonnfaaGreatDoorJ2
set_option maxRecDepth 100000
set_option maxHeartbeats 8000000
namespace Go.Proofs.YtcdahmommonnfaaGreatDoor
set_option linter.all false
open Go.RowKit
structure PartH (wr w:World)(g2 g3 g4 g5 g6 g7 A M Q R:Nat):Prop where
 a:Row wr g2 (Mh A) 286
 m:Row wr g3 (Mh M) 286
 z:Row wr g4 (Mh 0) 286
 z':Row wr g5 (Mh 0) 286
 q:Row wr g6 (Mh Q) 286
 r:Row wr g7 (Mh R) 286
 below:Below w.heap.size w wr
def Eu (i x y:Nat):Prop:=i=0∨(y<x/\x*y*2^i<2*(2^256*2^256))
structure GcdH (wr w:World)(g4 g5 g6 x y:Nat):Prop where
 z:Row wr g4 (Zc 0) 39
 x:Row wr g5 (Zc x) 39
 y:Row wr g6 (Zc y) 39
 below:Below w.heap.size w wr
end Go.Proofs.YtcdahmommonnfaaGreatDoor
