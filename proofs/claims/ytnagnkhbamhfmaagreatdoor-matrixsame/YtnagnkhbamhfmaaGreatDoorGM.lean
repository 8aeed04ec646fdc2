import Derived.Laws.Bits64b
import Derived.Test.YtnagnkhbamhfmaaGreatDoorGE
set_option maxRecDepth 100000
set_option maxHeartbeats 8000000
namespace Go.Proofs.YtnagnkhbamhfmaaGreatDoor
set_option linter.all false
def dg (N i:Nat):Nat:=N/2^(16*i)%65536
def yl (f:Nat->Nat):Array Value:=Array.ofFn (n:=32) fun i=>.int .i64 (f i:Nat)
def LD (N:Nat):Array Value:=yl (dg N)
open Go.RowKit
def ofF (L H k i:Nat):Nat:=if i<k then dg L i else if 16<=i/\i<16+k then dg H (i-16)else 0
def tw (A c k:Nat):Nat:=(2*(A%2^(16*k))+c)/2^(16*k)
end Go.Proofs.YtnagnkhbamhfmaaGreatDoor
