import Derived.Test.YtnagnkhbamhfmaaGreatDoorMB
import Derived.Test.YtnagnkhbamhfmaaGreatDoorCR
set_option maxRecDepth 100000
set_option maxHeartbeats 8000000
namespace Go.Proofs.YtnagnkhbamhfmaaGreatDoor
set_option linter.all false
open Go.RowKit
def vl (t P Q:Nat)(N:Nat->Nat)(M:Nat->Nat->Nat)(k:Nat):Bool:=decide (N k=t+1)&&Db P Q (M k) (N k)
def fMay (t P Q:Nat)(N:Nat->Nat)(M:Nat->Nat->Nat)(n:Nat):Bool:= !anB (fun k=> !vl t P Q N M k) n&&(decide (1<=t)&&(decide (t<=2)&&(decide (1<=n)&&decide (n<=25))))
def fHol (P Q G:Nat)(N:Nat->Nat)(M:Nat->Nat->Nat)(n:Nat)(I:Int)(L:Nat)(Y:Nat->Nat):Bool:=decide (L=n)&&(decide (1<=n)&&(decide (n<=25)&& !anB (fun k=> !BM P Q G (M k) (N k) I (Y k)) n))
def fpB (ny:Nat->Nat)(q most num:Nat):Bool:= !anB (fun i=>decide (num<ny i)) (min q most)&&decide (q<=most)
end Go.Proofs.YtnagnkhbamhfmaaGreatDoor
