/- mont's Exp: a power. -/
import Derived.Test.YtnkpfcbcmfhjkaaMP
import Derived.Test.YtnkpfcbcmfhjkaaGO
namespace Go.Proofs.Ytnkpfcbcmfhjkaa
open Go.RowKit
section
variable {P : Program} {olds : Olds} {p : Nat → Nat} {W : World} {F : Act → Ct → Prop} {n : Nat} {l : List Oper} {pl : List Sp} {a : Act} {ct : Ct} {o : Oper}
end
/-- Two naturals. -/
def two2 (A B i : Nat) : Nat := if i = 0 then A else B
end Go.Proofs.Ytnkpfcbcmfhjkaa
/- What must come, whatever the arguments are: the check of the laws of layer 3. -/
namespace Go.Proofs.Ytnkpfcbcmfhjkaa
open Go.RowKit
/-- A ring that New made. -/
structure RgQ (M : Nat) : Prop where
 m : M < 2 ^ 256
 odd : M % 2 = 1
 two : 2 ≤ M
end Go.Proofs.Ytnkpfcbcmfhjkaa
/- The document's functions of layer 3 that need no loop: May and Form. -/
namespace Go.Proofs.Ytnkpfcbcmfhjkaa
open Go.RowKit
end Go.Proofs.Ytnkpfcbcmfhjkaa
