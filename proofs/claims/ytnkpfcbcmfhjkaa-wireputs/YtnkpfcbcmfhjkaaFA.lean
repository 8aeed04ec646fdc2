/- What must come, whatever the arguments are: the check of the laws of layer 7. -/
import Derived.Test.YtnkpfcbcmfhjkaaGV
import Derived.Test.YtnkpfcbcmfhjkaaWAdd
import Derived.Test.YtnkpfcbcmfhjkaaWI
namespace Go.Proofs.Ytnkpfcbcmfhjkaa
open Go.RowKit
end Go.Proofs.Ytnkpfcbcmfhjkaa
/- Plain mathematics of layer 8: sums, differences, products and inverses by a prime. -/
namespace Go.Proofs.Ytnkpfcbcmfhjkaa
/-- A difference by q. -/
def sbN (A B q : Nat) : Nat := (A % q + (q - B % q)) % q
/-- The sum of products of the first k. -/
def dotN (a b : Nat → Nat) (q : Nat) : Nat → Nat
 | 0 => 0
 | k + 1 => (dotN a b q k + a k * b k % q) % q
/-- The document's inverse. -/
def ivN (x q : Nat) : Nat := if x = 0 then 0 else x ^ (q - 2) % q
end Go.Proofs.Ytnkpfcbcmfhjkaa
/- field's In, Add, Sub, Mul, Inv, Dot: of a group that New has made, and of one that nobody made. -/
namespace Go.Proofs.Ytnkpfcbcmfhjkaa
open Go.RowKit
/-- A group whose field's ring can be used. -/
structure FdQ (Q : Nat) : Prop extends RgQ Q where
 pr : IsP Q
theorem FdQ.pos {Q : Nat} (h : FdQ Q) : 0 < Q := Nat.lt_of_lt_of_le (by decide) h.two
end Go.Proofs.Ytnkpfcbcmfhjkaa
/- The document's numbers of layer 8: By, Add, Sub, Mul, Inv; its Pick. -/
namespace Go.Proofs.Ytnkpfcbcmfhjkaa
open Go.RowKit
/-- One of the two small groups. -/
def pk2 {α : Type} (b : Bool) (x y : α) : α := if b = true then x else y
/-- Whether the second of the two is picked. -/
def pkB (a0 : Int) : Bool := decide (bits .and .i64 a0 1 = 1)
end Go.Proofs.Ytnkpfcbcmfhjkaa
/- What must come, whatever the arguments are: the check of the laws of layer 8. -/
namespace Go.Proofs.Ytnkpfcbcmfhjkaa
open Go.RowKit
end Go.Proofs.Ytnkpfcbcmfhjkaa
