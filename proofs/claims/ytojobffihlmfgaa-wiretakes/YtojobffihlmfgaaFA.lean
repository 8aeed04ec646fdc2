/- What must come, whatever the arguments are: the check of the laws of layer 7. -/
import Derived.Test.YtojobffihlmfgaaGV
import Derived.Test.YtojobffihlmfgaaGH
import Derived.Test.YtojobffihlmfgaaPM
import Derived.Test.YtojobffihlmfgaaWAdd
import Derived.Test.YtojobffihlmfgaaWI
import Derived.Test.YtojobffihlmfgaaGT
import Derived.Test.YtojobffihlmfgaaMQ
import Derived.Test.YtojobffihlmfgaaGO
namespace Go.Proofs.Ytojobffihlmfgaa
open Go.RowKit
end Go.Proofs.Ytojobffihlmfgaa
/- Plain mathematics of layer 8: sums, differences, products and inverses by a prime. -/
namespace Go.Proofs.Ytojobffihlmfgaa
/-- A difference by q. -/
def sbN (A B q : Nat) : Nat := (A % q + (q - B % q)) % q
/-- The sum of products of the first k. -/
def dotN (a b : Nat → Nat) (q : Nat) : Nat → Nat
 | 0 => 0
 | k + 1 => (dotN a b q k + a k * b k % q) % q
/-- The document's inverse. -/
def ivN (x q : Nat) : Nat := if x = 0 then 0 else x ^ (q - 2) % q
end Go.Proofs.Ytojobffihlmfgaa
/- field's In, Add, Sub, Mul, Inv, Dot: of a group that New has made, and of one that nobody made. -/
namespace Go.Proofs.Ytojobffihlmfgaa
open Go.RowKit
/-- A group whose field's ring can be used. -/
structure FdQ (Q : Nat) : Prop extends RgQ Q where
 pr : IsP Q
theorem FdQ.pos {Q : Nat} (h : FdQ Q) : 0 < Q := Nat.lt_of_lt_of_le (by decide) h.two
end Go.Proofs.Ytojobffihlmfgaa
/- The document's numbers of layer 8: By, Add, Sub, Mul, Inv; its Pick. -/
namespace Go.Proofs.Ytojobffihlmfgaa
open Go.RowKit
/-- One of the two small groups. -/
def pk2 {α : Type} (b : Bool) (x y : α) : α := if b = true then x else y
/-- Whether the second of the two is picked. -/
def pkB (a0 : Int) : Bool := decide (bits .and .i64 a0 1 = 1)
end Go.Proofs.Ytojobffihlmfgaa
/- What must come, whatever the arguments are: the check of the laws of layer 8. -/
namespace Go.Proofs.Ytojobffihlmfgaa
open Go.RowKit
end Go.Proofs.Ytojobffihlmfgaa
