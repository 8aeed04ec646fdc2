/- group's decimal: the natural of decimal digits. -/
import Derived.Test.YtojobffihlmfgaaGWalk
import Derived.Test.YtojobffihlmfgaaGD
import Derived.Test.YtojobffihlmfgaaPX
import Derived.Test.YtojobffihlmfgaaMP
import Derived.Test.YtojobffihlmfgaaGY
namespace Go.Proofs.Ytojobffihlmfgaa
open Go.RowKit
/-- The natural of digits, by tens. -/
def dcN (l : List UInt8) : Nat → Nat
 | 0 => 0
 | k + 1 => dcN l k * 2 ^ 3 + dcN l k * 2 ^ 1 + (yb l k - 48)
end Go.Proofs.Ytojobffihlmfgaa
/- group's written: parameters by their digits; the three groups that are given. -/
namespace Go.Proofs.Ytojobffihlmfgaa
open Go.RowKit
/-- Texts one behind the other. -/
def sxC (n : Nat) (f : Nat → List UInt8) : Array Value := Array.ofFn (n := n) fun i => .string ⟨(f i).toArray⟩
theorem size1tint : (Try.prog.info? 3).map (·.size) = some 1 := by kernel_rfl
/-- Up to a place, and nothing behind it. -/
def upN (V : Nat → Nat) (k i : Nat) : Nat := if i < k then V i else 0
def upZ (V : Nat → Int) (k i : Nat) : Int := if i < k then V i else 0
/-- Digits alone, and not too many. -/
def DigS (l : List UInt8) : Prop := l.length < 9223372036854775808 ∧ ∀ i, i < l.length → 48 ≤ yb l i
def dig? (l : List UInt8) : Bool := l.all fun b => decide (48 ≤ b.toNat)
end Go.Proofs.Ytojobffihlmfgaa
/- group's Least. -/
namespace Go.Proofs.Ytojobffihlmfgaa
open Go.RowKit
/-- The natural of digits, by a list. -/
def dcF : List UInt8 → Nat → Nat
 | [], n => n
 | b :: l, n => dcF l (n * 10 + (b.toNat - 48))
def leS : List UInt8 := [51, 49, 54, 53, 52, 51, 55, 55, 49, 52, 51, 57, 55, 56, 48, 57, 56, 52]
def leT : List (List UInt8) := [[54, 53, 53, 50, 49], [49, 57, 54, 54, 48, 50, 51, 49, 50, 55], [49, 48, 53, 53, 53, 48, 48, 54, 56, 48, 51, 50, 50, 49, 56, 51, 49, 50, 55]]
def leF (i : Nat) : List UInt8 := leT.getD i []
end Go.Proofs.Ytojobffihlmfgaa
/- group's Other, Great. -/
namespace Go.Proofs.Ytojobffihlmfgaa
open Go.RowKit
def otS : List UInt8 := [53, 52, 54, 50, 52, 51, 51, 51, 49, 51, 57, 53, 50, 52, 49, 50, 56]
def otT : List (List UInt8) := [[54, 52, 56, 49, 55], [49, 56, 49, 53, 49, 51, 53, 50, 54, 57], [52, 56, 55, 50, 54, 57, 48, 57, 49, 52, 52, 55, 48, 56, 49, 52, 50, 57]]
def otF (i : Nat) : List UInt8 := otT.getD i []
def grS : List UInt8 := [57, 49, 53, 49, 49, 53, 55, 51, 52, 49, 54, 54, 55, 52, 54, 57, 54, 49, 53, 56, 48, 48, 57, 57, 55, 49, 51, 48, 50, 51, 49, 52, 53, 52, 56, 54, 53, 52, 50, 53, 48, 49, 56, 49, 56, 49, 57, 49, 55, 57, 48, 52, 57, 50, 49, 52, 55, 57, 57, 55, 50, 55, 50, 57]
def grT : List (List UInt8) := [[54, 53, 53, 49, 57], [49, 51, 49, 51, 57, 49, 56, 48, 50, 55], [56, 56, 49, 55, 53, 53, 54, 55, 50, 48, 51, 55, 55, 57, 55, 54, 49], [54, 51, 53, 51, 55, 49, 57, 50, 50, 53, 54, 51, 51, 57, 57, 55, 53, 53, 49, 49, 57, 50, 57, 55, 54, 54, 54, 49, 56, 49, 53, 49, 55, 49], [49, 50, 56, 56, 54, 56, 55, 51, 53, 56, 52, 48, 57, 48, 53, 50, 52, 54, 53, 57, 55, 48, 48, 53, 54, 50, 50, 50, 56, 54, 55, 53, 51, 51, 56, 51, 53, 49, 48, 52, 56, 54, 51, 53, 57, 51, 48, 55, 54, 48, 57, 56, 52, 53, 56, 52, 51, 56, 53, 54, 49, 52, 51, 49, 56, 51]]
def grF (i : Nat) : List UInt8 := grT.getD i []
end Go.Proofs.Ytojobffihlmfgaa
/- group's known, P, Q, G, Size, Ring, Field: of a group that New has made, and of one that nobody made. -/
namespace Go.Proofs.Ytojobffihlmfgaa
open Go.RowKit
section
variable {P : Program} {o : Oper} {ρ : Operand → Value}
end
/-- A group's size. -/
def sizeZ (Q : Nat) : Int := ((bitLen Q : Int) - 1).tdiv 8
end Go.Proofs.Ytojobffihlmfgaa
/- Links that are the same. -/
namespace Go.Proofs.Ytojobffihlmfgaa
open Go.RowKit
end Go.Proofs.Ytojobffihlmfgaa
/- The document's P, Q, Size. -/
namespace Go.Proofs.Ytojobffihlmfgaa
open Go.RowKit
end Go.Proofs.Ytojobffihlmfgaa
/- The document's Least, Other, Great; the law's same. -/
namespace Go.Proofs.Ytojobffihlmfgaa
open Go.RowKit
end Go.Proofs.Ytojobffihlmfgaa
/- One of the three given groups, picked by the lowest eight bits of a number: as a slice of parameters. -/
namespace Go.Proofs.Ytojobffihlmfgaa
open Go.RowKit
/-- One of three. -/
def pk {α : Type} (m : Nat) (a b c : α) : α := if m = 0 then a else if m = 1 then b else c
/-- Three parameters one behind the other. -/
def pasC (x y z : Option Addr) (n m l X Y Z : Nat) : Array Value := #[.slice x n n, .int .u64 (lm X 0), .int .u64 (lm X 1), .int .u64 (lm X 2), .int .u64 (lm X 3), .slice y m m, .int .u64 (lm Y 0), .int .u64 (lm Y 1), .int .u64 (lm Y 2), .int .u64 (lm Y 3), .slice z l l, .int .u64 (lm Z 0), .int .u64 (lm Z 1), .int .u64 (lm Z 2), .int .u64 (lm Z 3)]
/-- The lowest eight bits. -/
def ly8 (x : Int) : Nat := (x % 256).toNat
end Go.Proofs.Ytojobffihlmfgaa
