import Derived.Test.YtgdalihjpemjiaaGreatGWalk
import Derived.Test.YtgdalihjpemjiaaGreatGD
import Derived.Test.YtgdalihjpemjiaaGreatPX
import Derived.Test.YtgdalihjpemjiaaGreatMProd
import Derived.Test.YtgdalihjpemjiaaGreatGTypes
set_option maxRecDepth 100000
set_option maxHeartbeats 2000000
namespace Go.Proofs.YtgdalihjpemjiaaGreat
set_option linter.unusedVariables false
open Go.RowKit
def dcN (l : List UInt8) : Nat → Nat
 | 0 => 0
 | k + 1 => dcN l k * 2 ^ 3 + dcN l k * 2 ^ 1 + (yb l k - 48)
def sxC (n : Nat) (f : Nat → List UInt8) : Array Value := Array.ofFn (n := n) fun i => .string ⟨(f i).toArray⟩
theorem size1tint : (Tryz.prog.info? 3).map (·.size) = some 1 := by kernel_rfl
def upN (V : Nat → Nat) (k i : Nat) : Nat := if i < k then V i else 0
def upZ (V : Nat → Int) (k i : Nat) : Int := if i < k then V i else 0
def DigS (l : List UInt8) : Prop := l.length < 9223372036854775808 ∧ ∀ i, i < l.length → 48 ≤ yb l i
def dig? (l : List UInt8) : Bool := l.all fun b => decide (48 ≤ b.toNat)
def dcF : List UInt8 → Nat → Nat
 | [], n => n
 | b :: l, n => dcF l (n * 10 + (b.toNat - 48))
def leS : List UInt8 := [51, 49, 54, 53, 52, 51, 55, 55, 49, 52, 51, 57, 55, 56, 48, 57, 56, 52]
def leT : List (List UInt8) := [[54, 53, 53, 50, 49], [49, 57, 54, 54, 48, 50, 51, 49, 50, 55], [49, 48, 53, 53, 53, 48, 48, 54, 56, 48, 51, 50, 50, 49, 56, 51, 49, 50, 55]]
def leF (i : Nat) : List UInt8 := leT.getD i []
theorem le_lt (i : Nat) (h : i < 3) : lN leL i < 2 ^ 256 := by
 match i, h with
 | 0, _ => decide
 | 1, _ => decide
 | 2, _ => decide
def otS : List UInt8 := [53, 52, 54, 50, 52, 51, 51, 51, 49, 51, 57, 53, 50, 52, 49, 50, 56]
def otT : List (List UInt8) := [[54, 52, 56, 49, 55], [49, 56, 49, 53, 49, 51, 53, 50, 54, 57], [52, 56, 55, 50, 54, 57, 48, 57, 49, 52, 52, 55, 48, 56, 49, 52, 50, 57]]
def otF (i : Nat) : List UInt8 := otT.getD i []
theorem ot_lt (i : Nat) (h : i < 3) : lN otL i < 2 ^ 256 := by
 match i, h with
 | 0, _ => decide
 | 1, _ => decide
 | 2, _ => decide
def grS : List UInt8 := [57, 49, 53, 49, 49, 53, 55, 51, 52, 49, 54, 54, 55, 52, 54, 57, 54, 49, 53, 56, 48, 48, 57, 57, 55, 49, 51, 48, 50, 51, 49, 52, 53, 52, 56, 54, 53, 52, 50, 53, 48, 49, 56, 49, 56, 49, 57, 49, 55, 57, 48, 52, 57, 50, 49, 52, 55, 57, 57, 55, 50, 55, 50, 57]
def grT : List (List UInt8) := [[54, 53, 53, 49, 57], [49, 51, 49, 51, 57, 49, 56, 48, 50, 55], [56, 56, 49, 55, 53, 53, 54, 55, 50, 48, 51, 55, 55, 57, 55, 54, 49], [54, 51, 53, 51, 55, 49, 57, 50, 50, 53, 54, 51, 51, 57, 57, 55, 53, 53, 49, 49, 57, 50, 57, 55, 54, 54, 54, 49, 56, 49, 53, 49, 55, 49], [49, 50, 56, 56, 54, 56, 55, 51, 53, 56, 52, 48, 57, 48, 53, 50, 52, 54, 53, 57, 55, 48, 48, 53, 54, 50, 50, 50, 56, 54, 55, 53, 51, 51, 56, 51, 53, 49, 48, 52, 56, 54, 51, 53, 57, 51, 48, 55, 54, 48, 57, 56, 52, 53, 56, 52, 51, 56, 53, 54, 49, 52, 51, 49, 56, 51]]
def grF (i : Nat) : List UInt8 := grT.getD i []
theorem gr_lt (i : Nat) (h : i < 5) : lN grL i < 2 ^ 256 := by
 match i, h with
 | 0, _ => decide
 | 1, _ => decide
 | 2, _ => decide
 | 3, _ => decide
 | 4, _ => decide
end Go.Proofs.YtgdalihjpemjiaaGreat
