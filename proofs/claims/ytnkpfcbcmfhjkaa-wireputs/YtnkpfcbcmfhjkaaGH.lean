/- wide.Div, AddMod, SubMod, MulMod. -/
import Derived.Test.YtnkpfcbcmfhjkaaGG
namespace Go.Proofs.Ytnkpfcbcmfhjkaa
open Go.RowKit
end Go.Proofs.Ytnkpfcbcmfhjkaa
/- wide.SubMod and wide.Div. -/
namespace Go.Proofs.Ytnkpfcbcmfhjkaa
open Go.RowKit
/-- A difference by m, where m may be 0. -/
def subZ (A B M : Nat) : Nat := if M = 0 then 0 else (A % M + (M - B % M)) % M
end Go.Proofs.Ytnkpfcbcmfhjkaa
/- wide.Gcd. -/
namespace Go.Proofs.Ytnkpfcbcmfhjkaa
open Go.RowKit
end Go.Proofs.Ytnkpfcbcmfhjkaa
/- Plain mathematics: Euclid's way with factors; and the laws for guarded operations of a plain region. -/
namespace Go.Proofs.Ytnkpfcbcmfhjkaa
open Go.RowKit
/-- The sign, as a number. -/
def sg (neg : Bool) : Int := if neg = true then -1 else 1
/-- What is held at each turn: large, small, before, factor, below. -/
structure Iv (A M L S b f : Nat) (neg : Bool) : Prop where
 det : L * f + S * b = M
 lt : S < L
 ne : L ≠ 1
 pos : 1 ≤ f
 gcd : Nat.gcd L S = Nat.gcd A M
 low : (M : Int) ∣ (f : Int) * A - sg neg * S
 high : (M : Int) ∣ (b : Int) * A + sg neg * L
/-- The inverse, if there is one. -/
def invV (A M : Nat) : Nat := ((List.range M).find? fun x => x * A % M == 1).getD 0
end Go.Proofs.Ytnkpfcbcmfhjkaa
/- wide.InvMod where m is 0 or 1; what it hands back otherwise. -/
namespace Go.Proofs.Ytnkpfcbcmfhjkaa
open Go.RowKit
/-- What InvMod hands back, and its error. -/
def invZ (A M : Nat) : Nat := if M < 2 then 0 else if Nat.gcd A M = 1 then invV A M else 0
def errV (A M : Nat) : Int := if M < 2 then 1 else if Nat.gcd A M = 1 then 0 else 3
end Go.Proofs.Ytnkpfcbcmfhjkaa
/- Plain mathematics: an inverse is there where nothing goes into both. -/
namespace Go.Proofs.Ytnkpfcbcmfhjkaa
end Go.Proofs.Ytnkpfcbcmfhjkaa
/- One operation on integers, by its value: for the walk of a drawn region. -/
namespace Go.Proofs.Ytnkpfcbcmfhjkaa
open Go.RowKit
section
variable {P : Program} {o : Oper} {ρ : Operand → Value}
theorem exec_not (t : TypeId) (x : Operand) (ho : o.op = .unOp .not t x) (b : Bool) (hx : ρ x = .bool b) (w : World) : (execOp ρ o).run P w = .ok (.value (.bool (!b))) w := by
 unfold execOp
 simp only [ho, hx]
 simp [go_sem]
end
end Go.Proofs.Ytnkpfcbcmfhjkaa
