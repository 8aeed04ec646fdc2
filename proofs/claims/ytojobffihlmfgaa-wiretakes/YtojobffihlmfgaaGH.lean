/- wide.Div, AddMod, SubMod, MulMod. -/
import Derived.Test.YtojobffihlmfgaaGG
import Derived.Test.YtojobffihlmfgaaGF
import Derived.Test.YtojobffihlmfgaaGE
import Derived.Test.YtojobffihlmfgaaGA
namespace Go.Proofs.Ytojobffihlmfgaa
open Go.RowKit
end Go.Proofs.Ytojobffihlmfgaa
/- wide.SubMod and wide.Div. -/
namespace Go.Proofs.Ytojobffihlmfgaa
open Go.RowKit
/-- A difference by m, where m may be 0. -/
def subZ (A B M : Nat) : Nat := if M = 0 then 0 else (A % M + (M - B % M)) % M
end Go.Proofs.Ytojobffihlmfgaa
/- wide.Gcd. -/
namespace Go.Proofs.Ytojobffihlmfgaa
open Go.RowKit
end Go.Proofs.Ytojobffihlmfgaa
/- Plain mathematics: Euclid's way with factors; and the laws for guarded operations of a plain region. -/
namespace Go.Proofs.Ytojobffihlmfgaa
open Go.RowKit
/-- The sign, as a number. -/
def sg (neg : Bool) : Int := if neg = true then -1 else 1
/-- What is held at each turn: large, small, before, factor, below. -/
structure Iv (A M L S b f : Nat) (neg : Bool) : Prop where
 det : L * f + S * b = M
 lt : S < L
 ne : L ≠ 1
 pos : 1 ≤ f
 gcd : Nat.gcd L S = Nat.gcd A M
 low : (M : Int) ∣ (f : Int) * A - sg neg * S
 high : (M : Int) ∣ (b : Int) * A + sg neg * L
/-- The inverse, if there is one. -/
def invV (A M : Nat) : Nat := ((List.range M).find? fun x => x * A % M == 1).getD 0
/-- An empty literal. -/
theorem exec_build0 {P : Program} {o : Oper} {ρ : Operand → Value} (t : TypeId) (ho : o.op = .build t #[]) (c : Array Value) (hb : P.built t [] = some c) (w : World) : (execOp ρ o).run P w = .ok (.value (.agg c)) w := by
 unfold execOp
 simp only [ho, Sem.run_bind, run_build w t #[] c hb, Array.map_empty, Result.andThen_ok]
 rfl
end Go.Proofs.Ytojobffihlmfgaa
/- wide.InvMod where m is 0 or 1; what it hands back otherwise. -/
namespace Go.Proofs.Ytojobffihlmfgaa
open Go.RowKit
/-- What InvMod hands back, and its error. -/
def invZ (A M : Nat) : Nat := if M < 2 then 0 else if Nat.gcd A M = 1 then invV A M else 0
def errV (A M : Nat) : Int := if M < 2 then 1 else if Nat.gcd A M = 1 then 0 else 3
end Go.Proofs.Ytojobffihlmfgaa
/- Plain mathematics: an inverse is there where nothing goes into both. -/
namespace Go.Proofs.Ytojobffihlmfgaa
end Go.Proofs.Ytojobffihlmfgaa
/- One operation on integers, by its value: for the walk of a drawn region. -/
namespace Go.Proofs.Ytojobffihlmfgaa
open Go.RowKit
section
variable {P : Program} {o : Oper} {ρ : Operand → Value}
theorem exec_not (t : TypeId) (x : Operand) (ho : o.op = .unOp .not t x) (b : Bool) (hx : ρ x = .bool b) (w : World) : (execOp ρ o).run P w = .ok (.value (.bool (!b))) w := by
 unfold execOp
 simp only [ho, hx]
 simp [go_sem]
end
end Go.Proofs.Ytojobffihlmfgaa
