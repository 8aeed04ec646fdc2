/- The document's functions of layer 3 that need no loop: May and Form. -/
import Derived.Test.YteddgjoailpgaabGT
namespace Go.Proofs.Yteddgjoailpgaab
open Go.RowKit
theorem exec_and1_u {P : Program} {o : Oper} {ρ : Operand → Value} (t : TypeId) (x y : Operand) (u : TypeId) (ho : o.op = .binOp .and t x y u) (n : Nat) (hn : n < 18446744073709551616) (hx : ρ x = .int .u64 n) (hy : ρ y = .int .u64 1) (w : World) :
  (execOp ρ o).run P w = .ok (.value (.int .u64 ((n % 2 : Nat) : Int))) w := by
 have h1 : bits .and .u64 (n : Int) 1 = ((n % 2 : Nat) : Int) := by
  have := bits_and_u64_nat n 1 hn (by decide)
  rw [Nat.and_one_is_mod] at this
  exact this
 unfold execOp
 simp only [ho, hx, hy]
 simp [go_sem]
 rw [h1]
 rfl
theorem form_plain (A M : Nat) (q : RgQ M) : fm M (mt A 1 M) = A % M := by
 unfold fm mt
 rw [Nat.mod_mul_mod, Nat.mul_one, Nat.mul_assoc, Nat.mul_mod, ri_is M q.odd q.two, Nat.mul_one, Nat.mod_mod]
end Go.Proofs.Yteddgjoailpgaab
