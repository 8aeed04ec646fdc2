/- The document's Div, AddMod, MulMod. -/
import Derived.Test.YteddgjoailpgaabGO
import Derived.Test.YteddgjoailpgaabGH
import Derived.Test.YteddgjoailpgaabGI
import Derived.Test.YteddgjoailpgaabGC
import Derived.Test.YteddgjoailpgaabGE
namespace Go.Proofs.Yteddgjoailpgaab
open Go.RowKit
end Go.Proofs.Yteddgjoailpgaab
/- The document's SubMod, Gcd, Inv. -/
namespace Go.Proofs.Yteddgjoailpgaab
open Go.RowKit
theorem exec_neq_i {P : Program} {o : Oper} {ρ : Operand → Value} (t : TypeId) (x y : Operand) (u : TypeId) (ho : o.op = .binOp .neq t x y u) (n m : Int) (hx : ρ x = .int .i64 n) (hy : ρ y = .int .i64 m) (w : World) :
  (execOp ρ o).run P w = .ok (.value (.bool (n != m))) w := by
 unfold execOp
 simp only [ho, hx, hy]
 simp [eqGuard, go_sem]
theorem exec_eql_i {P : Program} {o : Oper} {ρ : Operand → Value} (t : TypeId) (x y : Operand) (u : TypeId) (ho : o.op = .binOp .eql t x y u) (n m : Int) (hx : ρ x = .int .i64 n) (hy : ρ y = .int .i64 m) (w : World) :
  (execOp ρ o).run P w = .ok (.value (.bool (n == m))) w := by
 unfold execOp
 simp only [ho, hx, hy]
 simp [eqGuard, go_sem]
theorem exec_lss_i {P : Program} {o : Oper} {ρ : Operand → Value} (t : TypeId) (x y : Operand) (u : TypeId) (ho : o.op = .binOp .lss t x y u) (n m : Int) (hx : ρ x = .int .i64 n) (hy : ρ y = .int .i64 m) (w : World) :
  (execOp ρ o).run P w = .ok (.value (.bool (decide (n < m)))) w := by
 unfold execOp
 simp only [ho, hx, hy]
 simp [go_sem]
/-- What Euclid's way holds behind i steps. -/
def Eu (i x y : Nat) : Prop := i = 0 ∨ (y < x ∧ x * y * 2 ^ i < 2 * (2 ^ 256 * 2 ^ 256))
theorem eu_next (i x y : Nat) (hy : y < 2 ^ 256) (h0 : 0 < y) (h : Eu i x y) : Eu (i + 1) y (x % y) := by
 have hr := Nat.mod_lt x h0
 refine .inr ⟨hr, ?_⟩
 rcases h with rfl | ⟨h1, h2⟩
 ·have : y * (x % y) ≤ 2 ^ 256 * (2 ^ 256 - 1) := Nat.mul_le_mul (by omega) (by omega)
  omega
 ·have h3 : 1 ≤ x / y := (Nat.le_div_iff_mul_le h0).2 (by omega)
  have h4 := Nat.div_add_mod x y
  have h5 : y * 1 ≤ y * (x / y) := Nat.mul_le_mul_left _ h3
  have h6 : y * (x % y * 2) ≤ y * x := Nat.mul_le_mul_left _ (by omega)
  have h7 : y * (x % y) * 2 ^ (i + 1) ≤ x * y * 2 ^ i := by
   rw [Nat.pow_succ, Nat.mul_comm (2 ^ i) 2, ← Nat.mul_assoc, Nat.mul_assoc y, Nat.mul_comm x y]
   exact Nat.mul_le_mul_right _ h6
  omega
theorem eu_far (n m i x y : Nat) (hi : i = n + m) (h0 : 0 < i) (h : i = 0 ∨ (y < x ∧ x * y * 2 ^ i < 2 * (2 ^ n * 2 ^ m))) : y = 0 := by
 rcases h with h | ⟨h1, h2⟩
 ·omega
 ·rcases Nat.eq_zero_or_pos y with h3 | h3
  ·exact h3
  ·subst hi
   rw [← Nat.pow_add] at h2
   have h4 : 2 * 1 ≤ x * y := Nat.mul_le_mul (by omega) (by omega)
   have h5 : 2 * 2 ^ (n + m) ≤ x * y * 2 ^ (n + m) := Nat.mul_le_mul_right _ (by omega)
   omega
theorem eu_end (x y : Nat) (h : Eu 512 x y) : y = 0 := eu_far 256 256 512 x y rfl (by decide) h
/-- The rows that Gcd holds on to. -/
structure GcdH (wr w : World) (g4 g5 g6 x y : Nat) : Prop where
 z : Row wr g4 (natC 0) 24
 x : Row wr g5 (natC x) 24
 y : Row wr g6 (natC y) 24
 below : Below w.heap.size w wr
end Go.Proofs.Yteddgjoailpgaab
