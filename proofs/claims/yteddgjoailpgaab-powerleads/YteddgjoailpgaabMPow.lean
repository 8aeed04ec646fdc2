/- The document's Times, Power and Exp: powers by any natural. -/
import Derived.Test.YteddgjoailpgaabWDivS
import Derived.Test.YteddgjoailpgaabMRef
namespace Go.Proofs.Yteddgjoailpgaab
open Go.RowKit
theorem exec_geq_i {P : Program} {o : Oper} {ρ : Operand → Value} (t : TypeId) (x y : Operand) (u : TypeId) (ho : o.op = .binOp .geq t x y u) (n m : Int) (hx : ρ x = .int .i64 n) (hy : ρ y = .int .i64 m) (b : Bool) (hb : decide (m ≤ n) = b) (w : World) :
  (execOp ρ o).run P w = .ok (.value (.bool b)) w := by
 subst hb
 unfold execOp
 simp only [ho, hx, hy]
 simp [go_sem]
theorem exec_sub_ir {P : Program} {o : Oper} {ρ : Operand → Value} (t : TypeId) (x y : Operand) (u : TypeId) (ho : o.op = .binOp .sub t x y u) (n m r : Int) (hx : ρ x = .int .i64 n) (hy : ρ y = .int .i64 m) (hr : IntKind.i64.wrap (n - m) = r) (w : World) :
  (execOp ρ o).run P w = .ok (.value (.int .i64 r)) w := by
 subst hr
 unfold execOp
 simp only [ho, hx, hy]
 simp [go_sem]
theorem wrap_small (z : Int) (h1 : -9223372036854775808 ≤ z) (h2 : z < 9223372036854775808) : IntKind.i64.wrap z = z := by
 rw [IntKind.wrap_i64]; omega
theorem half_bit (E k : Nat) : E / 2 ^ k = E / 2 ^ (k + 1) + E / 2 ^ (k + 1) + E / 2 ^ k % 2 := by
 rw [Nat.pow_succ, ← Nat.div_div_eq_div_mul]
 omega
theorem pw_sq (a x m : Nat) : a ^ x % m * (a ^ x % m) % m = a ^ (x + x) % m := by
 rw [← Nat.mul_mod, ← Nat.pow_add]
/-- A power by bits: a bit that is not set, and one that is. -/
theorem pw_bit0 (a E k m : Nat) (h : ¬ E / 2 ^ k % 2 = 1) : a ^ (E / 2 ^ (k + 1)) % m * (a ^ (E / 2 ^ (k + 1)) % m) % m = a ^ (E / 2 ^ k) % m := by
 rw [pw_sq, show E / 2 ^ k = E / 2 ^ (k + 1) + E / 2 ^ (k + 1) by have := half_bit E k; omega]
theorem pw_bit1 (a E k m : Nat) (h : E / 2 ^ k % 2 = 1) : a ^ (E / 2 ^ (k + 1)) % m * (a ^ (E / 2 ^ (k + 1)) % m) % m * a % m = a ^ (E / 2 ^ k) % m := by
 rw [pw_sq, Nat.mod_mul_mod, ← Nat.pow_succ, show E / 2 ^ k = E / 2 ^ (k + 1) + E / 2 ^ (k + 1) + 1 by have := half_bit E k; omega]
theorem pw_start (a E m : Nat) : 1 % m = a ^ (E / 2 ^ bitLen E) % m := by
 rw [Nat.div_eq_of_lt (lt_bitLen E _ (Nat.le_refl _)), Nat.pow_zero]
theorem bitI_set (E k : Nat) (hk : k < 256) (h : E / 2 ^ k % 2 = 1) : bitI E (k : Int) = 1 := by
 unfold bitI
 rw [if_pos ⟨by omega, by omega, by rw [Int.toNat_natCast, Nat.testBit_eq_decide_div_mod_eq, h]; rfl⟩]
theorem bitI_not (E k : Nat) (h : ¬ E / 2 ^ k % 2 = 1) : bitI E (k : Int) = 0 := by
 unfold bitI
 rw [if_neg]
 rintro ⟨_, _, h3⟩
 rw [Int.toNat_natCast, Nat.testBit_eq_decide_div_mod_eq, decide_eq_true_iff] at h3
 exact h h3
end Go.Proofs.Yteddgjoailpgaab
