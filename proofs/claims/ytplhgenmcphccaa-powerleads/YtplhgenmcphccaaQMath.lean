/- Plain mathematics of layer 9: powers of what is 1 to the Q. -/
import Derived.Test.YtplhgenmcphccaaPM
import Derived.Test.YtplhgenmcphccaaFA
import Derived.Test.YtplhgenmcphccaaGT
namespace Go.Proofs.Ytplhgenmcphccaa
theorem qp_add {P Q G : Nat} (h2 : 2 ≤ P) (h : G ^ Q % P = 1) (a b : Nat) : G ^ a % P * (G ^ b % P) % P = G ^ ((a + b) % Q) % P := by
 rw [← Nat.mul_mod, ← Nat.pow_add]
 exact pow_by h2 h _
theorem qp_mul {P Q G : Nat} (h2 : 2 ≤ P) (h : G ^ Q % P = 1) (a b : Nat) : (G ^ a % P) ^ b % P = G ^ (a * b % Q) % P := by
 rw [← Nat.pow_mod, ← Nat.pow_mul]
 exact pow_by h2 h _
theorem qp_two {P Q G : Nat} (h2 : 2 ≤ P) (h : G ^ Q % P = 1) (a b : Nat) : prd (fun i => two2 (G ^ a % P) (G ^ b % P) i ^ two2 b a i) 2 % P = G ^ ((a * b % Q + a * b % Q) % Q) % P := by
 show 1 * (G ^ a % P) ^ b * (G ^ b % P) ^ a % P = _
 rw [Nat.one_mul, Nat.mul_mod, qp_mul h2 h, qp_mul h2 h, qp_add h2 h, Nat.mul_comm b a]
theorem neg_mul (a Q : Nat) (hQ : 0 < Q) : a * (Q - 1) % Q = sbN 0 a Q := by
 unfold sbN
 rw [Nat.zero_mod, Nat.zero_add, Nat.mul_mod, Nat.mul_mod_mod]
 have hr := Nat.mod_lt a hQ
 generalize a % Q = r at *
 cases r with
 | zero => rw [Nat.zero_mul, Nat.zero_mod, Nat.sub_zero, Nat.mod_self]
 | succ r =>
  have e : (r + 1) * (Q - 1) = (Q - (r + 1)) + Q * r := by
   obtain ⟨k, rfl⟩ : ∃ k, Q = r + 1 + k := ⟨Q - (r + 1), by omega⟩
   rw [show r + 1 + k - 1 = r + k by omega, Nat.add_sub_cancel_left]
   simp only [Nat.add_mul, Nat.mul_add, Nat.one_mul]
   rw [Nat.mul_comm k r]
   omega
  rw [e, Nat.add_mul_mod_self_left]
theorem qp_inv {P Q G : Nat} (h2 : 2 ≤ P) (hQ : 0 < Q) (h : G ^ Q % P = 1) (a : Nat) : (G ^ a % P) ^ (Q - 1) % P = G ^ sbN 0 a Q % P := by
 rw [qp_mul h2 h, neg_mul a Q hQ]
theorem qp_one {P Q G : Nat} (h2 : 2 ≤ P) (hQ : 0 < Q) (h : G ^ Q % P = 1) (a : Nat) : G ^ a % P * (G ^ sbN 0 a Q % P) % P = 1 := by
 rw [qp_add h2 h]
 have e : (a + sbN 0 a Q) % Q = 0 := by
  unfold sbN
  rw [Nat.zero_mod, Nat.zero_add, Nat.add_mod_mod]
  have hr := Nat.mod_lt a hQ
  have e2 : a + (Q - a % Q) = Q * (a / Q + 1) := by
   rw [Nat.mul_add, Nat.mul_one]
   have := Nat.div_add_mod a Q
   omega
  rw [e2, Nat.mul_mod_right]
 rw [e, Nat.pow_zero, Nat.mod_eq_of_lt h2]
end Go.Proofs.Ytplhgenmcphccaa
