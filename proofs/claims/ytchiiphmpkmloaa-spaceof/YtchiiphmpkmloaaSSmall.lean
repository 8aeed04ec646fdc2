/- The small functions of package sha, and of the document's. -/
import Derived.Test.YtchiiphmpkmloaaSLaw
namespace Go.Proofs.Ytchiiphmpkmloaa
open Go.RowKit
set_option linter.unusedVariables false
theorem rot_and (n : Nat) (h1 : 1 ≤ n) (h2 : n ≤ 31) : (18446744073709551616 - n) &&& 31 = 32 - n := by
 rw [show 31 = 2 ^ 5 - 1 from rfl, Nat.and_two_pow_sub_one_eq_mod]; omega
theorem rot_up (x n : Nat) (hx : x < 4294967296) (h1 : 2 ≤ n) (h2 : n ≤ 31) : x * 2 ^ (32 - n) < 4611686018427387904 := by
 have h3 : 2 ^ (32 - n) ≤ 2 ^ 30 := Nat.pow_le_pow_right (by omega) (by omega)
 have h4 : x * 2 ^ (32 - n) ≤ x * 2 ^ 30 := Nat.mul_le_mul_left x h3
 omega
theorem rot_or (x n : Nat) (hx : x < 4294967296) (h1 : 2 ≤ n) (h2 : n ≤ 31) : x / 2 ^ n ||| x * 2 ^ (32 - n) < 9223372036854775808 :=
 Nat.or_lt_two_pow (n := 63) (lt63 (div32 hx)) (Nat.lt_trans (rot_up x n hx h1 h2) (by decide))
end Go.Proofs.Ytchiiphmpkmloaa
