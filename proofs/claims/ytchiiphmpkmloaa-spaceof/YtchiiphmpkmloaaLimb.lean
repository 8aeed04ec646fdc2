/- Plain mathematics: sums and rests, limb by limb. -/
import Derived.Test.YtchiiphmpkmloaaVal
namespace Go.Proofs.Ytchiiphmpkmloaa
theorem lm_mod (N k i : Nat) : lm (N % 2 ^ (64 * k)) i = if i < k then lm N i else 0 := by
 apply Nat.eq_of_testBit_eq
 intro j
 rw [lm_testBit, Nat.testBit_mod_two_pow]
 split
 ·rw [lm_testBit]
  by_cases hj : j < 64
  ·simp [hj, show 64 * i + j < 64 * k by omega]
  ·simp [hj]
 ·rw [Nat.zero_testBit]
  by_cases hj : j < 64
  ·simp [show ¬ 64 * i + j < 64 * k by omega]
  ·simp [hj]
theorem natC_limb (N k v : Nat) (hk : k < 4) (hv : v = lm N k) : (natC (N % 2 ^ (64 * k))).setIfInBounds k (.int .u64 v) = natC (N % 2 ^ (64 * (k + 1))) := by
 subst hv
 refine natC_set _ _ _ _ hk ?_ ?_
 ·rw [lm_mod, if_pos (by omega)]
 ·intro i _ hne
  rw [lm_mod, lm_mod]
  by_cases h : i < k
  ·rw [if_pos (by omega), if_pos h]
  ·rw [if_neg (by omega), if_neg h]
/-- What goes over, as a number. -/
def cN (A B k : Nat) : Nat := if carry A B k = true then 1 else 0
theorem cN_le (A B k : Nat) : cN A B k ≤ 1 := by unfold cN; split <;> omega
theorem cN_eq (A B k : Nat) : cN A B k = if 2 ^ k ≤ A % 2 ^ k + B % 2 ^ k then 1 else 0 := by unfold cN carry; simp
theorem pow_limb (k : Nat) : 2 ^ (64 * (k + 1)) = 2 ^ (64 * k) * 18446744073709551616 := by
 rw [show 64 * (k + 1) = 64 * k + 64 by omega, Nat.pow_add]
theorem add_limb (A B k : Nat) : lm (A + B) k = (lm A k + lm B k + cN A B (64 * k)) % 18446744073709551616 := by
 have hP := Nat.two_pow_pos (64 * k)
 rw [cN_eq]
 show (A + B) / 2 ^ (64 * k) % 18446744073709551616 = (A / 2 ^ (64 * k) % 18446744073709551616 + B / 2 ^ (64 * k) % 18446744073709551616 + _) % 18446744073709551616
 rw [add_div A B _ hP]
 omega
theorem mod_limb (A k : Nat) : A % 2 ^ (64 * (k + 1)) = A % 2 ^ (64 * k) + 2 ^ (64 * k) * lm A k := by
 rw [pow_limb, Nat.mod_mul]; rfl
theorem add_carry (A B k : Nat) : cN A B (64 * (k + 1)) = (lm A k + lm B k + cN A B (64 * k)) / 18446744073709551616 := by
 have hP := Nat.two_pow_pos (64 * k)
 have ha := Nat.mod_lt A hP
 have hb := Nat.mod_lt B hP
 have la := lm_lt A k
 have lb := lm_lt B k
 rw [cN_eq, cN_eq, mod_limb, mod_limb, pow_limb]
 generalize lm A k = x at *
 generalize lm B k = y at *
 generalize 2 ^ (64 * k) = P at *
 generalize A % P = a at *
 generalize B % P = b at *
 have key : ∀ u v : Nat, u ≤ v → P * u ≤ P * v := fun u v h => Nat.mul_le_mul_left P h
 have e1 : P * (x + y) = P * x + P * y := Nat.mul_add P x y
 by_cases hc : P ≤ a + b
 ·rw [if_pos hc]
  by_cases hm : 18446744073709551616 ≤ x + y + 1
  ·have := key 18446744073709551616 (x + y + 1) hm
   rw [Nat.mul_add, Nat.mul_one] at this
   rw [if_pos (by omega)]; omega
  ·have := key (x + y + 2) 18446744073709551616 (by omega)
   rw [Nat.mul_add] at this
   rw [if_neg (by omega)]; omega
 ·rw [if_neg hc]
  by_cases hm : 18446744073709551616 ≤ x + y
  ·have := key 18446744073709551616 (x + y) hm
   rw [if_pos (by omega)]; omega
  ·have := key (x + y + 1) 18446744073709551616 (by omega)
   rw [Nat.mul_add, Nat.mul_one] at this
   rw [if_neg (by omega)]; omega
/-- What is borrowed at bit k when B is taken from A. -/
def bN (A B k : Nat) : Nat := if A % 2 ^ k < B % 2 ^ k then 1 else 0
theorem bN_le (A B k : Nat) : bN A B k ≤ 1 := by unfold bN; split <;> omega
theorem sub_borrow (A B k : Nat) : bN A B (64 * (k + 1)) = if lm A k < lm B k + bN A B (64 * k) then 1 else 0 := by
 have hP := Nat.two_pow_pos (64 * k)
 have ha := Nat.mod_lt A hP
 have hb := Nat.mod_lt B hP
 unfold bN
 rw [mod_limb, mod_limb]
 generalize lm A k = x at *
 generalize lm B k = y at *
 generalize 2 ^ (64 * k) = P at *
 generalize A % P = a at *
 generalize B % P = b at *
 have key : ∀ u v : Nat, u ≤ v → P * u ≤ P * v := fun u v h => Nat.mul_le_mul_left P h
 obtain ⟨c, hc, e⟩ : ∃ c, (if a < b then 1 else 0) = c ∧ ((a < b ∧ c = 1) ∨ (¬ a < b ∧ c = 0)) := ⟨_, rfl, by
  by_cases hc : a < b
  ·exact .inl ⟨hc, if_pos hc⟩
  ·exact .inr ⟨hc, if_neg hc⟩⟩
 rw [hc]
 rcases Nat.lt_trichotomy x y with h | h | h
 ·have := key (x + 1) y h
  rw [Nat.mul_add, Nat.mul_one] at this
  rw [if_pos (by omega), if_pos (by omega)]
 ·subst h
  rcases e with ⟨e1, e2⟩ | ⟨e1, e2⟩
  ·rw [if_pos (by omega), if_pos (by omega)]
  ·rw [if_neg (by omega), if_neg (by omega)]
 ·have := key (y + 1) x h
  rw [Nat.mul_add, Nat.mul_one] at this
  rw [if_neg (by omega), if_neg (by omega)]
/-- A less B, modulo 2^256. -/
def less (A B : Nat) : Nat := A + (2 ^ 256 - B)
theorem less_div (A B Q P : Nat) (hP : 0 < P) (hB : B < P * Q) : (A + (P * Q - B)) / P = A / P + Q - B / P - if A % P < B % P then 1 else 0 := by
 have ha := Nat.div_add_mod A P
 have hb := Nat.div_add_mod B P
 have ma := Nat.mod_lt A hP
 have mb := Nat.mod_lt B hP
 have hbQ : B / P < Q := Nat.div_lt_of_lt_mul hB
 generalize A / P = x at *
 generalize B / P = y at *
 generalize A % P = a at *
 generalize B % P = b at *
 obtain ⟨z, rfl⟩ : ∃ z, Q = y + 1 + z := ⟨Q - (y + 1), by omega⟩
 have e : P * (y + 1 + z) = P * y + P + P * z := by rw [Nat.mul_add, Nat.mul_add, Nat.mul_one]
 split
 ·have : A + (P * (y + 1 + z) - B) = P * (x + z) + (P + a - b) := by have e2 : P * (x + z) = P * x + P * z := Nat.mul_add _ _ _; omega
  rw [this, Nat.mul_add_div hP, Nat.div_eq_of_lt (by omega)]
  omega
 ·have e2 : P * (x + z + 1) = P * x + P * z + P := by rw [Nat.mul_add, Nat.mul_add, Nat.mul_one]
  have : A + (P * (y + 1 + z) - B) = P * (x + z + 1) + (a - b) := by omega
  rw [this, Nat.mul_add_div hP, Nat.div_eq_of_lt (by omega)]
  omega
theorem sub_limb (A B k : Nat) (hk : k < 4) (hB : B < 2 ^ 256) : lm (less A B) k = (lm A k + 18446744073709551616 - lm B k - bN A B (64 * k)) % 18446744073709551616 := by
 have hP := Nat.two_pow_pos (64 * k)
 have hQ : 2 ^ 256 = 2 ^ (64 * k) * (2 ^ (64 * (3 - k)) * 18446744073709551616) := by
  rw [← Nat.mul_assoc, ← Nat.pow_add, show 18446744073709551616 = 2 ^ 64 from rfl, ← Nat.pow_add]
  congr 1; omega
 unfold less bN lm
 rw [hQ] at hB ⊢
 rw [less_div A B _ _ hP hB]
 have hbQ : B / 2 ^ (64 * k) < 2 ^ (64 * (3 - k)) * 18446744073709551616 := Nat.div_lt_of_lt_mul hB
 generalize A / 2 ^ (64 * k) = x at *
 generalize B / 2 ^ (64 * k) = y at *
 generalize 2 ^ (64 * (3 - k)) = z at *
 split <;> omega
end Go.Proofs.Ytchiiphmpkmloaa
