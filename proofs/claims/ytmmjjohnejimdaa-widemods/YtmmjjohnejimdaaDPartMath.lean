/- Plain mathematics: a division bit by bit. -/
import Derived.Test.YtmmjjohnejimdaaDBelow
namespace Go.Proofs.Ytmmjjohnejimdaa

/-- What is left, and how often, behind the bits from g on. -/
def pR (A M g : Nat) : Nat := A / 2 ^ g % M
def pQ (A M g : Nat) : Nat := 2 ^ g * (A / 2 ^ g / M)
def pB (A g : Nat) : Nat := A / 2 ^ g % 2
theorem pB_le (A g : Nat) : pB A g ≤ 1 := by unfold pB; omega
theorem pR_zero (A M g : Nat) (h : A / 2 ^ g = 0) : pR A M g = 0 := by unfold pR; rw [h, Nat.zero_mod]
theorem pQ_zero (A M g : Nat) (h : A / 2 ^ g = 0) : pQ A M g = 0 := by unfold pQ; rw [h, Nat.zero_div, Nat.mul_zero]
theorem pR_far (A M : Nat) (h : A < 2 ^ 256 * 2 ^ 256) : pR A M 512 = 0 := pR_zero A M 512 (far_any A 256 256 512 rfl h)
theorem pQ_far (A M : Nat) (h : A < 2 ^ 256 * 2 ^ 256) : pQ A M 512 = 0 := pQ_zero A M 512 (far_any A 256 256 512 rfl h)
theorem pR_end (A M : Nat) : pR A M 0 = A % M := by unfold pR; rw [Nat.pow_zero, Nat.div_one]
theorem pQ_end (A M : Nat) : pQ A M 0 = A / M := by unfold pQ; rw [Nat.pow_zero, Nat.div_one, Nat.one_mul]
theorem p_half (A g : Nat) : A / 2 ^ g = 2 * (A / 2 ^ (g + 1)) + pB A g := by
  unfold pB
  rw [Nat.pow_succ, ← Nat.div_div_eq_div_mul]; omega
/-- The bit, as Go asks for it. -/
theorem pB_go (A g : Nat) : bits .and .i64 ((dg A (g / 16) / 2 ^ (g % 16) : Nat) : Int) 1 = (pB A g : Int) := by
  have hd := dg_lt A (g / 16)
  have h2 : dg A (g / 16) / 2 ^ (g % 16) ≤ dg A (g / 16) := Nat.div_le_self _ _
  rw [show (1 : Int) = ((1 : Nat) : Int) from rfl, i64_and_nat _ _ (by omega) (by decide), Nat.and_one_is_mod]
  congr 1
  have h3 : (dg A (g / 16)).testBit (g % 16) = A.testBit g := by
    rw [dg_testBit, show 16 * (g / 16) + g % 16 = g by omega]
    simp [Nat.mod_lt]
  rw [Nat.testBit_eq_decide_div_mod_eq, Nat.testBit_eq_decide_div_mod_eq] at h3
  unfold pB
  have h4 := decide_eq_decide.1 h3
  omega
theorem p_less (A M g r : Nat) (hM : 0 < M) (hr : r = 2 * pR A M (g + 1) + pB A g) (h : r < M) : pR A M g = r ∧ pQ A M g = pQ A M (g + 1) := by
  subst hr
  unfold pR pQ at *
  rw [p_half A g]
  have hd := Nat.div_add_mod (A / 2 ^ (g + 1)) M
  generalize A / 2 ^ (g + 1) = X at *
  generalize pB A g = b at *
  have e : 2 * X + b = M * (2 * (X / M)) + (2 * (X % M) + b) := by rw [← Nat.mul_assoc, Nat.mul_comm M 2, Nat.mul_assoc]; omega
  refine ⟨?_, ?_⟩
  · rw [e, Nat.mul_add_mod, Nat.mod_eq_of_lt h]
  · rw [e, Nat.mul_add_div hM, Nat.div_eq_of_lt h, Nat.add_zero, Nat.pow_succ, Nat.mul_assoc]
theorem p_more (A M g r : Nat) (hM : 0 < M) (hr : r = 2 * pR A M (g + 1) + pB A g) (h : M ≤ r) : pR A M g = r - M ∧ pQ A M g = pQ A M (g + 1) + 2 ^ g := by
  subst hr
  have hb := pB_le A g
  unfold pR pQ at *
  rw [p_half A g]
  have hd := Nat.div_add_mod (A / 2 ^ (g + 1)) M
  have hm := Nat.mod_lt (A / 2 ^ (g + 1)) hM
  generalize A / 2 ^ (g + 1) = X at *
  generalize pB A g = b at *
  have e : 2 * X + b = M * (2 * (X / M) + 1) + (2 * (X % M) + b - M) := by rw [Nat.mul_add, ← Nat.mul_assoc, Nat.mul_comm M 2, Nat.mul_assoc]; omega
  have hl : 2 * (X % M) + b - M < M := by omega
  refine ⟨?_, ?_⟩
  · rw [e, Nat.mul_add_mod, Nat.mod_eq_of_lt hl]
  · rw [e, Nat.mul_add_div hM, Nat.div_eq_of_lt hl, Nat.add_zero, Nat.mul_add, Nat.mul_one, Nat.pow_succ, Nat.mul_assoc]
theorem p_bound (A M g : Nat) (hM : 0 < M) (h2 : M < 2 ^ 256) : 2 * pR A M (g + 1) + pB A g < 2 ^ 256 * 2 ^ 256 := by
  have hb := pB_le A g
  have hm : pR A M (g + 1) < M := Nat.mod_lt _ hM
  have : (2 : Nat) ^ 256 * 2 ≤ 2 ^ 256 * 2 ^ 256 := Nat.mul_le_mul_left _ (by decide)
  omega
/-- One bit more, in its digit. -/
theorem p_set (X g : Nat) : (digC (2 ^ (g + 1) * X)).setIfInBounds (g / 16) (.int .i64 ((dg (2 ^ (g + 1) * X) (g / 16) ||| 2 ^ (g % 16) : Nat) : Int)) = digC (2 ^ (g + 1) * X + 2 ^ g) := by
  refine digF_set _ _ _ _ fun i _ => ?_
  have hlt : 2 ^ g < 2 ^ (g + 1) := Nat.pow_lt_pow_of_lt (by decide) (by omega)
  have hor := Nat.two_pow_add_eq_or_of_lt hlt X
  apply Nat.eq_of_testBit_eq
  intro j
  rw [hor]
  by_cases h1 : i = g / 16
  · subst h1
    rw [if_pos rfl, dg_testBit, Nat.testBit_or, Nat.testBit_or, dg_testBit, Nat.testBit_two_pow, Nat.testBit_two_pow]
    by_cases hj : j < 16
    · simp only [hj, decide_true, Bool.true_and]
      congr 1
      exact decide_eq_decide.2 (by omega)
    · simp [hj, show ¬ g % 16 = j by omega]
  · rw [if_neg h1, dg_testBit, Nat.testBit_or, dg_testBit, Nat.testBit_two_pow]
    by_cases hj : j < 16
    · simp [show ¬ g = 16 * i + j by omega]
    · simp [hj]
theorem p_or (L g : Nat) (hL : L < 65536) : bits .or .i64 (L : Int) (IntKind.i64.wrap (((1 : Nat) : Int) * 2 ^ (g % 16))) = ((L ||| 2 ^ (g % 16) : Nat) : Int) := by
  rw [show (((1 : Nat) : Int) * 2 ^ (g % 16)) = 2 ^ (g % 16) by simp]
  exact or_bit_i L (g % 16) (by omega) (by omega)
end Go.Proofs.Ytmmjjohnejimdaa
