/- The document's Nats: the lower, and the higher 256 bits of digits. -/
import Derived.Test.YteddgjoailpgaabGM
import Derived.Test.YteddgjoailpgaabGE
import Derived.Test.YteddgjoailpgaabGC
import Derived.Test.YteddgjoailpgaabGI
namespace Go.Proofs.Yteddgjoailpgaab
open Go.RowKit
end Go.Proofs.Yteddgjoailpgaab
/- Plain mathematics: a product digit by digit. -/
namespace Go.Proofs.Yteddgjoailpgaab
/-- The digits of a number whose digit m is named. -/
theorem dg_put (low m d h j : Nat) (hl : low < 2 ^ (16 * m)) (hd : d < 65536) :
  dg (low + 2 ^ (16 * m) * (d + 65536 * h)) j = if j < m then dg low j else if j = m then d else dg h (j - m - 1) := by
 by_cases h1 : j < m
 ·rw [if_pos h1]
  have e := dg_mod (low + 2 ^ (16 * m) * (d + 65536 * h)) m j
  rw [if_pos h1, Nat.add_mul_mod_self_left, Nat.mod_eq_of_lt hl] at e
  exact e.symm
 ·rw [if_neg h1]
  have hP := Nat.two_pow_pos (16 * m)
  by_cases h2 : j = m
  ·subst h2
   rw [if_pos rfl]
   unfold dg
   rw [Nat.add_mul_div_left _ _ hP, Nat.div_eq_of_lt hl]
   omega
  ·rw [if_neg h2]
   unfold dg
   obtain ⟨n, rfl⟩ : ∃ n, j = m + 1 + n := ⟨j - m - 1, by omega⟩
   rw [show 16 * (m + 1 + n) = 16 * m + (16 + 16 * n) by omega, Nat.pow_add, ← Nat.div_div_eq_div_mul, Nat.add_mul_div_left _ _ hP, Nat.div_eq_of_lt hl, Nat.pow_add, ← Nat.div_div_eq_div_mul,
    show (0 + (d + 65536 * h)) / 2 ^ 16 = h by omega, show m + 1 + n - m - 1 = n by omega]
/-- A number with another digit m. -/
def putD (U m d : Nat) : Nat := U % 2 ^ (16 * m) + 2 ^ (16 * m) * (d + 65536 * (U / 2 ^ (16 * m) / 65536))
theorem putD_is (U m : Nat) : U = U % 2 ^ (16 * m) + 2 ^ (16 * m) * (dg U m + 65536 * (U / 2 ^ (16 * m) / 65536)) := by
 have h1 := Nat.div_add_mod U (2 ^ (16 * m))
 have h2 : dg U m + 65536 * (U / 2 ^ (16 * m) / 65536) = U / 2 ^ (16 * m) := by unfold dg; omega
 rw [h2]; omega
theorem putD_cells (U m d : Nat) (hd : d < 65536) : (digC U).setIfInBounds m (.int .i64 (d : Nat)) = digC (putD U m d) := by
 refine digF_set _ _ _ _ fun i _ => ?_
 have hl := Nat.mod_lt U (Nat.two_pow_pos (16 * m))
 unfold putD
 rw [dg_put _ m d _ i hl hd]
 by_cases h1 : i = m
 ·subst h1; rw [if_neg (by omega), if_pos rfl, if_pos rfl]
 ·have e := putD_is U m
  have e2 : dg U i = dg (U % 2 ^ (16 * m) + 2 ^ (16 * m) * (dg U m + 65536 * (U / 2 ^ (16 * m) / 65536))) i := by rw [← e]
  rw [e2, dg_put _ m _ _ i hl (dg_lt _ _)]
  by_cases h2 : i < m
  ·rw [if_pos h2, if_pos h2, if_neg h1]
  ·rw [if_neg h2, if_neg h2, if_neg h1, if_neg h1, if_neg h1]
theorem putD_sum (U m d x : Nat) (hx : x = dg U m) : putD U m d + 2 ^ (16 * m) * x = U + 2 ^ (16 * m) * d := by
 subst hx
 have e := putD_is U m
 unfold putD
 generalize U / 2 ^ (16 * m) / 65536 = h at *
 rw [Nat.mul_add] at e ⊢
 omega
theorem putD_lt (U m d n : Nat) (hd : d < 65536) (hm : m < n) (hU : U < 2 ^ (16 * n)) : putD U m d < 2 ^ (16 * n) := by
 have hP := Nat.two_pow_pos (16 * m)
 have hl := Nat.mod_lt U hP
 have e : 2 ^ (16 * n) = 2 ^ (16 * m) * (65536 * 2 ^ (16 * (n - m - 1))) := by
  rw [show 65536 = 2 ^ 16 from rfl, ← Nat.pow_add, ← Nat.pow_add]
  congr 1; omega
 rw [e] at hU ⊢
 have h1 : U / 2 ^ (16 * m) < 65536 * 2 ^ (16 * (n - m - 1)) := Nat.div_lt_of_lt_mul hU
 have h2 : U / 2 ^ (16 * m) / 65536 < 2 ^ (16 * (n - m - 1)) := Nat.div_lt_of_lt_mul h1
 unfold putD
 generalize U / 2 ^ (16 * m) / 65536 = h at *
 generalize 2 ^ (16 * (n - m - 1)) = Q at *
 have h3 : 2 ^ (16 * m) * (d + 65536 * h + 1) ≤ 2 ^ (16 * m) * (65536 * Q) := Nat.mul_le_mul_left _ (by omega)
 rw [Nat.mul_add _ _ 1] at h3
 omega
/-- What holds behind k turns of the inner loop. -/
def Sm (A B i k U c : Nat) : Prop := U + 2 ^ (16 * (i + k)) * c = A % 2 ^ (16 * i) * B + dg A i * (B % 2 ^ (16 * k)) * 2 ^ (16 * i) ∧ U < 2 ^ (16 * (i + 16)) ∧ c < 65536
theorem sm_first (A B i U : Nat) (hU : U = A % 2 ^ (16 * i) * B) (hB : B < 2 ^ (16 * 16)) : Sm A B i 0 U 0 := by
 refine ⟨?_, ?_, by decide⟩
 ·rw [Nat.mul_zero, Nat.mul_zero, Nat.pow_zero, Nat.mod_one, Nat.mul_zero, Nat.zero_mul]; exact congrArg (· + 0) hU
 ·rw [hU, Nat.mul_add, Nat.pow_add]
  have hl := Nat.mod_lt A (Nat.two_pow_pos (16 * i))
  rcases Nat.eq_zero_or_pos B with h0 | h0
  ·rw [h0, Nat.mul_zero]; exact Nat.mul_pos (Nat.two_pow_pos _) (Nat.two_pow_pos _)
  ·exact Nat.mul_lt_mul_of_lt_of_lt hl hB
theorem sm_next (A B i k U c t : Nat) (hk : k < 16) (h : Sm A B i k U c) (ht : t = dg U (i + k) + dg A i * dg B k + c) :
  t < 4294967296 ∧ Sm A B i (k + 1) (putD U (i + k) (t % 65536)) (t / 65536) := by
 obtain ⟨h1, h2, h3⟩ := h
 have a1 := dg_lt A i
 have b1 := dg_lt B k
 have u1 := dg_lt U (i + k)
 have m1 : dg A i * dg B k ≤ 65535 * 65535 := Nat.mul_le_mul (by omega) (by omega)
 have hs := putD_sum U (i + k) (t % 65536) _ rfl
 have hlt := putD_lt U (i + k) (t % 65536) (i + 16) (by omega) (by omega) h2
 refine ⟨by omega, ?_, hlt, by omega⟩
 rw [show i + (k + 1) = i + k + 1 by omega, pow_digit, mod_digit B k, Nat.mul_add (dg A i), Nat.add_mul (dg A i * _), ← Nat.add_assoc, ← h1]
 have e1 : dg A i * (2 ^ (16 * k) * dg B k) * 2 ^ (16 * i) = 2 ^ (16 * (i + k)) * (dg A i * dg B k) := by
  rw [Nat.mul_add, Nat.pow_add, Nat.mul_left_comm (dg A i), Nat.mul_comm _ (2 ^ (16 * i)), ← Nat.mul_assoc]
 rw [e1]
 generalize 2 ^ (16 * (i + k)) = Z at *
 generalize putD U (i + k) (t % 65536) = V at *
 generalize dg U (i + k) = u at *
 generalize dg A i * dg B k = p at *
 have e2 : Z * 65536 * (t / 65536) + Z * (t % 65536) = Z * t := by
  rw [Nat.mul_assoc, ← Nat.mul_add, Nat.div_add_mod]
 have e3 : Z * t = Z * u + Z * p + Z * c := by rw [ht, Nat.mul_add, Nat.mul_add]
 omega
theorem sm_last (A B i U c : Nat) (hB : B < 2 ^ (16 * 16)) (h : Sm A B i 16 U c) : (digC U).setIfInBounds (i + 16) (.int .i64 (c : Nat)) = digC (A % 2 ^ (16 * (i + 1)) * B) := by
 obtain ⟨h1, h2, h3⟩ := h
 rw [putD_cells U (i + 16) c h3]
 congr 1
 unfold putD
 rw [Nat.mod_eq_of_lt h2, Nat.div_eq_of_lt h2, Nat.zero_div, Nat.mul_zero, Nat.add_zero c, h1, Nat.mod_eq_of_lt hB, mod_digit, Nat.add_mul, Nat.mul_comm (2 ^ (16 * i)), Nat.mul_assoc (dg A i), Nat.mul_assoc (dg A i), Nat.mul_comm B]
end Go.Proofs.Yteddgjoailpgaab
/- The document's Mul: the product, digit by digit. -/
namespace Go.Proofs.Yteddgjoailpgaab
open Go.RowKit
theorem cast_quo (u p c : Nat) : (((u + p + c) / 65536 : Nat) : Int) = ((u : Int) + (p : Int) + c) / 65536 := by omega
theorem cast_rem (u p c : Nat) : (((u + p + c) % 65536 : Nat) : Int) = ((u : Int) + (p : Int) + c) % 65536 := by omega
end Go.Proofs.Yteddgjoailpgaab
/- Plain mathematics: a division bit by bit. -/
namespace Go.Proofs.Yteddgjoailpgaab
/-- What is left, and how often, behind the bits from g on. -/
def pR (A M g : Nat) : Nat := A / 2 ^ g % M
def pQ (A M g : Nat) : Nat := 2 ^ g * (A / 2 ^ g / M)
def pB (A g : Nat) : Nat := A / 2 ^ g % 2
theorem pB_le (A g : Nat) : pB A g ≤ 1 := by unfold pB; omega
theorem pR_zero (A M g : Nat) (h : A / 2 ^ g = 0) : pR A M g = 0 := by unfold pR; rw [h, Nat.zero_mod]
theorem pQ_zero (A M g : Nat) (h : A / 2 ^ g = 0) : pQ A M g = 0 := by unfold pQ; rw [h, Nat.zero_div, Nat.mul_zero]
theorem pR_far (A M : Nat) (h : A < 2 ^ 256 * 2 ^ 256) : pR A M 512 = 0 := pR_zero A M 512 (far_any A 256 256 512 rfl h)
theorem pQ_far (A M : Nat) (h : A < 2 ^ 256 * 2 ^ 256) : pQ A M 512 = 0 := pQ_zero A M 512 (far_any A 256 256 512 rfl h)
theorem pR_end (A M : Nat) : pR A M 0 = A % M := by unfold pR; rw [Nat.pow_zero, Nat.div_one]
theorem pQ_end (A M : Nat) : pQ A M 0 = A / M := by unfold pQ; rw [Nat.pow_zero, Nat.div_one, Nat.one_mul]
theorem p_half (A g : Nat) : A / 2 ^ g = 2 * (A / 2 ^ (g + 1)) + pB A g := by
 unfold pB
 rw [Nat.pow_succ, ← Nat.div_div_eq_div_mul]; omega
/-- The bit, as Go asks for it. -/
theorem pB_go (A g : Nat) : bits .and .i64 ((dg A (g / 16) / 2 ^ (g % 16) : Nat) : Int) 1 = (pB A g : Int) := by
 have hd := dg_lt A (g / 16)
 have h2 : dg A (g / 16) / 2 ^ (g % 16) ≤ dg A (g / 16) := Nat.div_le_self _ _
 rw [show (1 : Int) = ((1 : Nat) : Int) from rfl, i64_and_nat _ _ (by omega) (by decide), Nat.and_one_is_mod]
 congr 1
 have h3 : (dg A (g / 16)).testBit (g % 16) = A.testBit g := by
  rw [dg_testBit, show 16 * (g / 16) + g % 16 = g by omega]
  simp [Nat.mod_lt]
 rw [Nat.testBit_eq_decide_div_mod_eq, Nat.testBit_eq_decide_div_mod_eq] at h3
 unfold pB
 have h4 := decide_eq_decide.1 h3
 omega
theorem p_less (A M g r : Nat) (hM : 0 < M) (hr : r = 2 * pR A M (g + 1) + pB A g) (h : r < M) : pR A M g = r ∧ pQ A M g = pQ A M (g + 1) := by
 subst hr
 unfold pR pQ at *
 rw [p_half A g]
 have hd := Nat.div_add_mod (A / 2 ^ (g + 1)) M
 generalize A / 2 ^ (g + 1) = X at *
 generalize pB A g = b at *
 have e : 2 * X + b = M * (2 * (X / M)) + (2 * (X % M) + b) := by rw [← Nat.mul_assoc, Nat.mul_comm M 2, Nat.mul_assoc]; omega
 refine ⟨?_, ?_⟩
 ·rw [e, Nat.mul_add_mod, Nat.mod_eq_of_lt h]
 ·rw [e, Nat.mul_add_div hM, Nat.div_eq_of_lt h, Nat.add_zero, Nat.pow_succ, Nat.mul_assoc]
theorem p_more (A M g r : Nat) (hM : 0 < M) (hr : r = 2 * pR A M (g + 1) + pB A g) (h : M ≤ r) : pR A M g = r - M ∧ pQ A M g = pQ A M (g + 1) + 2 ^ g := by
 subst hr
 have hb := pB_le A g
 unfold pR pQ at *
 rw [p_half A g]
 have hd := Nat.div_add_mod (A / 2 ^ (g + 1)) M
 have hm := Nat.mod_lt (A / 2 ^ (g + 1)) hM
 generalize A / 2 ^ (g + 1) = X at *
 generalize pB A g = b at *
 have e : 2 * X + b = M * (2 * (X / M) + 1) + (2 * (X % M) + b - M) := by rw [Nat.mul_add, ← Nat.mul_assoc, Nat.mul_comm M 2, Nat.mul_assoc]; omega
 have hl : 2 * (X % M) + b - M < M := by omega
 refine ⟨?_, ?_⟩
 ·rw [e, Nat.mul_add_mod, Nat.mod_eq_of_lt hl]
 ·rw [e, Nat.mul_add_div hM, Nat.div_eq_of_lt hl, Nat.add_zero, Nat.mul_add, Nat.mul_one, Nat.pow_succ, Nat.mul_assoc]
theorem p_bound (A M g : Nat) (hM : 0 < M) (h2 : M < 2 ^ 256) : 2 * pR A M (g + 1) + pB A g < 2 ^ 256 * 2 ^ 256 := by
 have hb := pB_le A g
 have hm : pR A M (g + 1) < M := Nat.mod_lt _ hM
 have : (2 : Nat) ^ 256 * 2 ≤ 2 ^ 256 * 2 ^ 256 := Nat.mul_le_mul_left _ (by decide)
 omega
/-- One bit more, in its digit. -/
theorem p_set (X g : Nat) : (digC (2 ^ (g + 1) * X)).setIfInBounds (g / 16) (.int .i64 ((dg (2 ^ (g + 1) * X) (g / 16) ||| 2 ^ (g % 16) : Nat) : Int)) = digC (2 ^ (g + 1) * X + 2 ^ g) := by
 refine digF_set _ _ _ _ fun i _ => ?_
 have hlt : 2 ^ g < 2 ^ (g + 1) := Nat.pow_lt_pow_of_lt (by decide) (by omega)
 have hor := Nat.two_pow_add_eq_or_of_lt hlt X
 apply Nat.eq_of_testBit_eq
 intro j
 rw [hor]
 by_cases h1 : i = g / 16
 ·subst h1
  rw [if_pos rfl, dg_testBit, Nat.testBit_or, Nat.testBit_or, dg_testBit, Nat.testBit_two_pow, Nat.testBit_two_pow]
  by_cases hj : j < 16
  ·simp only [hj, decide_true, Bool.true_and]
   congr 1
   exact decide_eq_decide.2 (by omega)
  ·simp [hj, show ¬ g % 16 = j by omega]
 ·rw [if_neg h1, dg_testBit, Nat.testBit_or, dg_testBit, Nat.testBit_two_pow]
  by_cases hj : j < 16
  ·simp [show ¬ g = 16 * i + j by omega]
  ·simp [hj]
theorem p_or (L g : Nat) (hL : L < 65536) : bits .or .i64 (L : Int) (IntKind.i64.wrap (((1 : Nat) : Int) * 2 ^ (g % 16))) = ((L ||| 2 ^ (g % 16) : Nat) : Int) := by
 rw [show (((1 : Nat) : Int) * 2 ^ (g % 16)) = 2 ^ (g % 16) by simp]
 exact or_bit_i L (g % 16) (by omega) (by omega)
end Go.Proofs.Yteddgjoailpgaab
