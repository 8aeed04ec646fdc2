/- Plain mathematics: products limb by limb, quotients guessed limb by limb. -/
import Derived.Test.YtchiiphmpkmloaaLimb
import Derived.Test.YtchiiphmpkmloaaInv
namespace Go.Proofs.Ytchiiphmpkmloaa
theorem div_step (S P T : Nat) (hP : 0 < P) : (S + P * T) / P = S / P + T := Nat.add_mul_div_left S T hP
/-- What goes over when a natural is multiplied with a limb, and more is added. -/
def tlC (A L M k : Nat) : Nat := (A % 2 ^ (64 * k) * L + M % 2 ^ (64 * k)) / 2 ^ (64 * k)
theorem tlC_zero (A L M : Nat) : tlC A L M 0 = 0 := by simp [tlC, Nat.mod_one]
theorem tlC_lt (A L M k : Nat) (hL : L < 18446744073709551616) : tlC A L M k < 18446744073709551616 := by
 have hP := Nat.two_pow_pos (64 * k)
 have h1 := Nat.mod_lt A hP
 have h2 := Nat.mod_lt M hP
 unfold tlC
 generalize 2 ^ (64 * k) = P at *
 refine Nat.div_lt_of_lt_mul ?_
 have h3 : A % P * L ≤ (P - 1) * 18446744073709551615 := Nat.mul_le_mul (by omega) (by omega)
 omega
theorem tl_next (A L M k : Nat) : (A % 2 ^ (64 * (k + 1)) * L + M % 2 ^ (64 * (k + 1))) / 2 ^ (64 * k) = lm A k * L + lm M k + tlC A L M k := by
 have hP := Nat.two_pow_pos (64 * k)
 unfold tlC
 rw [mod_limb, mod_limb]
 generalize lm A k = x
 generalize lm M k = y
 generalize 2 ^ (64 * k) = P at *
 rw [show (A % P + P * x) * L + (M % P + P * y) = A % P * L + M % P + P * (x * L + y) by rw [Nat.add_mul, Nat.mul_add, Nat.mul_assoc]; omega, div_step _ _ _ hP]
 omega
theorem tl_carry (A L M k : Nat) : tlC A L M (k + 1) = (lm A k * L + lm M k + tlC A L M k) / 18446744073709551616 := by
 rw [← tl_next]
 conv => lhs; unfold tlC
 rw [pow_limb k, Nat.div_div_eq_div_mul, ← pow_limb k]
theorem mul_add_mod_limb (u L v : Nat) : (u * L + v) % 18446744073709551616 = (u % 18446744073709551616 * L + v) % 18446744073709551616 := by
 rw [Nat.add_mod, Nat.mul_mod, Nat.add_mod (u % 18446744073709551616 * L), Nat.mul_mod (u % 18446744073709551616) L, Nat.mod_mod]
theorem tl_limb (A L M k : Nat) : lm (A * L + M) k = (lm A k * L + lm M k + tlC A L M k) % 18446744073709551616 := by
 have hP := Nat.two_pow_pos (64 * k)
 unfold tlC lm
 rw [show (2 : Nat) ^ 64 = 18446744073709551616 from rfl]
 generalize 2 ^ (64 * k) = P at *
 have e : A * L + M = A % P * L + M % P + P * (A / P * L + M / P) := by
  conv => lhs; rw [← Nat.mod_add_div A P, ← Nat.mod_add_div M P]
  rw [Nat.add_mul, Nat.mul_add, Nat.mul_assoc]; omega
 rw [e, div_step _ _ _ hP, Nat.add_comm, Nat.add_assoc, mul_add_mod_limb]
 omega
/-- One round's limbs, as the code reckons them. -/
theorem tl_code (x m c : Nat) (hx : x ≤ 340282366920938463426481119284349108225) (hm : m < 18446744073709551616) (hc : c < 18446744073709551616) :
  addV (addV (x % 18446744073709551616) m 0) c 0 = (x + m + c) % 18446744073709551616 ∧
  x / 18446744073709551616 + addC (x % 18446744073709551616) m 0 < 18446744073709551616 ∧
  x / 18446744073709551616 + addC (x % 18446744073709551616) m 0 + addC (addV (x % 18446744073709551616) m 0) c 0 = (x + m + c) / 18446744073709551616 ∧
  (x + m + c) / 18446744073709551616 < 18446744073709551616 := by
 unfold addV addC
 refine ⟨by omega, by omega, by omega, by omega⟩
theorem mul_limbs_le (x y : Nat) (hx : x < 18446744073709551616) (hy : y < 18446744073709551616) : x * y ≤ 340282366920938463426481119284349108225 := Nat.mul_le_mul (show x ≤ 18446744073709551615 by omega) (show y ≤ 18446744073709551615 by omega)
theorem tlC_four (A L M : Nat) (hA : A < 2 ^ 256) (hM : M < 2 ^ 256) : tlC A L M 4 = (A * L + M) / 2 ^ 256 := by
 unfold tlC
 rw [show 64 * 4 = 256 from rfl, Nat.mod_eq_of_lt hA, Nat.mod_eq_of_lt hM]
/-- What is carried up in a product, by rows. -/
def muH (A B k : Nat) : Nat := A * (B % 2 ^ (64 * k)) / 2 ^ (64 * k)
theorem muH_zero (A B : Nat) : muH A B 0 = 0 := by simp [muH, Nat.mod_one]
theorem muH_lt (A B k : Nat) (hA : A < 2 ^ 256) : muH A B k < 2 ^ 256 := by
 have hP := Nat.two_pow_pos (64 * k)
 have h2 := Nat.mod_lt B hP
 unfold muH
 generalize 2 ^ (64 * k) = P at *
 refine Nat.div_lt_of_lt_mul ?_
 calc A * (B % P) ≤ A * P := Nat.mul_le_mul_left _ (by omega)
  _ < 2 ^ 256 * P := Nat.mul_lt_mul_of_pos_right hA hP
  _ = P * 2 ^ 256 := Nat.mul_comm _ _
theorem mu_row (A B k : Nat) : A * (B % 2 ^ (64 * (k + 1))) / 2 ^ (64 * k) = A * lm B k + muH A B k := by
 have hP := Nat.two_pow_pos (64 * k)
 unfold muH
 rw [mod_limb]
 generalize lm B k = x
 generalize 2 ^ (64 * k) = P at *
 rw [Nat.mul_add, show A * (P * x) = P * (A * x) by rw [Nat.mul_left_comm], div_step _ _ _ hP]
 omega
theorem mu_next (A B k : Nat) : muH A B (k + 1) = (A * lm B k + muH A B k) / 18446744073709551616 := by
 rw [← mu_row]
 conv => lhs; unfold muH
 rw [pow_limb k, Nat.div_div_eq_div_mul, ← pow_limb k]
theorem mu_limb (A B k : Nat) : lm (A * B) k = (A * lm B k + muH A B k) % 18446744073709551616 := by
 have hP := Nat.two_pow_pos (64 * k)
 unfold muH lm
 rw [show (2 : Nat) ^ 64 = 18446744073709551616 from rfl]
 generalize 2 ^ (64 * k) = P at *
 have e : A * B = A * (B % P) + P * (B / P * A) := by
  conv => lhs; rw [← Nat.mod_add_div B P]
  rw [Nat.mul_add, Nat.mul_left_comm A P, Nat.mul_comm A (B / P)]
 rw [e, div_step _ _ _ hP, Nat.add_comm, mul_add_mod_limb, Nat.mul_comm (B / P % 18446744073709551616) A]
theorem muH_four (A B : Nat) (hB : B < 2 ^ 256) : muH A B 4 = A * B / 2 ^ 256 := by
 unfold muH
 rw [show 64 * 4 = 256 from rfl, Nat.mod_eq_of_lt hB]
theorem lm_up (T i : Nat) : lm (T / 18446744073709551616) i = lm T (i + 1) := by
 unfold lm
 rw [Nat.div_div_eq_div_mul, Nat.mul_comm, ← pow_limb]
theorem natC_shift (T : Nat) (h : T / 2 ^ 256 < 18446744073709551616) : natC (T / 18446744073709551616) = #[.int .u64 (lm T 1), .int .u64 (lm T 2), .int .u64 (lm T 3), .int .u64 (T / 2 ^ 256 : Nat)] := by
 unfold natC
 rw [lm_up, lm_up, lm_up, lm_up, show lm T (3 + 1) = T / 2 ^ 256 from Nat.mod_eq_of_lt h]
theorem lm0 (T : Nat) : lm T 0 = T % 18446744073709551616 := by unfold lm; simp
/-- A limb below a natural. -/
theorem natC_onto (R l : Nat) (hl : l < 18446744073709551616) : natC (R * 18446744073709551616 + l) = #[.int .u64 l, .int .u64 (lm R 0), .int .u64 (lm R 1), .int .u64 (lm R 2)] := by
 have h0 : (R * 18446744073709551616 + l) / 18446744073709551616 = R := by omega
 unfold natC
 rw [← lm_up _ 0, ← lm_up _ 1, ← lm_up _ 2, h0, lm0, show (R * 18446744073709551616 + l) % 18446744073709551616 = l by omega]
theorem lm_topmost (R : Nat) (hR : R < 2 ^ 256) : lm R 3 = R / 2 ^ 192 := by
 unfold lm
 rw [show 64 * 3 = 192 from rfl]
 refine Nat.mod_eq_of_lt ?_
 rw [Nat.div_lt_iff_lt_mul (by decide)]
 exact hR
theorem onto_top (R l : Nat) (hR : R < 2 ^ 256) (hl : l < 18446744073709551616) : (R * 18446744073709551616 + l) / 2 ^ 256 = lm R 3 := by
 rw [lm_topmost R hR, show (2 : Nat) ^ 256 = 18446744073709551616 * 2 ^ 192 from rfl, ← Nat.div_div_eq_div_mul]
 congr 1
 omega
/-- The guess at a limb. -/
def gs (R M : Nat) : Nat := if lm M 3 ≤ lm R 3 then 18446744073709551615 else (lm R 3 * 18446744073709551616 + lm R 2) / lm M 3
theorem gs_lt (R M : Nat) : gs R M < 18446744073709551616 := by
 unfold gs
 split
 ·decide
 ·rename_i h
  have h2 := lm_lt R 2
  rw [Nat.div_lt_iff_lt_mul (by omega)]
  have h3 : (lm R 3 + 1) * 18446744073709551616 ≤ lm M 3 * 18446744073709551616 := Nat.mul_le_mul_right _ (by omega)
  omega
theorem gs_core (y v u K R l : Nat) (h1 : y ≤ R * 18446744073709551616 + l) (h5 : R < (u + 1) * K) (h6 : v * (18446744073709551616 * K) ≤ y) (hl : l < 18446744073709551616) : v ≤ u := by
 rcases Nat.lt_or_ge u v with hlt | hge
 ·exfalso
  have h7 : (u + 1) * K ≤ v * K := Nat.mul_le_mul_right _ hlt
  have h8 : v * (18446744073709551616 * K) = v * K * 18446744073709551616 := by rw [Nat.mul_comm 18446744073709551616 K, Nat.mul_assoc]
  omega
 ·exact hge
theorem gs_ge (R M l : Nat) (hR : R < 2 ^ 256) (hM : M < 2 ^ 256) (hRM : R < M) (hl : l < 18446744073709551616) : (R * 18446744073709551616 + l) / M ≤ gs R M := by
 have hq : (R * 18446744073709551616 + l) / M < 18446744073709551616 := by
  rw [Nat.div_lt_iff_lt_mul (by omega)]
  have : (R + 1) * 18446744073709551616 ≤ M * 18446744073709551616 := Nat.mul_le_mul_right _ (by omega)
  omega
 unfold gs
 split
 ·omega
 ·rename_i h
  have hm : 0 < lm M 3 := by omega
  rw [Nat.le_div_iff_mul_le hm]
  have h1 : (R * 18446744073709551616 + l) / M * M ≤ R * 18446744073709551616 + l := Nat.div_mul_le_self _ _
  generalize (R * 18446744073709551616 + l) / M = q at *
  have e1 := lm_topmost R hR
  have e2 := lm_topmost M hM
  have e3 : lm R 2 = R / 2 ^ 128 % 18446744073709551616 := rfl
  have h4 : lm M 3 * 2 ^ 192 ≤ M := by rw [e2]; exact Nat.div_mul_le_self _ _
  have h5 : R < (lm R 3 * 18446744073709551616 + lm R 2 + 1) * 2 ^ 128 := by
   rw [e1, e3]
   have : R / 2 ^ 192 = R / 2 ^ 128 / 18446744073709551616 := by rw [Nat.div_div_eq_div_mul]
   rw [this]
   have := Nat.lt_div_mul_add (a := R) (b := 2 ^ 128) (by decide)
   omega
  have h6 : q * (lm M 3 * 2 ^ 192) ≤ q * M := Nat.mul_le_mul_left _ h4
  rw [← Nat.mul_assoc] at h6
  exact gs_core _ _ _ _ _ _ h1 h5 h6 hl
theorem natC_far (X : Nat) : natC (X + 2 ^ 256 * 18446744073709551616) = natC X := by
 rw [← natC_full, Nat.add_mul_mod_self_left, natC_full]
/-- What is left when a limb has been guessed, above 0 by 2^320. -/
def zz (N M g : Nat) : Nat := N + 2 ^ 256 * 18446744073709551616 - g * M
theorem zz_small (M g : Nat) (hM : M < 2 ^ 256) (hg : g < 18446744073709551616) : g * M ≤ 2 ^ 256 * 18446744073709551616 - 2 ^ 256 := by
 have : g * M ≤ 18446744073709551615 * (2 ^ 256 - 1) := Nat.mul_le_mul (by omega) (by omega)
 have e : 18446744073709551615 * (2 ^ 256 - 1) ≤ 2 ^ 256 * 18446744073709551616 - 2 ^ 256 := by decide
 omega
theorem zz_done (N M : Nat) (hM : 0 < M) (hM2 : M < 2 ^ 256) : zz N M (N / M) = N % M + 2 ^ 256 * 18446744073709551616 ∧ zz N M (N / M) / 2 ^ 256 % 18446744073709551616 = 0 := by
 have h1 := Nat.div_add_mod N M
 have h2 := Nat.mod_lt N hM
 have e : zz N M (N / M) = N % M + 2 ^ 256 * 18446744073709551616 := by
  unfold zz
  rw [Nat.mul_comm M] at h1
  generalize N / M * M = x at *
  generalize N % M = y at *
  omega
 refine ⟨e, ?_⟩
 rw [e, div_step _ _ _ (by decide), Nat.div_eq_of_lt (by omega)]
theorem zz_more (N M g : Nat) (hM2 : M < 2 ^ 256) (hg : g < 18446744073709551616) (h : N / M < g) (hM : 0 < M) : zz N M g / 2 ^ 256 % 18446744073709551616 ≠ 0 := by
 have h1 := zz_small M g hM2 hg
 have h2 : N < g * M := (Nat.div_lt_iff_lt_mul hM).1 h
 have h3 : 2 ^ 256 ≤ zz N M g := by
  unfold zz
  have : (2 : Nat) ^ 256 ≤ 2 ^ 256 * 18446744073709551616 := by decide
  omega
 have h4 : zz N M g < 2 ^ 256 * 18446744073709551616 := by
  unfold zz
  omega
 have h5 : zz N M g / 2 ^ 256 < 18446744073709551616 := Nat.div_lt_of_lt_mul h4
 rw [Nat.mod_eq_of_lt h5]
 have : 1 ≤ zz N M g / 2 ^ 256 := (Nat.le_div_iff_mul_le (by decide)).2 (by omega)
 omega
theorem zz_pred (N M g : Nat) (hM2 : M < 2 ^ 256) (hg : g < 18446744073709551616) (h : 0 < g) : zz N M (g - 1) = zz N M g + M := by
 have h1 := zz_small M g hM2 hg
 unfold zz
 have h3 : 2 ^ 256 * 18446744073709551616 - 2 ^ 256 ≤ 2 ^ 256 * 18446744073709551616 := Nat.sub_le _ _
 have h4 : g * M = (g - 1) * M + M := by conv => lhs; rw [show g = g - 1 + 1 by omega, Nat.add_mul, Nat.one_mul]
 omega
theorem zz_over (Z M : Nat) (hM2 : M < 2 ^ 256) : (Z + M) / 2 ^ 256 = Z / 2 ^ 256 + cN Z M 256 := by
 rw [cN_eq, add_div Z M _ (by decide), Nat.div_eq_of_lt hM2]
 omega
/-- The first rest, as the code reckons it: low limbs, then what is over. -/
theorem zz_first (N Y : Nat) (hY : Y ≤ 2 ^ 256 * 18446744073709551616) : (N + 2 ^ 256 * 18446744073709551616 - Y) % 2 ^ 256 = less (N % 2 ^ 256) (Y % 2 ^ 256) % 2 ^ 256 ∧
  (N + 2 ^ 256 * 18446744073709551616 - Y) / 2 ^ 256 + Y / 2 ^ 256 + bN (N % 2 ^ 256) (Y % 2 ^ 256) 256 = N / 2 ^ 256 + 18446744073709551616 := by
 unfold bN less
 rw [Nat.mod_mod, Nat.mod_mod]
 have h1 := Nat.div_add_mod N (2 ^ 256)
 have h2 := Nat.div_add_mod Y (2 ^ 256)
 have h3 := Nat.mod_lt N (show 0 < 2 ^ 256 by decide)
 have h4 := Nat.mod_lt Y (show 0 < 2 ^ 256 by decide)
 generalize (2 : Nat) ^ 256 = P at *
 generalize N / P = n1 at *
 generalize N % P = n0 at *
 generalize Y / P = y1 at *
 generalize Y % P = y0 at *
 subst h1 h2
 have hle : y1 ≤ n1 + 18446744073709551616 := by
  rcases Nat.lt_or_ge (n1 + 18446744073709551616) y1 with h | h
  ·have := Nat.mul_le_mul_left P (show n1 + 18446744073709551616 + 1 ≤ y1 from h)
   rw [Nat.mul_add, Nat.mul_add] at this
   omega
  ·exact h
 by_cases hlt : n0 < y0
 ·rw [if_pos hlt]
  have hlt' : y1 + 1 ≤ n1 + 18446744073709551616 := by
   rcases Nat.lt_or_ge (n1 + 18446744073709551616) (y1 + 1) with h | h
   ·obtain rfl : y1 = n1 + 18446744073709551616 := by omega
    rw [Nat.mul_add] at hY
    omega
   ·exact h
  obtain ⟨t, ht⟩ := Nat.le.dest hlt'
  have e : P * n1 + n0 + P * 18446744073709551616 - (P * y1 + y0) = n0 + P - y0 + P * t := by
   have := congrArg (P * ·) ht
   simp only [Nat.mul_add, Nat.mul_one] at this
   omega
  rw [e]
  refine ⟨?_, ?_⟩
  ·rw [Nat.add_mul_mod_self_left]
   congr 1; omega
  ·rw [div_step _ _ _ (by omega), Nat.div_eq_of_lt (by omega)]
   omega
 ·rw [if_neg hlt]
  obtain ⟨t, ht⟩ := Nat.le.dest hle
  have e : P * n1 + n0 + P * 18446744073709551616 - (P * y1 + y0) = n0 - y0 + P * t := by
   have := congrArg (P * ·) ht
   simp only [Nat.mul_add] at this
   omega
  rw [e]
  refine ⟨?_, ?_⟩
  ·rw [Nat.add_mul_mod_self_left]
   rw [show n0 + (P - y0) = n0 - y0 + P * 1 by omega, Nat.add_mul_mod_self_left]
  ·rw [div_step _ _ _ (by omega), Nat.div_eq_of_lt (by omega)]
   omega
end Go.Proofs.Ytchiiphmpkmloaa
