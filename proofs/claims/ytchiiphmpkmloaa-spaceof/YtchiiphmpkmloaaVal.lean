/- Plain mathematics: a natural's limbs and bits as a row's cells; no program. -/
import Derived.WalkKit
namespace Go.Proofs.Ytchiiphmpkmloaa
/-- Limb number i of N. -/
def lm (N i : Nat) : Nat := N / 2 ^ (64 * i) % 2 ^ 64
/-- The four cells of a natural. -/
def natC (N : Nat) : Array Value := #[.int .u64 (lm N 0), .int .u64 (lm N 1), .int .u64 (lm N 2), .int .u64 (lm N 3)]
/-- The 256 cells of a natural's bits. -/
def bitC (N : Nat) : Array Value := Array.ofFn (n := 256) fun i => .bool (N.testBit i)
theorem lm_lt (N i : Nat) : lm N i < 18446744073709551616 := Nat.mod_lt _ (by decide)
theorem natC_size (N : Nat) : (natC N).size = 4 := rfl
theorem natC_get (N i : Nat) (h : i < 4) : (natC N)[i]? = some (.int .u64 (lm N i)) := by
 match i, h with
 | 0, _ => rfl
 | 1, _ => rfl
 | 2, _ => rfl
 | 3, _ => rfl
theorem natC_one (N : Nat) : (natC N).all (·.oneCell') = true := by simp [natC, Value.oneCell']
theorem bitC_size (N : Nat) : (bitC N).size = 256 := by simp [bitC]
theorem bitC_get (N i : Nat) (h : i < 256) : (bitC N)[i]? = some (.bool (N.testBit i)) := by simp [bitC, h]
theorem bitC_one (N : Nat) : (bitC N).all (·.oneCell') = true := by
 rw [Array.all_eq_true_iff_forall_mem]
 intro v hv
 simp only [bitC, Array.mem_ofFn] at hv
 obtain ⟨i, rfl⟩ := hv
 rfl
theorem bitC_zero : bitC 0 = Array.replicate 256 (.bool false) := by
 apply Array.ext_getElem?
 intro i
 by_cases h : i < 256
 ·rw [bitC_get 0 i h]; simp [h]
 ·rw [Array.getElem?_eq_none (by rw [bitC_size]; omega), Array.getElem?_eq_none (by simp; omega)]
theorem bitC_set (N M k : Nat) (b : Bool) (h : ∀ i, i < 256 → M.testBit i = if i = k then b else N.testBit i) : (bitC N).setIfInBounds k (.bool b) = bitC M := by
 apply Array.ext_getElem?
 intro i
 by_cases hi : i < 256
 ·rw [Array.getElem?_setIfInBounds, bitC_get M i hi, h i hi]
  by_cases hk : k = i
  ·subst hk; simp [bitC_size, hi]
  ·rw [if_neg hk, bitC_get N i hi, if_neg (fun e => hk e.symm)]
 ·rw [Array.getElem?_eq_none (by simp [bitC_size]; omega), Array.getElem?_eq_none (by rw [bitC_size]; omega)]
/-- One bit more. -/
theorem bitC_snoc (N k : Nat) (b : Bool) (hb : b = N.testBit k) : (bitC (N % 2 ^ k)).setIfInBounds k (.bool b) = bitC (N % 2 ^ (k + 1)) :=
 bitC_set _ _ _ _ fun i _ => by
  subst hb
  rw [Nat.testBit_mod_two_pow, Nat.testBit_mod_two_pow]
  by_cases e : i = k
  ·subst e; simp
  ·rw [if_neg e]
   by_cases h1 : i < k
   ·simp [h1, Nat.lt_succ_of_lt h1]
   ·simp [h1, show ¬ i < k + 1 by omega]
theorem bitC_full (N : Nat) : bitC (N % 2 ^ 256) = bitC N := by
 apply Array.ext_getElem?
 intro i
 by_cases hi : i < 256
 ·rw [bitC_get _ i hi, bitC_get N i hi, Nat.testBit_mod_two_pow]; simp [hi]
 ·rw [Array.getElem?_eq_none (by rw [bitC_size]; omega), Array.getElem?_eq_none (by rw [bitC_size]; omega)]
/-- Bit k of N, in the limb that holds it. -/
theorem lm_bit (N k : Nat) : (lm N (k / 64)).testBit (k % 64) = N.testBit k := by
 unfold lm
 rw [Nat.testBit_mod_two_pow, Nat.testBit_div_two_pow]
 have : k % 64 < 64 := Nat.mod_lt _ (by decide)
 simp only [this, decide_true, Bool.true_and]
 congr 1
 omega
/-- A bit as Go asks for it: shifted down, held against one. -/
theorem bit_test (L j : Nat) (h : L < 18446744073709551616) : (bits .and .u64 ((L : Int) / 2 ^ j) 1 == 1) = L.testBit j := by
 have h1 : ((L : Int) / 2 ^ j) = ((L / 2 ^ j : Nat) : Int) := by simp
 have h2 : L / 2 ^ j < 18446744073709551616 := Nat.lt_of_le_of_lt (Nat.div_le_self _ _) h
 rw [h1, show (1 : Int) = ((1 : Nat) : Int) from rfl, u64_and_nat _ _ h2 (by decide), Nat.and_one_is_mod, Nat.testBit_eq_decide_div_mod_eq]
 by_cases e : L / 2 ^ j % 2 = 1
 ·rw [e]; rfl
 ·have : L / 2 ^ j % 2 = 0 := by omega
  rw [this]; rfl
theorem lm_testBit (N i j : Nat) : (lm N i).testBit j = (decide (j < 64) && N.testBit (64 * i + j)) := by
 unfold lm
 rw [Nat.testBit_mod_two_pow, Nat.testBit_div_two_pow, Nat.add_comm]
theorem natC_set (N M j v : Nat) (hj : j < 4) (hv : lm M j = v) (h : ∀ i, i < 4 → i ≠ j → lm M i = lm N i) : (natC N).setIfInBounds j (.int .u64 v) = natC M := by
 apply Array.ext_getElem?
 intro i
 by_cases hi : i < 4
 ·rw [Array.getElem?_setIfInBounds, natC_get M i hi]
  by_cases e : j = i
  ·subst e; simp [natC_size, hj, hv]
  ·rw [if_neg e, natC_get N i hi, h i hi (fun x => e x.symm)]
 ·rw [Array.getElem?_eq_none (by simp [natC_size]; omega), Array.getElem?_eq_none (by rw [natC_size]; omega)]
theorem wrap_u64 (x : Nat) (h : x < 18446744073709551616) : IntKind.u64.wrap (x : Int) = (x : Int) := by
 rw [IntKind.wrap_u64]; omega
theorem or_bit (L j : Nat) (hL : L < 18446744073709551616) (hj : j < 64) : bits .or .u64 (L : Int) (IntKind.u64.wrap (2 ^ j)) = ((L ||| 2 ^ j : Nat) : Int) := by
 have h2 : 2 ^ j < 18446744073709551616 := Nat.pow_lt_pow_of_lt (a := 2) (n := j) (m := 64) (by decide) hj
 rw [show ((2 : Int) ^ j) = ((2 ^ j : Nat) : Int) by simp, wrap_u64 _ h2, u64_or_nat _ _ hL h2]
theorem mod_snoc_no (N k : Nat) (h : N.testBit k = false) : N % 2 ^ (k + 1) = N % 2 ^ k := by
 apply Nat.eq_of_testBit_eq
 intro i
 rw [Nat.testBit_mod_two_pow, Nat.testBit_mod_two_pow]
 by_cases e : i = k
 ·subst e; simp [h]
 ·by_cases h1 : i < k
  ·simp [h1, Nat.lt_succ_of_lt h1]
  ·simp [h1, show ¬ i < k + 1 by omega]
/-- One bit more, in its limb. -/
theorem natC_snoc (N k : Nat) (h : N.testBit k = true) (hk : k < 256) : (natC (N % 2 ^ k)).setIfInBounds (k / 64) (.int .u64 ((lm (N % 2 ^ k) (k / 64) ||| 2 ^ (k % 64) : Nat) : Int)) = natC (N % 2 ^ (k + 1)) := by
 refine natC_set _ _ _ _ (by omega) ?_ ?_
 ·apply Nat.eq_of_testBit_eq
  intro j
  rw [Nat.testBit_or, Nat.testBit_two_pow, lm_testBit, lm_testBit, Nat.testBit_mod_two_pow, Nat.testBit_mod_two_pow]
  by_cases hj : j < 64
  ·by_cases e : k % 64 = j
   ·have e2 : 64 * (k / 64) + j = k := by omega
    rw [e2]; simp [hj, e, h]
   ·have e2 : ¬ (64 * (k / 64) + j = k) := by omega
    by_cases h1 : 64 * (k / 64) + j < k
    ·simp [h1, Nat.lt_succ_of_lt h1, e]
    ·simp [h1, show ¬ 64 * (k / 64) + j < k + 1 by omega, e]
  ·simp [hj, show ¬ k % 64 = j by omega]
 ·intro i hi hne
  apply Nat.eq_of_testBit_eq
  intro j
  rw [lm_testBit, lm_testBit, Nat.testBit_mod_two_pow, Nat.testBit_mod_two_pow]
  by_cases hj : j < 64
  ·have e2 : ¬ (64 * i + j = k) := by omega
   by_cases h1 : 64 * i + j < k
   ·simp [h1, Nat.lt_succ_of_lt h1]
   ·simp [h1, show ¬ 64 * i + j < k + 1 by omega]
  ·simp [hj]
theorem lm_full (N i : Nat) (hi : i < 4) : lm (N % 2 ^ 256) i = lm N i := by
 apply Nat.eq_of_testBit_eq
 intro j
 rw [lm_testBit, lm_testBit, Nat.testBit_mod_two_pow]
 by_cases hj : j < 64
 ·simp [hj, show 64 * i + j < 256 by omega]
 ·simp [hj]
theorem natC_full (N : Nat) : natC (N % 2 ^ 256) = natC N := by
 unfold natC
 rw [lm_full N 0 (by omega), lm_full N 1 (by omega), lm_full N 2 (by omega), lm_full N 3 (by omega)]
theorem natC_inj {N M : Nat} (h : natC N = natC M) : N % 2 ^ 256 = M % 2 ^ 256 := by
 have hl : ∀ i, i < 4 → lm N i = lm M i := fun i hi => by
  have h1 := natC_get N i hi
  rw [h, natC_get M i hi] at h1
  simp only [Option.some.injEq, Value.int.injEq, true_and] at h1
  omega
 apply Nat.eq_of_testBit_eq
 intro k
 rw [Nat.testBit_mod_two_pow, Nat.testBit_mod_two_pow]
 by_cases hk : k < 256
 ·rw [← lm_bit N k, ← lm_bit M k, hl _ (by omega)]
 ·simp [hk]
/-- What goes over into bit k when A and B are added. -/
def carry (A B k : Nat) : Bool := decide (2 ^ k ≤ A % 2 ^ k + B % 2 ^ k)
theorem carry_zero (A B : Nat) : carry A B 0 = false := by simp [carry, Nat.mod_one]
theorem bit_cases (A k : Nat) : (A.testBit k = false ∧ A / 2 ^ k % 2 = 0 ∧ A % 2 ^ (k + 1) = A % 2 ^ k) ∨ (A.testBit k = true ∧ A / 2 ^ k % 2 = 1 ∧ A % 2 ^ (k + 1) = A % 2 ^ k + 2 ^ k) := by
 rw [Nat.testBit_eq_decide_div_mod_eq, Nat.mod_pow_succ]
 have h : A / 2 ^ k % 2 = 0 ∨ A / 2 ^ k % 2 = 1 := by omega
 rcases h with h | h <;> rw [h] <;> simp
theorem add_div (A B P : Nat) (hP : 0 < P) : (A + B) / P = A / P + B / P + if P ≤ A % P + B % P then 1 else 0 := by
 have h1 : A + B = P * (A / P + B / P) + (A % P + B % P) := by
  have := Nat.div_add_mod A P
  have := Nat.div_add_mod B P
  rw [Nat.mul_add]; omega
 have ha := Nat.mod_lt A hP
 have hb := Nat.mod_lt B hP
 rw [h1, Nat.mul_add_div hP]
 split
 ·rw [show (A % P + B % P) / P = 1 from Nat.div_eq_of_lt_le (by omega) (by omega)]
 ·rw [show (A % P + B % P) / P = 0 from Nat.div_eq_of_lt (by omega)]
theorem add_bit (A B k : Nat) : (A + B).testBit k = ((A.testBit k != B.testBit k) != carry A B k) := by
 have hP : 0 < 2 ^ k := Nat.two_pow_pos k
 rw [Nat.testBit_eq_decide_div_mod_eq, add_div A B _ hP]
 unfold carry
 rcases bit_cases A k with ⟨h1, h2, _⟩ | ⟨h1, h2, _⟩ <;> rcases bit_cases B k with ⟨h3, h4, _⟩ | ⟨h3, h4, _⟩ <;> rw [h1, h3] <;> by_cases h : 2 ^ k ≤ A % 2 ^ k + B % 2 ^ k <;> simp [h] <;> omega
theorem carry_succ (A B k : Nat) : carry A B (k + 1) = (A.testBit k && B.testBit k || carry A B k && (A.testBit k || B.testBit k)) := by
 have hP : 0 < 2 ^ k := Nat.two_pow_pos k
 have ha := Nat.mod_lt A hP
 have hb := Nat.mod_lt B hP
 unfold carry
 have hs : 2 ^ (k + 1) = 2 ^ k + 2 ^ k := by rw [Nat.pow_succ]; omega
 rcases bit_cases A k with ⟨h1, _, h2⟩ | ⟨h1, _, h2⟩ <;> rcases bit_cases B k with ⟨h3, _, h4⟩ | ⟨h3, _, h4⟩ <;> rw [h1, h3, h2, h4, hs] <;> by_cases h : 2 ^ k ≤ A % 2 ^ k + B % 2 ^ k <;> simp [h] <;> omega
theorem wrap_i64 (x : Nat) (h : x < 9223372036854775808) : IntKind.i64.wrap (x : Int) = (x : Int) := by
 rw [IntKind.wrap_i64]; omega
theorem i64_and_nat (a b : Nat) (ha : a < 9223372036854775808) (hb : b < 9223372036854775808) : bits .and .i64 (a : Int) (b : Int) = ((a &&& b : Nat) : Int) := by
 have hx : a &&& b < 2 ^ 63 := Nat.and_lt_two_pow _ (by omega)
 show IntKind.i64.wrap ((BitVec.ofInt 64 (a : Int) &&& BitVec.ofInt 64 (b : Int)).toNat : Int) = _
 rw [BitVec.toNat_and, ofInt_u64 a (by omega), ofInt_u64 b (by omega)]
 exact wrap_i64 _ hx
theorem i64_or_nat (a b : Nat) (ha : a < 9223372036854775808) (hb : b < 9223372036854775808) : bits .or .i64 (a : Int) (b : Int) = ((a ||| b : Nat) : Int) := by
 have hx : a ||| b < 2 ^ 63 := Nat.or_lt_two_pow (by omega) (by omega)
 show IntKind.i64.wrap ((BitVec.ofInt 64 (a : Int) ||| BitVec.ofInt 64 (b : Int)).toNat : Int) = _
 rw [BitVec.toNat_or, ofInt_u64 a (by omega), ofInt_u64 b (by omega)]
 exact wrap_i64 _ hx
theorem bit_test_i (L j : Nat) (h : L < 9223372036854775808) : (bits .and .i64 ((L : Int) / 2 ^ j) 1 == 1) = L.testBit j := by
 have h1 : ((L : Int) / 2 ^ j) = ((L / 2 ^ j : Nat) : Int) := by simp
 have h2 : L / 2 ^ j < 9223372036854775808 := Nat.lt_of_le_of_lt (Nat.div_le_self _ _) h
 rw [h1, show (1 : Int) = ((1 : Nat) : Int) from rfl, i64_and_nat _ _ h2 (by decide), Nat.and_one_is_mod, Nat.testBit_eq_decide_div_mod_eq]
 by_cases e : L / 2 ^ j % 2 = 1
 ·rw [e]; rfl
 ·have : L / 2 ^ j % 2 = 0 := by omega
  rw [this]; rfl
theorem or_bit_i (L j : Nat) (hL : L < 9223372036854775808) (hj : j < 63) : bits .or .i64 (L : Int) (IntKind.i64.wrap (2 ^ j)) = ((L ||| 2 ^ j : Nat) : Int) := by
 have h2 : 2 ^ j < 9223372036854775808 := Nat.pow_lt_pow_of_lt (a := 2) (n := j) (m := 63) (by decide) hj
 rw [show ((2 : Int) ^ j) = ((2 ^ j : Nat) : Int) by simp, wrap_i64 _ h2, i64_or_nat _ _ hL h2]
theorem mod_snoc_or (N k : Nat) (h : N.testBit k = true) : N % 2 ^ k ||| 2 ^ k = N % 2 ^ (k + 1) := by
 apply Nat.eq_of_testBit_eq
 intro i
 rw [Nat.testBit_or, Nat.testBit_two_pow, Nat.testBit_mod_two_pow, Nat.testBit_mod_two_pow]
 by_cases e : k = i
 ·subst e; simp [h]
 ·by_cases h1 : i < k
  ·simp [h1, Nat.lt_succ_of_lt h1, e]
  ·simp [h1, show ¬ i < k + 1 by omega, e]
end Go.Proofs.Ytchiiphmpkmloaa
