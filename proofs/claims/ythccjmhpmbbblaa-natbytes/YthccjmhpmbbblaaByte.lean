/- Plain mathematics: a natural's bytes. -/
import Derived.Test.YthccjmhpmbbblaaLimb
namespace Go.Proofs.Ythccjmhpmbbblaa

/-- Byte number k of A, the lowest first. -/
def byt (A k : Nat) : Nat := A / 2 ^ (8 * k) % 256
theorem byt_lt (A k : Nat) : byt A k < 256 := Nat.mod_lt _ (by decide)
theorem byt_bit (A k j : Nat) : (byt A k).testBit j = (decide (j < 8) && A.testBit (8 * k + j)) := by
  unfold byt
  rw [show 256 = 2 ^ 8 from rfl, Nat.testBit_mod_two_pow, Nat.testBit_div_two_pow, Nat.add_comm]
/-- A byte out of the limb that holds it. -/
theorem lm_byt (A k : Nat) : lm A (k / 8) / 2 ^ (k % 8 * 8) % 256 = byt A k := by
  apply Nat.eq_of_testBit_eq
  intro j
  rw [byt_bit, show 256 = 2 ^ 8 from rfl, Nat.testBit_mod_two_pow, Nat.testBit_div_two_pow, lm_testBit]
  by_cases hj : j < 8
  · rw [decide_eq_true hj, decide_eq_true (show j + k % 8 * 8 < 64 by omega), show 64 * (k / 8) + (j + k % 8 * 8) = 8 * k + j by omega]
    simp
  · simp [hj]
theorem byt_mod (A k i : Nat) : byt (A % 2 ^ (8 * k)) i = if i < k then byt A i else 0 := by
  apply Nat.eq_of_testBit_eq
  intro j
  rw [byt_bit, Nat.testBit_mod_two_pow]
  split
  · rw [byt_bit]
    by_cases hj : j < 8
    · simp [hj, show 8 * i + j < 8 * k by omega]
    · simp [hj]
  · rw [Nat.zero_testBit]
    by_cases hj : j < 8
    · simp [show ¬ 8 * i + j < 8 * k by omega]
    · simp [hj]
/-- The 32 cells of a natural's bytes, the highest first. -/
def byteC (A : Nat) : Array Value := Array.ofFn (n := 32) fun i => .int .u8 (byt A (31 - i))
theorem byteC_size (A : Nat) : (byteC A).size = 32 := by simp [byteC]
theorem byteC_get (A i : Nat) (h : i < 32) : (byteC A)[i]? = some (.int .u8 (byt A (31 - i))) := by simp [byteC, h]
theorem byteC_snoc (A k v : Nat) (hk : k < 32) (hv : v = byt A k) : (byteC (A % 2 ^ (8 * k))).setIfInBounds (31 - k) (.int .u8 v) = byteC (A % 2 ^ (8 * (k + 1))) := by
  subst hv
  apply Array.ext_getElem?
  intro i
  by_cases hi : i < 32
  · rw [Array.getElem?_setIfInBounds, byteC_get (A % 2 ^ (8 * (k + 1))) i hi, byt_mod]
    by_cases e : 31 - k = i
    · rw [if_pos e, if_pos (by rw [byteC_size]; omega), if_pos (by omega), show 31 - i = k by omega]
    · rw [if_neg e, byteC_get _ i hi, byt_mod]
      by_cases h : 31 - i < k
      · rw [if_pos h, if_pos (by omega)]
      · rw [if_neg h, if_neg (by omega)]
  · rw [Array.getElem?_eq_none (by simp [byteC_size]; omega), Array.getElem?_eq_none (by rw [byteC_size]; omega)]
/-- n bytes of A, the highest first. -/
def bytesL (A n : Nat) : List UInt8 := (List.range n).map fun i => UInt8.ofNat (byt A (n - 1 - i))
theorem bytesL_length (A n : Nat) : (bytesL A n).length = n := by simp [bytesL]
theorem bytesL_get (A n j : Nat) (h : j < (bytesL A n).length) : (bytesL A n)[j] = UInt8.ofNat (byt A (n - 1 - j)) := by simp [bytesL]
/-- How many bytes A needs. -/
def need (A : Nat) : Nat := (bitLen A + 7) / 8
theorem bitLen_le (A n : Nat) (h : A < 2 ^ n) : bitLen A ≤ n := by
  unfold bitLen
  split
  · omega
  · rename_i h0
    have := (Nat.log2_lt h0).2 h
    omega
theorem need_le (A : Nat) (h : A < 2 ^ 256) : need A ≤ 32 := by
  have := bitLen_le A 256 h
  unfold need
  omega
/-- A as bytes. -/
def bytesOf (A : Nat) : ByteArray := ⟨(bytesL A (need A)).toArray⟩
end Go.Proofs.Ythccjmhpmbbblaa
