/- Plain mathematics: a natural's bytes. -/
import Derived.Test.YtdemabfpcepnfaaGreatDoorGA
namespace Go.Proofs.YtdemabfpcepnfaaGreatDoor
/-- Byte number k of A, the lowest first. -/
def byt (A k : Nat) : Nat := A / 2 ^ (8 * k) % 256
theorem byt_lt (A k : Nat) : byt A k < 256 := Nat.mod_lt _ (by decide)
theorem byt_bit (A k j : Nat) : (byt A k).testBit j = (decide (j < 8) && A.testBit (8 * k + j)) := by
 unfold byt
 rw [show 256 = 2 ^ 8 from rfl, Nat.testBit_mod_two_pow, Nat.testBit_div_two_pow, Nat.add_comm]
/-- A byte out of the limb that holds it. -/
theorem lm_byt (A k : Nat) : lm A (k / 8) / 2 ^ (k % 8 * 8) % 256 = byt A k := by
 apply Nat.eq_of_testBit_eq
 intro j
 rw [byt_bit, show 256 = 2 ^ 8 from rfl, Nat.testBit_mod_two_pow, Nat.testBit_div_two_pow, lm_testBit]
 by_cases hj : j < 8
 ·rw [decide_eq_true hj, decide_eq_true (show j + k % 8 * 8 < 64 by omega), show 64 * (k / 8) + (j + k % 8 * 8) = 8 * k + j by omega]
  simp
 ·simp [hj]
theorem byt_mod (A k i : Nat) : byt (A % 2 ^ (8 * k)) i = if i < k then byt A i else 0 := by
 apply Nat.eq_of_testBit_eq
 intro j
 rw [byt_bit, Nat.testBit_mod_two_pow]
 split
 ·rw [byt_bit]
  by_cases hj : j < 8
  ·simp [hj, show 8 * i + j < 8 * k by omega]
  ·simp [hj]
 ·rw [Nat.zero_testBit]
  by_cases hj : j < 8
  ·simp [show ¬ 8 * i + j < 8 * k by omega]
  ·simp [hj]
/-- The 32 cells of a natural's bytes, the highest first. -/
def byteC (A : Nat) : Array Value := Array.ofFn (n := 32) fun i => .int .u8 (byt A (31 - i))
theorem byteC_size (A : Nat) : (byteC A).size = 32 := by simp [byteC]
theorem byteC_get (A i : Nat) (h : i < 32) : (byteC A)[i]? = some (.int .u8 (byt A (31 - i))) := by simp [byteC, h]
theorem byteC_snoc (A k v : Nat) (hk : k < 32) (hv : v = byt A k) : (byteC (A % 2 ^ (8 * k))).setIfInBounds (31 - k) (.int .u8 v) = byteC (A % 2 ^ (8 * (k + 1))) := by
 subst hv
 apply Array.ext_getElem?
 intro i
 by_cases hi : i < 32
 ·rw [Array.getElem?_setIfInBounds, byteC_get (A % 2 ^ (8 * (k + 1))) i hi, byt_mod]
  by_cases e : 31 - k = i
  ·rw [if_pos e, if_pos (by rw [byteC_size]; omega), if_pos (by omega), show 31 - i = k by omega]
  ·rw [if_neg e, byteC_get _ i hi, byt_mod]
   by_cases h : 31 - i < k
   ·rw [if_pos h, if_pos (by omega)]
   ·rw [if_neg h, if_neg (by omega)]
 ·rw [Array.getElem?_eq_none (by simp [byteC_size]; omega), Array.getElem?_eq_none (by rw [byteC_size]; omega)]
/-- n bytes of A, the highest first. -/
def bytesL (A n : Nat) : List UInt8 := (List.range n).map fun i => UInt8.ofNat (byt A (n - 1 - i))
theorem bytesL_length (A n : Nat) : (bytesL A n).length = n := by simp [bytesL]
theorem bytesL_get (A n j : Nat) (h : j < (bytesL A n).length) : (bytesL A n)[j] = UInt8.ofNat (byt A (n - 1 - j)) := by simp [bytesL]
/-- How many bytes A needs. -/
def need (A : Nat) : Nat := (bitLen A + 7) / 8
theorem bitLen_le (A n : Nat) (h : A < 2 ^ n) : bitLen A ≤ n := by
 unfold bitLen
 split
 ·omega
 ·rename_i h0
  have := (Nat.log2_lt h0).2 h
  omega
theorem need_le (A : Nat) (h : A < 2 ^ 256) : need A ≤ 32 := by
 have := bitLen_le A 256 h
 unfold need
 omega
/-- A as bytes. -/
def bytesOf (A : Nat) : ByteArray := ⟨(bytesL A (need A)).toArray⟩
end Go.Proofs.YtdemabfpcepnfaaGreatDoor
/- Plain mathematics: the natural of bytes. -/
namespace Go.Proofs.YtdemabfpcepnfaaGreatDoor
theorem snoc_rec {P : List UInt8 → Prop} (h0 : P []) (h1 : ∀ l b, P l → P (l ++ [b])) (l : List UInt8) : P l := by
 have h : ∀ m : List UInt8, P m.reverse := by
  intro m
  induction m with
  | nil => exact h0
  | cons b m ih => rw [List.reverse_cons]; exact h1 _ _ ih
 have := h l.reverse
 rwa [List.reverse_reverse] at this
/-- The natural of which these are the bytes, the highest first. -/
def natB (l : List UInt8) : Nat := l.foldl (fun n b => n * 256 + b.toNat) 0
theorem natB_snoc (l : List UInt8) (b : UInt8) : natB (l ++ [b]) = natB l * 256 + b.toNat := by simp [natB, List.foldl_append]
theorem natB_lt (l : List UInt8) : natB l < 2 ^ (8 * l.length) := by
 refine snoc_rec (P := fun l => natB l < 2 ^ (8 * l.length)) ?_ ?_ l
 ·simp [natB]
 ·intro l b ih
  rw [natB_snoc, List.length_append, List.length_singleton, show 8 * (l.length + 1) = 8 * l.length + 8 by omega, Nat.pow_add]
  have := UInt8.toNat_lt b
  omega
theorem byt_zero (x b : Nat) (h : b < 256) : byt (x * 256 + b) 0 = b := by
 unfold byt
 rw [show 8 * 0 = 0 from rfl, Nat.pow_zero, Nat.div_one]
 omega
theorem byt_succ (x b k : Nat) (h : b < 256) : byt (x * 256 + b) (k + 1) = byt x k := by
 unfold byt
 rw [show 8 * (k + 1) = 8 + 8 * k by omega, Nat.pow_add, ← Nat.div_div_eq_div_mul, show (x * 256 + b) / 2 ^ 8 = x by omega]
theorem natB_byt (l : List UInt8) : ∀ (k : Nat) (hk : k < l.length), byt (natB l) k = (l[l.length - 1 - k]'(by omega)).toNat := by
 refine snoc_rec (P := fun l => ∀ (k : Nat) (hk : k < l.length), byt (natB l) k = (l[l.length - 1 - k]'(by omega)).toNat) ?_ ?_ l
 ·intro k hk; simp at hk
 ·intro l b ih k hk
  rw [List.length_append, List.length_singleton] at hk
  have hb := UInt8.toNat_lt b
  rw [natB_snoc]
  cases k with
  | zero =>
   rw [byt_zero _ _ hb]
   simp
  | succ k =>
   rw [byt_succ _ _ _ hb, ih k (by omega)]
   congr 1
   rw [List.getElem_append_left (by simp; omega)]
   congr 1
   simp
   omega
/-- One byte more, in its limb. -/
theorem natC_byte (N k v : Nat) (hk : k < 32) (hv : v = lm (N % 2 ^ (8 * k)) (k / 8) ||| byt N k * 2 ^ (k % 8 * 8)) : (natC (N % 2 ^ (8 * k))).setIfInBounds (k / 8) (.int .u64 v) = natC (N % 2 ^ (8 * (k + 1))) := by
 subst hv
 refine natC_set _ _ _ _ (by omega) ?_ ?_
 ·apply Nat.eq_of_testBit_eq
  intro j
  rw [Nat.testBit_or, lm_testBit, lm_testBit, Nat.testBit_mod_two_pow, Nat.testBit_mod_two_pow, Nat.mul_comm (byt N k), Nat.testBit_two_pow_mul, byt_bit]
  by_cases hj : j < 64
  ·by_cases h1 : 64 * (k / 8) + j < 8 * k
   ·rw [decide_eq_true hj, decide_eq_true h1, decide_eq_true (show 64 * (k / 8) + j < 8 * (k + 1) by omega), decide_eq_false (show ¬ j ≥ k % 8 * 8 by omega)]
    simp
   ·by_cases h2 : 64 * (k / 8) + j < 8 * (k + 1)
    ·rw [decide_eq_true hj, decide_eq_false h1, decide_eq_true h2, decide_eq_true (show j ≥ k % 8 * 8 by omega), decide_eq_true (show j - k % 8 * 8 < 8 by omega), show 8 * k + (j - k % 8 * 8) = 64 * (k / 8) + j by omega]
     simp
    ·rw [decide_eq_true hj, decide_eq_false h1, decide_eq_false h2, decide_eq_false (show ¬ j - k % 8 * 8 < 8 by omega)]
     simp
  ·rw [decide_eq_false hj, decide_eq_false (show ¬ j - k % 8 * 8 < 8 by omega)]
   simp
 ·intro i _ hne
  apply Nat.eq_of_testBit_eq
  intro j
  rw [lm_testBit, lm_testBit, Nat.testBit_mod_two_pow, Nat.testBit_mod_two_pow]
  by_cases hj : j < 64
  ·by_cases h1 : 64 * i + j < 8 * k
   ·rw [decide_eq_true h1, decide_eq_true (show 64 * i + j < 8 * (k + 1) by omega)]
   ·rw [decide_eq_false h1, decide_eq_false (show ¬ 64 * i + j < 8 * (k + 1) by omega)]
  ·rw [decide_eq_false hj, Bool.false_and, Bool.false_and]
theorem byt_shl_lt (N k : Nat) : byt N k * 2 ^ (k % 8 * 8) < 18446744073709551616 := by
 have h1 := byt_lt N k
 have h2 : 2 ^ (k % 8 * 8) ≤ 2 ^ 56 := Nat.pow_le_pow_right (by decide) (by omega)
 have h3 : byt N k * 2 ^ (k % 8 * 8) ≤ 255 * 2 ^ 56 := Nat.mul_le_mul (by omega) h2
 exact Nat.lt_of_le_of_lt h3 (by decide)
theorem take_or (L b m : Nat) (hL : L < 18446744073709551616) (hb : b < 18446744073709551616) (hm : b * 2 ^ m < 18446744073709551616) :
  bits .or .u64 (L : Int) (IntKind.u64.wrap (IntKind.u64.wrap (b : Int) * 2 ^ m)) = ((L ||| b * 2 ^ m : Nat) : Int) := by
 rw [wrap_u64 b hb, show ((b : Int) * 2 ^ m) = ((b * 2 ^ m : Nat) : Int) by simp, wrap_u64 _ hm, u64_or_nat _ _ hL hm]
end Go.Proofs.YtdemabfpcepnfaaGreatDoor
