/- The document's Add: the sum, bit by bit. -/
import Derived.Test.YteddgjoailpgaabGA
import Derived.Deep.DeepCutAuto
namespace Go.Proofs.Yteddgjoailpgaab
open Go.RowKit
end Go.Proofs.Yteddgjoailpgaab
/- The document's Int: an int as a natural. -/
namespace Go.Proofs.Yteddgjoailpgaab
open Go.RowKit
set_option maxRecDepth 100000 in
set_option maxHeartbeats 400000 in
theorem rint_no (n : Int) (w : World) (h : n ≤ 0) :
  Calls Try.prog 35 #[.int .i64 n] w fun e w' => e = .returned (.agg (natC n.toNat)) ∧ Below w.heap.size w w' := by
 have hg : ¬ (0 < n) := by omega
 have hd : decide (0 < n) = false := by simpa using hg
 go_enter Try.func35, Try.ntmps35
 go_wp2_with (first
  | refine wpList_alloc_row rfl 24 rfl _ zero_nat ?_
  | refine wpList_alloc_row rfl 75 rfl _ zero_bits ?_
  | refine wpList_build_zero rfl 75 rfl _ built_bits ?_
  | refine wpList_store_new rfl 75 _ _ rfl _ rfl rfl _ _ (by rw [bitC_size]; exact size_bits) (by simp only [bitC_size]) (bitC_one _) ?_)
 go_loopg [4] 0 (fun g s4 wr => s4 = .int .i64 0 ∧ Row wr (w.heap.size + 1) (bitC 0) 75 ∧ Row wr w.heap.size (natC 0) 24 ∧ Below w.heap.size w wr)
 case atStart => exact ⟨rfl, Row.here (by simp), Row.one rfl, below_alloc2 _ _⟩
 case round =>
  obtain ⟨rfl, r0, r1, hb⟩ := hrel
  go_wp2_with (first
   | refine wpList_loadR rfl 75 _ rfl _ rfl r0 256 _ Try.underlying75 (by rw [bitC_size]; exact size_bits) ?_
   | (go_at_call 51; refine (rnat_any _ _).mono ?_; rintro e w2 ⟨rfl, hb2⟩; have r5 := r1.belowAll hb2; have b5 := below_on hb (Nat.le_refl _) hb2)
   | refine wpList_storeR rfl 24 _ _ rfl _ _ rfl rfl r5 (by exact size_nat) (by simp only [natC_size]) (natC_one _) ?_)
  rw [show n.toNat = 0 by omega]
  exact ret_row rfl _ rfl (r5.setRow _) 4 _ Try.underlying24 (by exact size_nat) rfl ⟨rfl, below_setRow b5 (by omega) _⟩
set_option maxRecDepth 100000 in
set_option maxHeartbeats 400000 in
theorem rint_yes (N : Nat) (w : World) (h0 : 0 < N) (h1 : N < 9223372036854775808) :
  Calls Try.prog 35 #[.int .i64 N] w fun e w' => e = .returned (.agg (natC N)) ∧ Below w.heap.size w w' := by
 have hg : (0 : Int) < N := by omega
 have H1 : Hid (N < 9223372036854775808) := h1
 clear h1 h0
 go_enter Try.func35, Try.ntmps35
 go_wp2_with (first
  | refine wpList_alloc_row rfl 24 rfl _ zero_nat ?_
  | refine wpList_alloc_row rfl 75 rfl _ zero_bits ?_
  | refine wpList_build_zero rfl 75 rfl _ built_bits ?_
  | refine wpList_store_new rfl 75 _ _ rfl _ rfl rfl _ _ (by rw [bitC_size]; exact size_bits) (by simp only [bitC_size]) (bitC_one _) ?_)
 go_loopg [4] 63 (fun g s4 wr => ∃ k : Nat, k + g = 63 ∧ s4 = .int .i64 k ∧ Row wr (w.heap.size + 1) (bitC (N % 2 ^ k)) 75 ∧ Row wr w.heap.size (natC 0) 24 ∧ Below w.heap.size w wr)
 case atStart => exact ⟨0, by omega, rfl, by rw [Nat.pow_zero, Nat.mod_one]; exact Row.here (by simp), Row.one rfl, below_alloc2 _ _⟩
 case round =>
  obtain ⟨k, hk, rfl, r0, r1, hb⟩ := hrel
  cases gk with
  | zero =>
   obtain rfl : k = 63 := by omega
   rw [Nat.mod_eq_of_lt (show N < 2 ^ 63 from H1.out)] at r0
   clear hk
   have hx : ¬ ((63 : Int) < 63) := by omega
   go_wp2_with (first
    | refine wpList_loadR rfl 75 _ rfl _ rfl r0 256 _ Try.underlying75 (by rw [bitC_size]; exact size_bits) ?_
    | (go_at_call 51; refine (rnat_any _ _).mono ?_; rintro e w2 ⟨rfl, hb2⟩; have r5 := r1.belowAll hb2; have b5 := below_on hb (Nat.le_refl _) hb2)
    | refine wpList_storeR rfl 24 _ _ rfl _ _ rfl rfl r5 (by exact size_nat) (by simp only [natC_size]) (natC_one _) ?_)
   exact ret_row rfl _ rfl (r5.setRow _) 4 _ Try.underlying24 (by exact size_nat) rfl ⟨rfl, below_setRow b5 (by omega) _⟩
  | succ g =>
   have hlt : (k : Int) < 63 := by omega
   have hlt' : (k : Int) < 256 := by omega
   have hc0 := cell_bits r0 k (by omega)
   have hf0 := r0.frozen k
   have R : Aside (Row wr (w.heap.size + 1) (bitC (N % 2 ^ k)) 75 ∧ Row wr w.heap.size (natC 0) 24 ∧ Below w.heap.size w wr) := ⟨r0, r1, hb⟩
   clear r0 r1 hb
   go_wp2
   obtain ⟨r0, r1, hb⟩ := R.out
   go_roundg g
   case measure => omega
   case rel =>
    refine ⟨k + 1, by omega, by go_num, ?_, r1.setCell_far _ _ _ (by omega), below_setCell hb (by omega) _ _⟩
    have := r0.setCell k (.bool (bits BinOp.and IntKind.i64 (↑N / 2 ^ k) 1 == 1))
    rw [bitC_snoc N k _ (bit_test_i _ _ H1.out)] at this
    exact this
theorem rint_any (n : Int) (w : World) (h : n < 9223372036854775808) :
  Calls Try.prog 35 #[.int .i64 n] w fun e w' => e = .returned (.agg (natC n.toNat)) ∧ Below w.heap.size w w' := by
 by_cases h0 : n ≤ 0
 ·exact rint_no n w h0
 ·obtain ⟨N, rfl⟩ := Int.eq_ofNat_of_zero_le (show 0 ≤ n by omega)
  rw [Int.toNat_natCast]
  exact rint_yes N w (by omega) (by omega)
end Go.Proofs.Yteddgjoailpgaab
/- The document's Not: all bits turned. -/
namespace Go.Proofs.Yteddgjoailpgaab
open Go.RowKit
/-- All 256 bits turned. -/
def flip (N : Nat) : Nat := 2 ^ 256 - 1 - N % 2 ^ 256
theorem flip_bit (N i : Nat) (h : i < 256) : (flip N).testBit i = !N.testBit i := by
 unfold flip
 have hlt : N % 2 ^ 256 < 2 ^ 256 := Nat.mod_lt _ (Nat.two_pow_pos _)
 rw [Nat.sub_sub, Nat.add_comm 1, Nat.testBit_two_pow_sub_succ hlt, Nat.testBit_mod_two_pow]
 simp [h]
/-- The first k bits turned. -/
def flipTo (N k : Nat) : Nat := flip N % 2 ^ k + N / 2 ^ k * 2 ^ k
theorem flipTo_bit (N k i : Nat) : (flipTo N k).testBit i = if i < k then (flip N).testBit i else N.testBit i := by
 unfold flipTo
 rw [Nat.add_comm, Nat.mul_comm, Nat.testBit_two_pow_mul_add _ (Nat.mod_lt _ (Nat.two_pow_pos k))]
 split
 ·rw [Nat.testBit_mod_two_pow]; simp [*]
 ·rw [Nat.testBit_div_two_pow]; congr 1; omega
end Go.Proofs.Yteddgjoailpgaab
/- The document's Cmp and Sub. -/
namespace Go.Proofs.Yteddgjoailpgaab
open Go.RowKit
/-- Which of two is greater. -/
def cmpI (A B : Nat) : Int := if A < B then -1 else if B < A then 1 else 0
/-- What two naturals that are the same from bit g + 1 on say at bit g. -/
theorem cmp_step (A B g : Nat) (h : A / 2 ^ (g + 1) = B / 2 ^ (g + 1)) :
  (A.testBit g = B.testBit g → A / 2 ^ g = B / 2 ^ g) ∧ (A.testBit g = true → B.testBit g = false → B < A) ∧ (A.testBit g = false → B.testBit g = true → A < B) := by
 have hP := Nat.two_pow_pos g
 rw [Nat.pow_succ, ← Nat.div_div_eq_div_mul, ← Nat.div_div_eq_div_mul] at h
 have ha := Nat.div_add_mod A (2 ^ g)
 have hb := Nat.div_add_mod B (2 ^ g)
 have ma := Nat.mod_lt A hP
 have mb := Nat.mod_lt B hP
 have key : ∀ x y P a b : Nat, 0 < P → a < P → b < P → x < y → P * x + a < P * y + b := by
  intro x y P a b h0 h1 _ h3
  have : P * (x + 1) ≤ P * y := Nat.mul_le_mul_left P h3
  rw [Nat.mul_add] at this
  omega
 rcases bit_cases A g with ⟨h1, h2, _⟩ | ⟨h1, h2, _⟩ <;> rcases bit_cases B g with ⟨h3, h4, _⟩ | ⟨h3, h4, _⟩ <;> rw [h1, h3] <;> simp
 ·omega
 ·have := key (A / 2 ^ g) (B / 2 ^ g) _ _ _ hP ma mb (by omega)
  omega
 ·have := key (B / 2 ^ g) (A / 2 ^ g) _ _ _ hP mb ma (by omega)
  omega
 ·omega
end Go.Proofs.Yteddgjoailpgaab
/- The document's Len, Bit and Low. -/
namespace Go.Proofs.Yteddgjoailpgaab
open Go.RowKit
theorem bitLen_eq (A g : Nat) (h1 : 2 ^ g ≤ A) (h2 : A < 2 ^ (g + 1)) : bitLen A = g + 1 := by
 have h0 : A ≠ 0 := by have := Nat.two_pow_pos g; omega
 unfold bitLen
 rw [if_neg h0, (Nat.log2_eq_iff h0).2 ⟨h1, h2⟩]
theorem bit_top (A g : Nat) (h2 : A < 2 ^ (g + 1)) : (A.testBit g = true → 2 ^ g ≤ A) ∧ (A.testBit g = false → A < 2 ^ g) := by
 constructor
 ·intro h
  exact Nat.ge_two_pow_of_testBit h
 ·intro h
  rcases bit_cases A g with ⟨_, _, h3⟩ | ⟨h3, _⟩
  ·rw [Nat.mod_eq_of_lt h2] at h3
   rw [h3]
   exact Nat.mod_lt _ (Nat.two_pow_pos g)
  ·rw [h] at h3; cases h3
/-- One bit, as an int. -/
def bitI (A : Nat) (k : Int) : Int := if 0 ≤ k ∧ k < 256 ∧ A.testBit k.toNat = true then 1 else 0
end Go.Proofs.Yteddgjoailpgaab
