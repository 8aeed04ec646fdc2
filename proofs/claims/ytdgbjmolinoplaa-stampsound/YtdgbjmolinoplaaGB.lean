/- The document's Add: the sum, bit by bit. -/
import Derived.Test.YtdgbjmolinoplaaGA
import Derived.Deep.DeepCutAuto
import Derived.Deep.RegionLaw
namespace Go.Proofs.Ytdgbjmolinoplaa
open Go.RowKit
end Go.Proofs.Ytdgbjmolinoplaa
/- The document's Int: an int as a natural. -/
namespace Go.Proofs.Ytdgbjmolinoplaa
open Go.RowKit
end Go.Proofs.Ytdgbjmolinoplaa
/- The document's Not: all bits turned. -/
namespace Go.Proofs.Ytdgbjmolinoplaa
open Go.RowKit
/-- All 256 bits turned. -/
def flip (N : Nat) : Nat := 2 ^ 256 - 1 - N % 2 ^ 256
theorem flip_bit (N i : Nat) (h : i < 256) : (flip N).testBit i = !N.testBit i := by
 unfold flip
 have hlt : N % 2 ^ 256 < 2 ^ 256 := Nat.mod_lt _ (Nat.two_pow_pos _)
 rw [Nat.sub_sub, Nat.add_comm 1, Nat.testBit_two_pow_sub_succ hlt, Nat.testBit_mod_two_pow]
 simp [h]
/-- The first k bits turned. -/
def flipTo (N k : Nat) : Nat := flip N % 2 ^ k + N / 2 ^ k * 2 ^ k
theorem flipTo_bit (N k i : Nat) : (flipTo N k).testBit i = if i < k then (flip N).testBit i else N.testBit i := by
 unfold flipTo
 rw [Nat.add_comm, Nat.mul_comm, Nat.testBit_two_pow_mul_add _ (Nat.mod_lt _ (Nat.two_pow_pos k))]
 split
 ·rw [Nat.testBit_mod_two_pow]; simp [*]
 ·rw [Nat.testBit_div_two_pow]; congr 1; omega
end Go.Proofs.Ytdgbjmolinoplaa
/- The document's Cmp and Sub. -/
namespace Go.Proofs.Ytdgbjmolinoplaa
open Go.RowKit
/-- Which of two is greater. -/
def cmpI (A B : Nat) : Int := if A < B then -1 else if B < A then 1 else 0
/-- What two naturals that are the same from bit g + 1 on say at bit g. -/
theorem cmp_step (A B g : Nat) (h : A / 2 ^ (g + 1) = B / 2 ^ (g + 1)) :
  (A.testBit g = B.testBit g → A / 2 ^ g = B / 2 ^ g) ∧ (A.testBit g = true → B.testBit g = false → B < A) ∧ (A.testBit g = false → B.testBit g = true → A < B) := by
 have hP := Nat.two_pow_pos g
 rw [Nat.pow_succ, ← Nat.div_div_eq_div_mul, ← Nat.div_div_eq_div_mul] at h
 have ha := Nat.div_add_mod A (2 ^ g)
 have hb := Nat.div_add_mod B (2 ^ g)
 have ma := Nat.mod_lt A hP
 have mb := Nat.mod_lt B hP
 have key : ∀ x y P a b : Nat, 0 < P → a < P → b < P → x < y → P * x + a < P * y + b := by
  intro x y P a b h0 h1 _ h3
  have : P * (x + 1) ≤ P * y := Nat.mul_le_mul_left P h3
  rw [Nat.mul_add] at this
  omega
 rcases bit_cases A g with ⟨h1, h2, _⟩ | ⟨h1, h2, _⟩ <;> rcases bit_cases B g with ⟨h3, h4, _⟩ | ⟨h3, h4, _⟩ <;> rw [h1, h3] <;> simp
 ·omega
 ·have := key (A / 2 ^ g) (B / 2 ^ g) _ _ _ hP ma mb (by omega)
  omega
 ·have := key (B / 2 ^ g) (A / 2 ^ g) _ _ _ hP mb ma (by omega)
  omega
 ·omega
end Go.Proofs.Ytdgbjmolinoplaa
/- The document's Len, Bit and Low. -/
namespace Go.Proofs.Ytdgbjmolinoplaa
open Go.RowKit
theorem bitLen_eq (A g : Nat) (h1 : 2 ^ g ≤ A) (h2 : A < 2 ^ (g + 1)) : bitLen A = g + 1 := by
 have h0 : A ≠ 0 := by have := Nat.two_pow_pos g; omega
 unfold bitLen
 rw [if_neg h0, (Nat.log2_eq_iff h0).2 ⟨h1, h2⟩]
theorem bit_top (A g : Nat) (h2 : A < 2 ^ (g + 1)) : (A.testBit g = true → 2 ^ g ≤ A) ∧ (A.testBit g = false → A < 2 ^ g) := by
 constructor
 ·intro h
  exact Nat.ge_two_pow_of_testBit h
 ·intro h
  rcases bit_cases A g with ⟨_, _, h3⟩ | ⟨h3, _⟩
  ·rw [Nat.mod_eq_of_lt h2] at h3
   rw [h3]
   exact Nat.mod_lt _ (Nat.two_pow_pos g)
  ·rw [h] at h3; cases h3
/-- One bit, as an int. -/
def bitI (A : Nat) (k : Int) : Int := if 0 ≤ k ∧ k < 256 ∧ A.testBit k.toNat = true then 1 else 0
end Go.Proofs.Ytdgbjmolinoplaa
/- nat.Add and nat.Sub: the limbs' sums and rests, carried. -/
namespace Go.Proofs.Ytdgbjmolinoplaa
open Go.RowKit
end Go.Proofs.Ytdgbjmolinoplaa
/- nat.Of, nat.Int, nat.Cmp, nat.Bit; two naturals held against each other. -/
namespace Go.Proofs.Ytdgbjmolinoplaa
open Go.RowKit
theorem natC_eq (X Y : Nat) : natC X = natC Y ↔ X % 2 ^ 256 = Y % 2 ^ 256 := ⟨natC_inj, fun h => by rw [← natC_full X, ← natC_full Y, h]⟩
theorem natC_lms (X Y : Nat) : (lm X 0 = lm Y 0 ∧ lm X 1 = lm Y 1 ∧ lm X 2 = lm Y 2 ∧ lm X 3 = lm Y 3) ↔ X % 2 ^ 256 = Y % 2 ^ 256 := by
 rw [← natC_eq]
 constructor
 ·rintro ⟨h0, h1, h2, h3⟩
  unfold natC
  rw [h0, h1, h2, h3]
 ·intro h
  have hl : ∀ i, i < 4 → lm X i = lm Y i := fun i hi => by
   have h1 := natC_get X i hi
   rw [h, natC_get Y i hi] at h1
   simp only [Option.some.injEq, Value.int.injEq, true_and] at h1
   omega
  exact ⟨hl 0 (by omega), hl 1 (by omega), hl 2 (by omega), hl 3 (by omega)⟩
theorem wpList_value {P : Program} {ops : Array Oper} {rest : List Oper} {o : Oper} {a : Act} {w : World} {Q : Exit → Act → World → Prop} (hgd : o.guard = none) (v : Value)
  (hr : (execOp a.eval o).run P w = .ok (.value v) w) (h : wpList P ops Q rest (a.put o.dst v) w) : wpList P ops Q (o :: rest) a w :=
 wpList_plain hgd fun _ hK => by unfold Oper.wp; rw [hr]; exact hK _ _ h
theorem natC_low (n : Nat) (h : n < 18446744073709551616) : natC n = #[.int .u64 n, .int .u64 0, .int .u64 0, .int .u64 0] := by
 unfold natC lm
 rw [show 64 * 0 = 0 from rfl, Nat.pow_zero, Nat.div_one, Nat.mod_eq_of_lt (show n < 2 ^ 64 from h), Nat.div_eq_of_lt (Nat.lt_of_lt_of_le h (by decide)), Nat.div_eq_of_lt (Nat.lt_of_lt_of_le h (by decide)), Nat.div_eq_of_lt (Nat.lt_of_lt_of_le h (by decide))]
 rfl
theorem bit_val (A k : Nat) : bits BinOp.and IntKind.u64 ((lm A (k / 64) : Int) / 2 ^ (k % 64)) 1 = if A.testBit k = true then (1 : Int) else 0 := by
 have hlm := lm_lt A (k / 64)
 have h1 := bit_test (lm A (k / 64)) (k % 64) hlm
 rw [lm_bit] at h1
 have h2 : (lm A (k / 64) : Int) / 2 ^ (k % 64) = ((lm A (k / 64) / 2 ^ (k % 64) : Nat) : Int) := by simp
 have h3 : lm A (k / 64) / 2 ^ (k % 64) < 18446744073709551616 := Nat.lt_of_le_of_lt (Nat.div_le_self _ _) hlm
 rw [h2, show (1 : Int) = ((1 : Nat) : Int) from rfl, u64_and_nat _ _ h3 (by decide), Nat.and_one_is_mod] at h1 ⊢
 rw [← h1]
 have h4 : lm A (k / 64) / 2 ^ (k % 64) % 2 = 0 ∨ lm A (k / 64) / 2 ^ (k % 64) % 2 = 1 := by omega
 rcases h4 with h4 | h4 <;> rw [h4] <;> rfl
end Go.Proofs.Ytdgbjmolinoplaa
/- nat.Int, and the document's Sub. -/
namespace Go.Proofs.Ytdgbjmolinoplaa
open Go.RowKit
/-- A natural as an int, if it is one. -/
def lowI (A : Nat) : Int := if A < 9223372036854775808 then A else 0
def lowB (A : Nat) : Bool := decide (A < 9223372036854775808)
theorem lm_zero (A : Nat) : lm A 0 = A % 18446744073709551616 := by unfold lm; simp
theorem bitLen_63 (A : Nat) : bitLen A ≤ 63 ↔ A < 9223372036854775808 := by
 have h := bitLen_spec A
 constructor
 ·intro hl
  exact Nat.lt_of_lt_of_le h.1 (Nat.pow_le_pow_right (by decide) hl)
 ·intro hA
  unfold bitLen
  split
  ·omega
  ·rename_i h0
   have := (Nat.log2_lt h0).2 (show A < 2 ^ 63 from hA)
   omega
/-- The document's rest is what 'less' says. -/
theorem less_flip (A B : Nat) (hB : B < 2 ^ 256) : A + (flip B + 1) = less A B := by
 unfold flip less
 rw [Nat.mod_eq_of_lt hB]
 omega
end Go.Proofs.Ytdgbjmolinoplaa
/- bits.Len64 and nat.Len. -/
namespace Go.Proofs.Ytdgbjmolinoplaa
open Go.RowKit
/-- A byte of the library's table of bit lengths. -/
theorem exec_index_tab {P : Program} {o : Oper} {ρ : Operand → Value} (t : TypeId) (x ix : Operand) (ho : o.op = .index t x ix) (hu : P.underlying t = some .string) (S : ByteArray) (hx : ρ x = .string S)
  (hS : S.data.toList.map UInt8.toNat = (List.range 256).map bitLen) (k : IntKind) (i : Int) (hi : ρ ix = .int k i) (h0 : 0 ≤ i) (h1 : i < 256) (w : World) :
  (execOp ρ o).run P w = .ok (.value (.int .u8 (bitLen i.toNat))) w := by
 have hsz : S.size = 256 := by
  have := congrArg List.length hS
  simpa using this
 have hlt : i.toNat < S.size := by omega
 have hget : (S[i.toNat]'hlt).toNat = bitLen i.toNat := by
  have h2 := congrArg (fun l : List Nat => l[i.toNat]?) hS
  simp only [List.getElem?_map] at h2
  rw [List.getElem?_range (by omega)] at h2
  have h3 : S.data.toList[i.toNat]? = some (S[i.toNat]'hlt) := by
   rw [Array.getElem?_toList]
   exact Array.getElem?_eq_getElem hlt
  rw [h3] at h2
  simpa using h2
 unfold execOp
 simp only [ho, hx, hi, Sem.run_bind]
 rw [run_index_string w t S k i hu, dif_pos ⟨h0, by omega⟩, hget]
 rfl
theorem ret_int {k : IntKind} {a b : Int} (h : a = b) : Ending.returned (.int k a) = .returned (.int k b) := by rw [h]
theorem wrap64_small (q n : Nat) (hq : q ≤ 8) (hn : n ≤ 56) : wrap64 ((n : Int) + wrap64 (q : Int)) = ((n + q : Nat) : Int) := by unfold wrap64; omega
theorem wrap64_small0 (q : Nat) (hq : q ≤ 8) : wrap64 (wrap64 (q : Int)) = (q : Int) := by unfold wrap64; omega
theorem bitLen_64 (x : Nat) (h : x < 18446744073709551616) : bitLen x ≤ 64 := by
 unfold bitLen
 split
 ·omega
 ·rename_i h0
  have := (Nat.log2_lt h0).2 (show x < 2 ^ 64 from h)
  omega
/-- Limbs above number k are nought. -/
theorem lm_high (A k i : Nat) (h : A < 2 ^ (64 * k)) (hi : k ≤ i) : lm A i = 0 := by
 unfold lm
 rw [Nat.div_eq_of_lt (Nat.lt_of_lt_of_le h (Nat.pow_le_pow_right (by decide) (by omega)))]
theorem lm_top (A k : Nat) (h : A < 2 ^ (64 * (k + 1))) : lm A k = A / 2 ^ (64 * k) := by
 unfold lm
 refine Nat.mod_eq_of_lt (Nat.div_lt_of_lt_mul ?_)
 rw [← Nat.pow_add]
 exact h
theorem bitLen_lm (A k : Nat) (h : A < 2 ^ (64 * (k + 1))) (h0 : lm A k ≠ 0) : bitLen A = 64 * k + bitLen (lm A k) := by
 rw [lm_top A k h] at h0 ⊢
 exact bitLen_shift A (64 * k) h0
theorem lm_down (A k : Nat) (h : A < 2 ^ (64 * (k + 1))) (h0 : lm A k = 0) : A < 2 ^ (64 * k) := by
 rw [lm_top A k h] at h0
 exact (Nat.div_eq_zero_iff_lt (Nat.two_pow_pos _)).1 h0
end Go.Proofs.Ytdgbjmolinoplaa
