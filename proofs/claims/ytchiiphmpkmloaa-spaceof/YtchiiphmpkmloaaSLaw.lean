/- Single operations on words of 32 bits, on ints and on bytes, by naturals. -/
import Derived.Test.YtchiiphmpkmloaaKit
import Derived.Test.YtchiiphmpkmloaaVal
import Derived.Test.YtchiiphmpkmloaaTypes
import Derived.Test.YtchiiphmpkmloaaInv
import Derived.Test.YtchiiphmpkmloaaLimb
import Derived.Test.YtchiiphmpkmloaaQuiet
import Derived.Test.YtchiiphmpkmloaaMix
import Derived.Test.YtchiiphmpkmloaaMixLaws
import Derived.Test.YtchiiphmpkmloaaQMore
import Derived.Test.YtchiiphmpkmloaaEArith
import Derived.Test.YtchiiphmpkmloaaMixMore
import Derived.Test.YtchiiphmpkmloaaMixSl
import Derived.Test.YtchiiphmpkmloaaQwR
import Derived.Test.YtchiiphmpkmloaaPWalk
import Derived.Test.YtchiiphmpkmloaaSMath
import Derived.Laws.BitsAllLaws
namespace Go.Proofs.Ytchiiphmpkmloaa
open Go.RowKit
set_option linter.unusedVariables false
theorem lt63 {n : Nat} (h : n < 4294967296) : n < 9223372036854775808 := by omega
/-- A row of integers of one kind. -/
def rC (k : IntKind) (n : Nat) (u : Nat → Nat) : Array Value := Array.ofFn (n := n) fun i => .int k (u i : Nat)
theorem rC_size (k : IntKind) (n : Nat) (u : Nat → Nat) : (rC k n u).size = n := by simp [rC]
theorem rC_get (k : IntKind) (n : Nat) (u : Nat → Nat) (i : Nat) (h : i < n) : (rC k n u)[i]? = some (.int k (u i : Nat)) := by simp [rC, h]
theorem rC_put (k : IntKind) (n : Nat) (u v : Nat → Nat) (i N : Nat) (hv : ∀ j, j < n → v j = if j = i then N else u j) : (rC k n u).setIfInBounds i (.int k (N : Nat)) = rC k n v := by
 apply Array.ext_getElem?
 intro j
 by_cases hj : j < n
 ·rw [rC_get k n v j hj, Array.getElem?_setIfInBounds, hv j hj]
  by_cases e : i = j
  ·subst e; rw [if_pos rfl, if_pos (by rw [rC_size]; exact hj), if_pos rfl]
  ·rw [if_neg e, if_neg (fun x => e x.symm), rC_get k n u j hj]
 ·rw [Array.getElem?_eq_none (by rw [Array.size_setIfInBounds, rC_size]; omega), Array.getElem?_eq_none (by rw [rC_size]; omega)]
theorem rC_one (k : IntKind) (n : Nat) (u : Nat → Nat) : (rC k n u).all (·.oneCell') = true := by
 rw [Array.all_eq_true]
 intro i hi
 simp [rC]
 rfl
theorem rC_congr (k : IntKind) (n : Nat) {u v : Nat → Nat} (h : ∀ i, i < n → u i = v i) : rC k n u = rC k n v := by
 apply Array.ext_getElem?
 intro j
 by_cases hj : j < n
 ·rw [rC_get k n u j hj, rC_get k n v j hj, h j hj]
 ·rw [Array.getElem?_eq_none (by rw [rC_size]; omega), Array.getElem?_eq_none (by rw [rC_size]; omega)]
section
variable {P : Program} {o : Oper} {ρ : Operand → Value}
theorem x32_add (t : TypeId) (x y : Operand) (u : TypeId) (ho : o.op = .binOp .add t x y u) (n m r : Nat) (hx : ρ x = .int .u32 n) (hy : ρ y = .int .u32 m) (hr : (n + m) % 4294967296 = r) (w : World) :
  (execOp ρ o).run P w = .ok (.value (.int .u32 (r : Int))) w := by
 subst hr
 unfold execOp
 simp only [ho, hx, hy]
 simp [go_sem]
 rw [IntKind.wrap_u32']
theorem x32_xor (t : TypeId) (x y : Operand) (u : TypeId) (ho : o.op = .binOp .xor t x y u) (n m : Nat) (hx : ρ x = .int .u32 n) (hy : ρ y = .int .u32 m) (hn : n < 4294967296) (hm : m < 4294967296) (w : World) :
  (execOp ρ o).run P w = .ok (.value (.int .u32 ((n ^^^ m : Nat) : Int))) w := by
 unfold execOp
 simp only [ho, hx, hy]
 simp [go_sem]
 rw [u32_xor_nat n m hn hm]
theorem x32_and (t : TypeId) (x y : Operand) (u : TypeId) (ho : o.op = .binOp .and t x y u) (n m : Nat) (hx : ρ x = .int .u32 n) (hy : ρ y = .int .u32 m) (hn : n < 4294967296) (hm : m < 4294967296) (w : World) :
  (execOp ρ o).run P w = .ok (.value (.int .u32 ((n &&& m : Nat) : Int))) w := by
 unfold execOp
 simp only [ho, hx, hy]
 simp [go_sem]
 rw [u32_and_nat n m hn hm]
theorem x32_or (t : TypeId) (x y : Operand) (u : TypeId) (ho : o.op = .binOp .or t x y u) (n m : Nat) (hx : ρ x = .int .u32 n) (hy : ρ y = .int .u32 m) (hn : n < 4294967296) (hm : m < 4294967296) (w : World) :
  (execOp ρ o).run P w = .ok (.value (.int .u32 ((n ||| m : Nat) : Int))) w := by
 unfold execOp
 simp only [ho, hx, hy]
 simp [go_sem]
 rw [u32_or_nat n m hn hm]
theorem xor_all (n : Nat) (hn : n < 4294967296) : 4294967295 ^^^ n = 4294967295 - n := by
 apply Nat.eq_of_testBit_eq
 intro i
 have h1 := Nat.testBit_two_pow_sub_succ (n := 32) hn i
 rw [show 2 ^ 32 - (n + 1) = 4294967295 - n by omega] at h1
 have h2 : (4294967295 : Nat).testBit i = decide (i < 32) := by
  rw [show (4294967295 : Nat) = 2 ^ 32 - 1 from rfl, Nat.testBit_two_pow_sub_one]
 rw [h1, Nat.testBit_xor, h2]
 by_cases h : i < 32
 ·rw [decide_eq_true h]
  cases n.testBit i <;> rfl
 ·rw [decide_eq_false h, Nat.testBit_lt_two_pow (Nat.lt_of_lt_of_le hn (by
   have : 2 ^ 32 ≤ 2 ^ i := Nat.pow_le_pow_right (by omega) (by omega)
   simpa using this))]
  rfl
theorem x32_not (t : TypeId) (x : Operand) (ho : o.op = .unOp .xor t x) (n : Nat) (hx : ρ x = .int .u32 n) (hn : n < 4294967296) (w : World) :
  (execOp ρ o).run P w = .ok (.value (.int .u32 ((4294967295 - n : Nat) : Int))) w := by
 have h : bits .xor .u32 4294967295 (n : Int) = ((4294967295 - n : Nat) : Int) := by
  rw [show (4294967295 : Int) = ((4294967295 : Nat) : Int) from rfl, u32_xor_nat _ n (by decide) hn, xor_all n hn]
 unfold execOp
 simp only [ho, hx]
 simp [go_sem]
 exact h
theorem x32_shr (t : TypeId) (x y : Operand) (u : TypeId) (ho : o.op = .binOp .shr t x y u) (n s : Nat) (k : IntKind) (hx : ρ x = .int .u32 n) (hy : ρ y = .int k s) (hs : s ≤ 32) (w : World) :
  (execOp ρ o).run P w = .ok (.value (.int .u32 ((n / 2 ^ s : Nat) : Int))) w := by
 unfold execOp
 simp only [ho, hx, hy]
 simp [go_sem]
theorem x32_shl (t : TypeId) (x y : Operand) (u : TypeId) (ho : o.op = .binOp .shl t x y u) (n s r : Nat) (k : IntKind) (hx : ρ x = .int .u32 n) (hy : ρ y = .int k s) (hs : s ≤ 32) (hr : n * 2 ^ s % 4294967296 = r) (w : World) :
  (execOp ρ o).run P w = .ok (.value (.int .u32 (r : Int))) w := by
 subst hr
 unfold execOp
 simp only [ho, hx, hy]
 simp [go_sem]
 rw [IntKind.wrap_u32']
theorem i64_xor_nat (a b : Nat) (ha : a < 9223372036854775808) (hb : b < 9223372036854775808) : bits .xor .i64 (a : Int) (b : Int) = ((a ^^^ b : Nat) : Int) := by
 have hx : a ^^^ b < 2 ^ 63 := Nat.xor_lt_two_pow (by omega) (by omega)
 show IntKind.i64.wrap ((BitVec.ofInt 64 (a : Int) ^^^ BitVec.ofInt 64 (b : Int)).toNat : Int) = _
 rw [BitVec.toNat_xor, ofInt_u64 a (by omega), ofInt_u64 b (by omega)]
 exact wrap_i64 _ hx
theorem xi_xor (t : TypeId) (x y : Operand) (u : TypeId) (ho : o.op = .binOp .xor t x y u) (n m : Nat) (hx : ρ x = .int .i64 n) (hy : ρ y = .int .i64 m) (hn : n < 9223372036854775808) (hm : m < 9223372036854775808) (w : World) :
  (execOp ρ o).run P w = .ok (.value (.int .i64 ((n ^^^ m : Nat) : Int))) w := by
 unfold execOp
 simp only [ho, hx, hy]
 simp [go_sem]
 rw [i64_xor_nat n m hn hm]
theorem xi_and (t : TypeId) (x y : Operand) (u : TypeId) (ho : o.op = .binOp .and t x y u) (n m r : Nat) (hx : ρ x = .int .i64 n) (hy : ρ y = .int .i64 m) (hn : n < 9223372036854775808) (hm : m < 9223372036854775808) (hr : n &&& m = r) (w : World) :
  (execOp ρ o).run P w = .ok (.value (.int .i64 (r : Int))) w := by
 subst hr
 unfold execOp
 simp only [ho, hx, hy]
 simp [go_sem]
 rw [i64_and_nat n m hn hm]
theorem xi_or (t : TypeId) (x y : Operand) (u : TypeId) (ho : o.op = .binOp .or t x y u) (n m : Nat) (hx : ρ x = .int .i64 n) (hy : ρ y = .int .i64 m) (hn : n < 9223372036854775808) (hm : m < 9223372036854775808) (w : World) :
  (execOp ρ o).run P w = .ok (.value (.int .i64 ((n ||| m : Nat) : Int))) w := by
 unfold execOp
 simp only [ho, hx, hy]
 simp [go_sem]
 rw [i64_or_nat n m hn hm]
theorem xi_shr (t : TypeId) (x y : Operand) (u : TypeId) (ho : o.op = .binOp .shr t x y u) (n s : Nat) (k : IntKind) (hx : ρ x = .int .i64 n) (hy : ρ y = .int k s) (hs : s ≤ 64) (w : World) :
  (execOp ρ o).run P w = .ok (.value (.int .i64 ((n / 2 ^ s : Nat) : Int))) w := by
 unfold execOp
 simp only [ho, hx, hy]
 simp [go_sem]
theorem xi_shl (t : TypeId) (x y : Operand) (u : TypeId) (ho : o.op = .binOp .shl t x y u) (n s : Nat) (k : IntKind) (hx : ρ x = .int .i64 n) (hy : ρ y = .int k s) (hs : s ≤ 64) (hl : n * 2 ^ s < 9223372036854775808) (w : World) :
  (execOp ρ o).run P w = .ok (.value (.int .i64 ((n * 2 ^ s : Nat) : Int))) w := by
 unfold execOp
 simp only [ho, hx, hy]
 have h := wrap_i64 (n * 2 ^ s) hl
 have e : (n : Int) * 2 ^ s = ((n * 2 ^ s : Nat) : Int) := by simp
 simp [go_sem]
 rw [e, h]
theorem xi_add (t : TypeId) (x y : Operand) (u : TypeId) (ho : o.op = .binOp .add t x y u) (n m : Nat) (hx : ρ x = .int .i64 n) (hy : ρ y = .int .i64 m) (h : n + m < 9223372036854775808) (w : World) :
  (execOp ρ o).run P w = .ok (.value (.int .i64 ((n + m : Nat) : Int))) w := by
 unfold execOp
 simp only [ho, hx, hy]
 simp [go_sem]
 rw [IntKind.wrap_i64]
 omega
theorem xi_sub (t : TypeId) (x y : Operand) (u : TypeId) (ho : o.op = .binOp .sub t x y u) (n m : Nat) (hx : ρ x = .int .i64 n) (hy : ρ y = .int .i64 m) (hm : m ≤ n) (h : n < 9223372036854775808) (w : World) :
  (execOp ρ o).run P w = .ok (.value (.int .i64 ((n - m : Nat) : Int))) w := by
 unfold execOp
 simp only [ho, hx, hy]
 simp [go_sem]
 rw [IntKind.wrap_i64]
 omega
theorem xi_mul (t : TypeId) (x y : Operand) (u : TypeId) (ho : o.op = .binOp .mul t x y u) (n m r : Nat) (hx : ρ x = .int .i64 n) (hy : ρ y = .int .i64 m) (hr : n * m = r) (h : r < 9223372036854775808) (w : World) :
  (execOp ρ o).run P w = .ok (.value (.int .i64 (r : Int))) w := by
 subst hr
 unfold execOp
 simp only [ho, hx, hy]
 simp [go_sem]
 rw [← Int.natCast_mul, IntKind.wrap_i64]
 omega
theorem xi_neg (t : TypeId) (x : Operand) (ho : o.op = .unOp .neg t x) (n : Nat) (hx : ρ x = .int .i64 n) (h : n < 9223372036854775808) (w : World) :
  (execOp ρ o).run P w = .ok (.value (.int .i64 (-(n : Int)))) w := by
 unfold execOp
 simp only [ho, hx]
 simp [go_sem]
 rw [IntKind.wrap_i64]
 omega
theorem x64_add (t : TypeId) (x y : Operand) (u : TypeId) (ho : o.op = .binOp .add t x y u) (n m : Nat) (hx : ρ x = .int .u64 n) (hy : ρ y = .int .u64 m) (h : n + m < 18446744073709551616) (w : World) :
  (execOp ρ o).run P w = .ok (.value (.int .u64 ((n + m : Nat) : Int))) w := by
 unfold execOp
 simp only [ho, hx, hy]
 simp [go_sem]
 rw [IntKind.wrap_u64]
 omega
theorem x64_sub (t : TypeId) (x y : Operand) (u : TypeId) (ho : o.op = .binOp .sub t x y u) (n m : Nat) (hx : ρ x = .int .u64 n) (hy : ρ y = .int .u64 m) (hm : m ≤ n) (h : n < 18446744073709551616) (w : World) :
  (execOp ρ o).run P w = .ok (.value (.int .u64 ((n - m : Nat) : Int))) w := by
 unfold execOp
 simp only [ho, hx, hy]
 simp [go_sem]
 rw [IntKind.wrap_u64]
 omega
theorem x64_mul (t : TypeId) (x y : Operand) (u : TypeId) (ho : o.op = .binOp .mul t x y u) (n m r : Nat) (hx : ρ x = .int .u64 n) (hy : ρ y = .int .u64 m) (hr : n * m = r) (h : r < 18446744073709551616) (w : World) :
  (execOp ρ o).run P w = .ok (.value (.int .u64 (r : Int))) w := by
 subst hr
 unfold execOp
 simp only [ho, hx, hy]
 simp [go_sem]
 rw [← Int.natCast_mul, IntKind.wrap_u64]
 omega
theorem x64_shr (t : TypeId) (x y : Operand) (u : TypeId) (ho : o.op = .binOp .shr t x y u) (n s : Nat) (k : IntKind) (hx : ρ x = .int .u64 n) (hy : ρ y = .int k s) (hs : s ≤ 64) (w : World) :
  (execOp ρ o).run P w = .ok (.value (.int .u64 ((n / 2 ^ s : Nat) : Int))) w := by
 unfold execOp
 simp only [ho, hx, hy]
 simp [go_sem]
theorem x64_rem (t : TypeId) (x y : Operand) (u : TypeId) (ho : o.op = .binOp .rem t x y u) (n m : Nat) (hx : ρ x = .int .u64 n) (hy : ρ y = .int .u64 m) (hm : 0 < m) (w : World) :
  (execOp ρ o).run P w = .ok (.value (.int .u64 ((n % m : Nat) : Int))) w := by
 have h0 : ¬ (m = 0) := by omega
 unfold execOp
 simp only [ho, hx, hy]
 simp [go_sem]
 rw [if_neg h0, Int.tmod_eq_emod_of_nonneg (by omega)]
theorem x64_and (t : TypeId) (x y : Operand) (u : TypeId) (ho : o.op = .binOp .and t x y u) (n m r : Nat) (hx : ρ x = .int .u64 n) (hy : ρ y = .int .u64 m) (hn : n < 18446744073709551616) (hm : m < 18446744073709551616) (hr : n &&& m = r) (w : World) :
  (execOp ρ o).run P w = .ok (.value (.int .u64 (r : Int))) w := by
 subst hr
 unfold execOp
 simp only [ho, hx, hy]
 simp [go_sem]
 rw [u64_and_nat n m hn hm]
theorem x8_and (t : TypeId) (x y : Operand) (u : TypeId) (ho : o.op = .binOp .and t x y u) (n m r : Nat) (hx : ρ x = .int .u8 n) (hy : ρ y = .int .u8 m) (hn : n < 256) (hm : m < 256) (hr : n &&& m = r) (w : World) :
  (execOp ρ o).run P w = .ok (.value (.int .u8 (r : Int))) w := by
 subst hr
 unfold execOp
 simp only [ho, hx, hy]
 simp [go_sem]
 rw [u8_and_nat n m hn hm]
theorem x8_shr (t : TypeId) (x y : Operand) (u : TypeId) (ho : o.op = .binOp .shr t x y u) (n s : Nat) (k : IntKind) (hx : ρ x = .int .u8 n) (hy : ρ y = .int k s) (hs : s ≤ 8) (w : World) :
  (execOp ρ o).run P w = .ok (.value (.int .u8 ((n / 2 ^ s : Nat) : Int))) w := by
 unfold execOp
 simp only [ho, hx, hy]
 simp [go_sem]
theorem x8_rem (t : TypeId) (x y : Operand) (u : TypeId) (ho : o.op = .binOp .rem t x y u) (n m : Nat) (hx : ρ x = .int .u8 n) (hy : ρ y = .int .u8 m) (hm : 0 < m) (w : World) :
  (execOp ρ o).run P w = .ok (.value (.int .u8 ((n % m : Nat) : Int))) w := by
 have h0 : ¬ (m = 0) := by omega
 unfold execOp
 simp only [ho, hx, hy]
 simp [go_sem]
 rw [if_neg h0, Int.tmod_eq_emod_of_nonneg (by omega)]
theorem x8_quo (t : TypeId) (x y : Operand) (u : TypeId) (ho : o.op = .binOp .quo t x y u) (n m : Nat) (hx : ρ x = .int .u8 n) (hy : ρ y = .int .u8 m) (hm : 0 < m) (hn : n < 256) (w : World) :
  (execOp ρ o).run P w = .ok (.value (.int .u8 ((n / m : Nat) : Int))) w := by
 have h0 : ¬ (m = 0) := by omega
 have h2 : n / m ≤ n := Nat.div_le_self _ _
 have h3 : IntKind.u8.wrap ((n / m : Nat) : Int) = ((n / m : Nat) : Int) := by
  have h4 : n / m < 256 := by omega
  generalize n / m = q at *
  rw [IntKind.wrap_u8']; omega
 rw [Int.natCast_ediv] at h3 ⊢
 unfold execOp
 simp only [ho, hx, hy]
 simp [go_sem]
 rw [if_neg h0, h3]
/-- Between kinds of integers. -/
theorem x_conv (s d : TypeId) (x : Operand) (ho : o.op = .convert s d x) (ks kd : IntKind) (hs : P.underlying s = some (.int ks)) (hd : P.underlying d = some (.int kd)) (n : Int) (r : Int) (hx : ρ x = .int ks n) (hr : kd.wrap n = r) (w : World) :
  (execOp ρ o).run P w = .ok (.value (.int kd r)) w := by
 subst hr
 unfold execOp
 simp only [ho, hx]
 simp [convert, run_underlying hs, run_underlying hd, go_sem]
theorem wrp8 (n : Nat) (r : Nat) (h : n % 256 = r) : IntKind.u8.wrap (n : Int) = (r : Int) := by rw [IntKind.wrap_u8']; omega
theorem wrp32 (n : Nat) (r : Nat) (h : n % 4294967296 = r) : IntKind.u32.wrap (n : Int) = (r : Int) := by rw [IntKind.wrap_u32']; omega
theorem wrp64 (n : Nat) (h : n < 18446744073709551616) : IntKind.u64.wrap (n : Int) = (n : Int) := by rw [IntKind.wrap_u64]; omega
theorem x_lenS (t : TypeId) (x : Operand) (ho : o.op = .call { callee := .builtin .len, args := #[x], argTypes := #[t] }) (s : ByteArray) (hx : ρ x = .string s) (hu : P.underlying t = some .string) (w : World) :
  (execOp ρ o).run P w = .ok (.value (.int .i64 s.size)) w := by
 unfold execOp
 simp only [ho]
 simp [resolve, invoke, builtin, hx, go_sem, goInt, hu]
theorem x_lenL (t : TypeId) (x : Operand) (ho : o.op = .call { callee := .builtin .len, args := #[x], argTypes := #[t] }) (q : Option Addr) (n c : Nat) (hx : ρ x = .slice q n c) (hu : P.underlying t = some (.slice (P.elem t))) (w : World) :
  (execOp ρ o).run P w = .ok (.value (.int .i64 n)) w := by
 unfold execOp
 simp only [ho]
 simp [resolve, invoke, builtin, hx, run_len_slice w t _ q n c hu, goInt]
theorem x_lt (t : TypeId) (x y : Operand) (u : TypeId) (ho : o.op = .binOp .lss t x y u) (n m : Int) (hx : ρ x = .int .i64 n) (hy : ρ y = .int .i64 m) (b : Bool) (hb : decide (n < m) = b) (w : World) :
  (execOp ρ o).run P w = .ok (.value (.bool b)) w := by
 subst hb
 unfold execOp
 simp only [ho, hx, hy]
 simp [go_sem]
theorem x_gt (t : TypeId) (x y : Operand) (u : TypeId) (ho : o.op = .binOp .gtr t x y u) (n m : Int) (hx : ρ x = .int .i64 n) (hy : ρ y = .int .i64 m) (b : Bool) (hb : decide (m < n) = b) (w : World) :
  (execOp ρ o).run P w = .ok (.value (.bool b)) w := by
 subst hb
 unfold execOp
 simp only [ho, hx, hy]
 simp [go_sem]
theorem x_eqI (t : TypeId) (x y : Operand) (u : TypeId) (ho : o.op = .binOp .eql t x y u) (k : IntKind) (n m : Int) (hx : ρ x = .int k n) (hy : ρ y = .int k m) (b : Bool) (hb : decide (n = m) = b) (w : World) :
  (execOp ρ o).run P w = .ok (.value (.bool b)) w := by
 subst hb
 unfold execOp
 simp only [ho, hx, hy]
 simp [eqGuard, go_sem]
 rfl
theorem x_neS (t : TypeId) (x y : Operand) (u : TypeId) (ho : o.op = .binOp .neq t x y u) (n : ByteArray) (hx : ρ x = .string n) (hy : ρ y = .string n) (w : World) :
  (execOp ρ o).run P w = .ok (.value (.bool false)) w := by
 unfold execOp
 simp only [ho, hx, hy]
 simp [eqGuard, go_sem]
theorem x_nilp (t : TypeId) (x y : Operand) (u : TypeId) (ho : o.op = .binOp .eql t x y u) (q : Option Addr) (hx : ρ x = .pointer q) (hy : ρ y = .pointer none) (e : TypeId) (ht : P.underlying t = some (.pointer e)) (w : World) :
  (execOp ρ o).run P w = .ok (.value (.bool q.isNone)) w := by
 have ht' : P.underlying t = some (.pointer (P.pointee t)) := by simp [Program.pointee, ht]
 unfold execOp
 simp only [ho, hx, hy]
 simp [eqGuard, run_eql_pointer_nil w t q ht']
theorem x_index (t : TypeId) (x ix : Operand) (ho : o.op = .index t x ix) (hu : P.underlying t = some .string) (l : List UInt8) (hx : ρ x = .string ⟨l.toArray⟩)
  (k : IntKind) (i : Nat) (hi : ρ ix = .int k i) (h1 : i < l.length) (w : World) : (execOp ρ o).run P w = .ok (.value (.int .u8 (bf l i : Nat))) w := by
 have hs : (⟨l.toArray⟩ : ByteArray).size = l.length := by simp [ByteArray.size]
 unfold execOp
 simp only [ho, hx, hi, Sem.run_bind]
 rw [run_index_string w t ⟨l.toArray⟩ k i hu, dif_pos ⟨by omega, by omega⟩]
 show Result.ok (Next.value _) w = _
 congr 4
 have : (⟨l.toArray⟩ : ByteArray)[(i : Int).toNat]'(by rw [hs]; omega) = l[i] := by
  simp [ByteArray.getElem_eq_getElem_data]
 rw [this]
 unfold bf
 rw [List.getD_eq_getElem?_getD, List.getElem?_eq_getElem h1]
 rfl
end
end Go.Proofs.Ytchiiphmpkmloaa
