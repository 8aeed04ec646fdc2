/- Floats: weigh's Key, Compare, Next, Steps, ofRank; the document's; math's and cmp's. -/
import Derived.Test.YtonppckllfamiaaWgBase
import Derived.Test.YtonppckllfamiaaWgMath
import Derived.Laws.Cover2
import Derived.Laws.BitsAllLaws
namespace Go.Proofs.Ytonppckllfamiaa
open Go.RowKit
set_option linter.unusedVariables false
set_option linter.unusedSectionVars false
set_option linter.unusedSimpArgs false
theorem find_bits : Extern.find Try.f25 = some Extern.MathFloatBits.float64bits := by kernel_rfl
theorem next_bits : Extern.findNext Try.f25 = none := by kernel_rfl
theorem find_frm : Extern.find Try.f23 = some Extern.MathFloatBits.float64frombits := by kernel_rfl
theorem next_frm : Extern.findNext Try.f23 = none := by kernel_rfl
theorem x_bits {o : Oper} {a : Act} (x : Operand) (ts : Array TypeId) (ho : o.op = .call { callee := .value (.func 25), args := #[x], argTypes := ts }) (b : Nat) (hx : a.eval x = .float .f64 b) (w : World) :
  (execOp a.eval o).run Try.prog w = .ok (.value (.int .u64 (b : Nat))) w :=
 exec_extern 25 _ _ ho Try.func25 (by kernel_rfl) (by kernel_rfl) next_bits find_bits #[.float .f64 b] (by simp [hx]) _ rfl
theorem x_frm {o : Oper} {a : Act} (x : Operand) (ts : Array TypeId) (ho : o.op = .call { callee := .value (.func 23), args := #[x], argTypes := ts }) (b : Nat) (hx : a.eval x = .int .u64 (b : Nat)) (w : World) :
  (execOp a.eval o).run Try.prog w = .ok (.value (.float .f64 b)) w :=
 exec_extern 23 _ _ ho Try.func23 (by kernel_rfl) (by kernel_rfl) next_frm find_frm #[.int .u64 (b : Nat)] (by simp [hx]) _ rfl
section
variable {P : Program} {o : Oper} {ρ : Operand → Value}
theorem x_fneq (t : TypeId) (x y : Operand) (u : TypeId) (ho : o.op = .binOp .neq t x y u) (n m : Nat) (hx : ρ x = .float .f64 n) (hy : ρ y = .float .f64 m) (b : Bool) (hb : (Ieee.double.order n m != some .eq) = b) (w : World) :
  (execOp ρ o).run P w = .ok (.value (.bool b)) w := by
 subst hb
 unfold execOp
 simp only [ho, hx, hy]
 simp [eqGuard, go_sem, FloatKind.format]
theorem x_feql (t : TypeId) (x y : Operand) (u : TypeId) (ho : o.op = .binOp .eql t x y u) (n m : Nat) (hx : ρ x = .float .f64 n) (hy : ρ y = .float .f64 m) (b : Bool) (hb : (Ieee.double.order n m == some .eq) = b) (w : World) :
  (execOp ρ o).run P w = .ok (.value (.bool b)) w := by
 subst hb
 unfold execOp
 simp only [ho, hx, hy]
 simp [eqGuard, go_sem, FloatKind.format]
theorem x_flt (t : TypeId) (x y : Operand) (u : TypeId) (ho : o.op = .binOp .lss t x y u) (n m : Nat) (hx : ρ x = .float .f64 n) (hy : ρ y = .float .f64 m) (b : Bool) (hb : (Ieee.double.order n m == some .lt) = b) (w : World) :
  (execOp ρ o).run P w = .ok (.value (.bool b)) w := by
 subst hb
 unfold execOp
 simp only [ho, hx, hy]
 simp [eqGuard, go_sem, FloatKind.format]
theorem x_fgt (t : TypeId) (x y : Operand) (u : TypeId) (ho : o.op = .binOp .gtr t x y u) (n m : Nat) (hx : ρ x = .float .f64 n) (hy : ρ y = .float .f64 m) (b : Bool) (hb : (Ieee.double.order n m == some .gt) = b) (w : World) :
  (execOp ρ o).run P w = .ok (.value (.bool b)) w := by
 subst hb
 unfold execOp
 simp only [ho, hx, hy]
 simp [eqGuard, go_sem, FloatKind.format]
theorem x_add (k : IntKind) (t : TypeId) (x y : Operand) (u : TypeId) (ho : o.op = .binOp .add t x y u) (n m r : Int) (hx : ρ x = .int k n) (hy : ρ y = .int k m) (hr : k.wrap (n + m) = r) (w : World) :
  (execOp ρ o).run P w = .ok (.value (.int k r)) w := by
 subst hr
 unfold execOp
 simp only [ho, hx, hy]
 simp [go_sem]
theorem x_sub (k : IntKind) (t : TypeId) (x y : Operand) (u : TypeId) (ho : o.op = .binOp .sub t x y u) (n m r : Int) (hx : ρ x = .int k n) (hy : ρ y = .int k m) (hr : k.wrap (n - m) = r) (w : World) :
  (execOp ρ o).run P w = .ok (.value (.int k r)) w := by
 subst hr
 unfold execOp
 simp only [ho, hx, hy]
 simp [go_sem]
theorem x_neg (t : TypeId) (x : Operand) (ho : o.op = .unOp .neg t x) (n r : Int) (hx : ρ x = .int .i64 n) (hr : IntKind.i64.wrap (-n) = r) (w : World) :
  (execOp ρ o).run P w = .ok (.value (.int .i64 r)) w := by
 subst hr
 unfold execOp
 simp only [ho, hx]
 simp [go_sem]
theorem x_andn (t : TypeId) (x y : Operand) (u : TypeId) (ho : o.op = .binOp .andNot t x y u) (n : Nat) (hn : n < 18446744073709551616) (hx : ρ x = .int .u64 n) (hy : ρ y = .int .u64 9223372036854775808) (w : World) :
  (execOp ρ o).run P w = .ok (.value (.int .u64 ((n % 9223372036854775808 : Nat) : Int))) w := by
 have h := u64_andNot_nat n 9223372036854775808 hn (by decide)
 rw [show 18446744073709551615 - 9223372036854775808 = 2 ^ 63 - 1 by decide, Nat.and_two_pow_sub_one_eq_mod] at h
 unfold execOp
 simp only [ho, hx, hy]
 simp [go_sem]
 exact h
theorem wrap_sm (z : Int) (h1 : -9223372036854775808 ≤ z) (h2 : z < 9223372036854775808) : IntKind.i64.wrap z = z := by
 rw [IntKind.wrap_i64]; omega
theorem wrap_us (z : Int) (h1 : 0 ≤ z) (h2 : z < 18446744073709551616) : IntKind.u64.wrap z = z := by
 rw [IntKind.wrap_u64]; omega
end
set_option maxRecDepth 100000 in
set_option maxHeartbeats 2000000 in
theorem isnan_any (b : Nat) (w : World) :
  Calls Try.prog 24 #[.float .f64 b] w fun e w' => e = .returned (.bool (nn b)) ∧ Below w.heap.size w w' := by
 go_enter Try.func24, Try.ntmps24
 have sb := sbmk w
 (repeat ((fail_if_success with_reducible refine rg ?_); go_step))
 refine wp_region_pw ?_
 refine pw_value (by rfl) (.bool false) (fun _ => rfl) ?_
 simp only [Act.put, pu]
 refine pw_nil ?_
 (repeat ((fail_if_success with_reducible refine rg ?_); go_step))
 refine wp_region_pw ?_
 refine pw_mv (by rfl) rfl rfl ?_
 simp only [Act.put, pu]
 refine pw_mv (by rfl) rfl rfl ?_
 simp only [Act.put, pu]
 refine pw_value (by rfl) (.bool (nn b)) (x_fneq _ _ _ _ rfl b b rfl rfl (nn b) (neq_self b)) ?_
 simp only [Act.put, pu]
 refine pw_as (by rfl) rfl rfl ?_
 simp only [Act.put, pu]
 refine pw_nil ?_
 go_wp2
 go_ret
 exact ⟨rfl, sb⟩
set_option maxRecDepth 100000 in
set_option maxHeartbeats 2000000 in
theorem rnone_any (b : Nat) (w : World) :
  Calls Try.prog 26 #[.float .f64 b] w fun e w' => e = .returned (.bool (nn b)) ∧ Below w.heap.size w w' := by
 go_enter Try.func26, Try.ntmps26
 have sb := sbmk w
 (repeat ((fail_if_success with_reducible refine rg ?_); go_step))
 refine wp_region_pw ?_
 refine pw_value (by rfl) (.bool false) (fun _ => rfl) ?_
 simp only [Act.put, pu]
 refine pw_nil ?_
 (repeat ((fail_if_success with_reducible refine rg ?_); go_step))
 refine wp_region_pw ?_
 refine pw_mv (by rfl) rfl rfl ?_
 simp only [Act.put, pu]
 refine pw_mv (by rfl) rfl rfl ?_
 simp only [Act.put, pu]
 refine pw_value (by rfl) (.bool (nn b)) (x_fneq _ _ _ _ rfl b b rfl rfl (nn b) (neq_self b)) ?_
 simp only [Act.put, pu]
 refine pw_as (by rfl) rfl rfl ?_
 simp only [Act.put, pu]
 refine pw_nil ?_
 go_wp2
 go_ret
 exact ⟨rfl, sb⟩
set_option maxRecDepth 100000 in
set_option maxHeartbeats 2000000 in
theorem of_any (b : Nat) (w : World) :
  Calls Try.prog 7 #[.int .u64 (b : Nat)] w fun e w' => e = .returned (.float .f64 b) ∧ Below w.heap.size w w' := by
 go_enter Try.func7, Try.ntmps7
 have sb := sbmk w
 (repeat ((fail_if_success with_reducible refine rg ?_); go_step))
 refine wp_region_pw ?_
 refine pw_value (by rfl) (.float .f64 0) ((fun _ => rfl)) ?_
 simp only [Act.put, pu]
 refine pw_nil ?_
 (repeat ((fail_if_success with_reducible refine rg ?_); go_step))
 refine wp_region_pw ?_
 refine pw_mv (by rfl) rfl rfl ?_
 simp only [Act.put, pu]
 refine pw_value (by rfl) (.float .f64 b) (x_frm _ _ rfl b rfl) ?_
 simp only [Act.put, pu]
 refine pw_as (by rfl) rfl rfl ?_
 simp only [Act.put, pu]
 refine pw_nil ?_
 go_wp2
 go_ret
 exact ⟨rfl, sb⟩
set_option maxRecDepth 100000 in
set_option maxHeartbeats 2000000 in
theorem key_any (b : Nat) (hb : b < 18446744073709551616) (w : World) :
  Calls Try.prog 8 #[.float .f64 b] w fun e w' => e = .returned (.int .i64 (rnk b)) ∧ Below w.heap.size w w' := by
 have hN := fun w' => isnan_any b w'
 go_enter Try.func8, Try.ntmps8
 have sb := sbmk w
 cases hn : nn b with
 | true =>
  simp only [hn] at hN
  rw [rnk_nan hn]
  (repeat ((fail_if_success with_reducible refine rg ?_); go_step))
  refine wp_region_pw ?_
  refine pw_value (by rfl) (.int .i64 0) (fun _ => rfl) ?_
  simp only [Act.put, pu]
  refine pw_nil ?_
  (repeat ((fail_if_success with_reducible refine rg ?_); go_step))
  refine wp_region_pw ?_
  refine pw_mv (by rfl) rfl rfl ?_
  simp only [Act.put, pu]
  refine pw_callB (by rfl) 24 _ _ rfl Try.func24 (by kernel_rfl) #[.float .f64 b] rfl _ (hN _) ?_
  intro z1001 k
  simp only [Act.put, pu]
  replace sb := sb.trans (k.below w.heap.size sb.size (by simp <;> omega))
  clear k
  refine pw_nil ?_
  (repeat ((fail_if_success with_reducible refine rg ?_); go_step))
  refine wp_region_pw ?_
  refine pw_value (by rfl) (.int .i64 9223372036854775807) (fun _ => rfl) ?_
  simp only [Act.put, pu]
  refine pw_nil ?_
  go_wp2
  go_ret
  exact ⟨rfl, sb⟩
 | false =>
  simp only [hn] at hN
  by_cases hl : b < 9223372036854775808
  ·rw [show rnk b = (b : Int) by rw [rnk_pos hn hl, Nat.mod_eq_of_lt hl]]
   (repeat ((fail_if_success with_reducible refine rg ?_); go_step))
   refine wp_region_pw ?_
   refine pw_value (by rfl) (.int .i64 0) (fun _ => rfl) ?_
   simp only [Act.put, pu]
   refine pw_nil ?_
   (repeat ((fail_if_success with_reducible refine rg ?_); go_step))
   refine wp_region_pw ?_
   refine pw_mv (by rfl) rfl rfl ?_
   simp only [Act.put, pu]
   refine pw_callB (by rfl) 24 _ _ rfl Try.func24 (by kernel_rfl) #[.float .f64 b] rfl _ (hN _) ?_
   intro z1001 k
   simp only [Act.put, pu]
   replace sb := sb.trans (k.below w.heap.size sb.size (by simp <;> omega))
   clear k
   refine pw_nil ?_
   (repeat ((fail_if_success with_reducible refine rg ?_); go_step))
   refine wp_region_pw ?_
   refine pw_mv (by rfl) rfl rfl ?_
   simp only [Act.put, pu]
   refine pw_value (by rfl) (.int .u64 (b : Nat)) (x_bits _ _ rfl b rfl) ?_
   simp only [Act.put, pu]
   refine pw_as (by rfl) rfl rfl ?_
   simp only [Act.put, pu]
   refine pw_nil ?_
   (repeat ((fail_if_success with_reducible refine rg ?_); go_step))
   refine wp_region_pw ?_
   refine pw_mv (by rfl) rfl rfl ?_
   simp only [Act.put, pu]
   refine pw_value (by rfl) (.bool true) (exec_lss_k .u64 _ _ _ _ rfl b 9223372036854775808 rfl rfl true (decide_eq_true (by omega))) ?_
   simp only [Act.put, pu]
   refine pw_nil ?_
   (repeat ((fail_if_success with_reducible refine rg ?_); go_step))
   refine wp_region_pw ?_
   refine pw_mv (by rfl) rfl rfl ?_
   simp only [Act.put, pu]
   refine pw_value (by rfl) (.int .i64 (b : Nat)) ((y_conv 22 3 _ rfl .u64 .i64 Try.underlying22 Try.underlying3 (b : Nat) (b : Nat) rfl (wrap_sm _ (by omega) (by omega)))) ?_
   simp only [Act.put, pu]
   refine pw_as (by rfl) rfl rfl ?_
   simp only [Act.put, pu]
   refine pw_nil ?_
   go_wp2
   go_ret
   exact ⟨rfl, sb⟩
  ·rw [show rnk b = -1 - ((b - 9223372036854775808 : Nat) : Int) by rw [rnk_neg hn (by omega) hb]; omega]
   (repeat ((fail_if_success with_reducible refine rg ?_); go_step))
   refine wp_region_pw ?_
   refine pw_value (by rfl) (.int .i64 0) (fun _ => rfl) ?_
   simp only [Act.put, pu]
   refine pw_nil ?_
   (repeat ((fail_if_success with_reducible refine rg ?_); go_step))
   refine wp_region_pw ?_
   refine pw_mv (by rfl) rfl rfl ?_
   simp only [Act.put, pu]
   refine pw_callB (by rfl) 24 _ _ rfl Try.func24 (by kernel_rfl) #[.float .f64 b] rfl _ (hN _) ?_
   intro z1001 k
   simp only [Act.put, pu]
   replace sb := sb.trans (k.below w.heap.size sb.size (by simp <;> omega))
   clear k
   refine pw_nil ?_
   (repeat ((fail_if_success with_reducible refine rg ?_); go_step))
   refine wp_region_pw ?_
   refine pw_mv (by rfl) rfl rfl ?_
   simp only [Act.put, pu]
   refine pw_value (by rfl) (.int .u64 (b : Nat)) (x_bits _ _ rfl b rfl) ?_
   simp only [Act.put, pu]
   refine pw_as (by rfl) rfl rfl ?_
   simp only [Act.put, pu]
   refine pw_nil ?_
   (repeat ((fail_if_success with_reducible refine rg ?_); go_step))
   refine wp_region_pw ?_
   refine pw_mv (by rfl) rfl rfl ?_
   simp only [Act.put, pu]
   refine pw_value (by rfl) (.bool false) (exec_lss_k .u64 _ _ _ _ rfl b 9223372036854775808 rfl rfl false (decide_eq_false (by omega))) ?_
   simp only [Act.put, pu]
   refine pw_nil ?_
   (repeat ((fail_if_success with_reducible refine rg ?_); go_step))
   refine wp_region_pw ?_
   refine pw_mv (by rfl) rfl rfl ?_
   simp only [Act.put, pu]
   refine pw_value (by rfl) (.int .u64 ((b - 9223372036854775808 : Nat) : Int)) (x_sub .u64 _ _ _ _ rfl b 9223372036854775808 _ rfl rfl ((wrap_us _ (by omega) (by omega)).trans (by omega))) ?_
   simp only [Act.put, pu]
   refine pw_value (by rfl) (.int .i64 (((b - 9223372036854775808 : Nat) : Int))) ((y_conv 22 3 _ rfl .u64 .i64 Try.underlying22 Try.underlying3 (((b - 9223372036854775808 : Nat) : Int)) (((b - 9223372036854775808 : Nat) : Int)) rfl (wrap_sm _ (by omega) (by omega)))) ?_
   simp only [Act.put, pu]
   refine pw_value (by rfl) (.int .i64 (-1 - ((b - 9223372036854775808 : Nat) : Int))) (x_sub .i64 _ _ _ _ rfl (-1) ((b - 9223372036854775808 : Nat) : Int) _ rfl rfl (wrap_sm _ (by omega) (by omega))) ?_
   simp only [Act.put, pu]
   refine pw_as (by rfl) rfl rfl ?_
   simp only [Act.put, pu]
   refine pw_nil ?_
   go_wp2
   go_ret
   exact ⟨rfl, sb⟩
set_option maxRecDepth 100000 in
set_option maxHeartbeats 2000000 in
theorem abs_any (b : Nat) (hb : b < 18446744073709551616) (w : World) :
  Calls Try.prog 27 #[.float .f64 b] w fun e w' => e = .returned (.float .f64 (b % 9223372036854775808)) ∧ Below w.heap.size w w' := by
 go_enter Try.func27, Try.ntmps27
 have sb := sbmk w
 (repeat ((fail_if_success with_reducible refine rg ?_); go_step))
 refine wp_region_pw ?_
 refine pw_value (by rfl) (.float .f64 0) ((fun _ => rfl)) ?_
 simp only [Act.put, pu]
 refine pw_nil ?_
 (repeat ((fail_if_success with_reducible refine rg ?_); go_step))
 refine wp_region_pw ?_
 refine pw_mv (by rfl) rfl rfl ?_
 simp only [Act.put, pu]
 refine pw_value (by rfl) (.int .u64 (b : Nat)) (x_bits _ _ rfl b rfl) ?_
 simp only [Act.put, pu]
 refine pw_value (by rfl) (.int .u64 ((b % 9223372036854775808 : Nat) : Int)) (x_andn _ _ _ _ rfl b hb rfl rfl) ?_
 simp only [Act.put, pu]
 refine pw_value (by rfl) (.float .f64 (b % 9223372036854775808)) (x_frm _ _ rfl (b % 9223372036854775808) rfl) ?_
 simp only [Act.put, pu]
 refine pw_as (by rfl) rfl rfl ?_
 simp only [Act.put, pu]
 refine pw_nil ?_
 go_wp2
 go_ret
 exact ⟨rfl, sb⟩
set_option maxRecDepth 100000 in
set_option maxHeartbeats 2000000 in
theorem sbit_any (b : Nat) (hb : b < 18446744073709551616) (w : World) :
  Calls Try.prog 28 #[.float .f64 b] w fun e w' => e = .returned (.bool (decide (9223372036854775808 ≤ b))) ∧ Below w.heap.size w w' := by
 obtain ⟨z, hz, hz2⟩ : ∃ z : Int, IntKind.i64.wrap (b : Int) = z ∧ decide (z < 0) = decide (9223372036854775808 ≤ b) := by
  refine ⟨_, rfl, ?_⟩
  rw [IntKind.wrap_i64]
  by_cases h : 9223372036854775808 ≤ b
  ·rw [decide_eq_true h]; exact decide_eq_true (by omega)
  ·rw [decide_eq_false h]; exact decide_eq_false (by omega)
 go_enter Try.func28, Try.ntmps28
 have sb := sbmk w
 (repeat ((fail_if_success with_reducible refine rg ?_); go_step))
 refine wp_region_pw ?_
 refine pw_value (by rfl) (.bool false) (fun _ => rfl) ?_
 simp only [Act.put, pu]
 refine pw_nil ?_
 (repeat ((fail_if_success with_reducible refine rg ?_); go_step))
 refine wp_region_pw ?_
 refine pw_mv (by rfl) rfl rfl ?_
 simp only [Act.put, pu]
 refine pw_value (by rfl) (.int .u64 (b : Nat)) (x_bits _ _ rfl b rfl) ?_
 simp only [Act.put, pu]
 refine pw_value (by rfl) (.int .i64 z) ((y_conv 22 2 _ rfl .u64 .i64 Try.underlying22 Try.underlying2 (b : Nat) z rfl hz)) ?_
 simp only [Act.put, pu]
 refine pw_value (by rfl) (.bool (decide (9223372036854775808 ≤ b))) (exec_lt_b _ _ _ _ rfl z 0 rfl rfl _ hz2) ?_
 simp only [Act.put, pu]
 refine pw_as (by rfl) rfl rfl ?_
 simp only [Act.put, pu]
 refine pw_nil ?_
 go_wp2
 go_ret
 exact ⟨rfl, sb⟩
set_option maxRecDepth 100000 in
set_option maxHeartbeats 2000000 in
theorem rkey_any (b : Nat) (hb : b < 18446744073709551616) (w : World) :
  Calls Try.prog 9 #[.float .f64 b] w fun e w' => e = .returned (.int .i64 (rnk b)) ∧ Below w.heap.size w w' := by
 have hN := fun w' => rnone_any b w'
 have hA := fun w' => abs_any b hb w'
 have hS := fun w' => sbit_any b hb w'
 go_enter Try.func9, Try.ntmps9
 have sb := sbmk w
 cases hn : nn b with
 | true =>
  simp only [hn] at hN
  rw [rnk_nan hn]
  (repeat ((fail_if_success with_reducible refine rg ?_); go_step))
  refine wp_region_pw ?_
  refine pw_value (by rfl) (.int .i64 0) (fun _ => rfl) ?_
  simp only [Act.put, pu]
  refine pw_nil ?_
  (repeat ((fail_if_success with_reducible refine rg ?_); go_step))
  refine wp_region_pw ?_
  refine pw_mv (by rfl) rfl rfl ?_
  simp only [Act.put, pu]
  refine pw_callB (by rfl) 26 _ _ rfl Try.func26 (by kernel_rfl) #[.float .f64 b] rfl _ (hN _) ?_
  intro z1001 k
  simp only [Act.put, pu]
  replace sb := sb.trans (k.below w.heap.size sb.size (by simp <;> omega))
  clear k
  refine pw_nil ?_
  (repeat ((fail_if_success with_reducible refine rg ?_); go_step))
  refine wp_region_pw ?_
  refine pw_value (by rfl) (.int .i64 9223372036854775807) (fun _ => rfl) ?_
  simp only [Act.put, pu]
  refine pw_nil ?_
  go_wp2
  go_ret
  exact ⟨rfl, sb⟩
 | false =>
  simp only [hn] at hN
  by_cases hl : b < 9223372036854775808
  ·have hd : decide (9223372036854775808 ≤ b) = false := decide_eq_false (by omega)
   simp only [hd] at hS
   rw [rnk_pos hn hl]
   (repeat ((fail_if_success with_reducible refine rg ?_); go_step))
   refine wp_region_pw ?_
   refine pw_value (by rfl) (.int .i64 0) (fun _ => rfl) ?_
   simp only [Act.put, pu]
   refine pw_nil ?_
   (repeat ((fail_if_success with_reducible refine rg ?_); go_step))
   refine wp_region_pw ?_
   refine pw_mv (by rfl) rfl rfl ?_
   simp only [Act.put, pu]
   refine pw_callB (by rfl) 26 _ _ rfl Try.func26 (by kernel_rfl) #[.float .f64 b] rfl _ (hN _) ?_
   intro z1001 k
   simp only [Act.put, pu]
   replace sb := sb.trans (k.below w.heap.size sb.size (by simp <;> omega))
   clear k
   refine pw_nil ?_
   (repeat ((fail_if_success with_reducible refine rg ?_); go_step))
   refine wp_region_pw ?_
   refine pw_mv (by rfl) rfl rfl ?_
   simp only [Act.put, pu]
   refine pw_callB (by rfl) 27 _ _ rfl Try.func27 (by kernel_rfl) #[.float .f64 b] rfl _ (hA _) ?_
   intro z3001 k
   simp only [Act.put, pu]
   replace sb := sb.trans (k.below w.heap.size sb.size (by simp <;> omega))
   clear k
   refine pw_value (by rfl) (.int .u64 ((b % 9223372036854775808 : Nat) : Int)) (x_bits _ _ rfl (b % 9223372036854775808) rfl) ?_
   simp only [Act.put, pu]
   refine pw_value (by rfl) (.int .i64 (((b % 9223372036854775808 : Nat) : Int))) ((y_conv 22 3 _ rfl .u64 .i64 Try.underlying22 Try.underlying3 (((b % 9223372036854775808 : Nat) : Int)) (((b % 9223372036854775808 : Nat) : Int)) rfl (wrap_sm _ (by omega) (by omega)))) ?_
   simp only [Act.put, pu]
   refine pw_as (by rfl) rfl rfl ?_
   simp only [Act.put, pu]
   refine pw_nil ?_
   (repeat ((fail_if_success with_reducible refine rg ?_); go_step))
   refine wp_region_pw ?_
   refine pw_mv (by rfl) rfl rfl ?_
   simp only [Act.put, pu]
   refine pw_callB (by rfl) 28 _ _ rfl Try.func28 (by kernel_rfl) #[.float .f64 b] rfl _ (hS _) ?_
   intro z4001 k
   simp only [Act.put, pu]
   replace sb := sb.trans (k.below w.heap.size sb.size (by simp <;> omega))
   clear k
   refine pw_nil ?_
   (repeat ((fail_if_success with_reducible refine rg ?_); go_step))
   refine wp_region_pw ?_
   refine pw_mv (by rfl) rfl rfl ?_
   simp only [Act.put, pu]
   refine pw_as (by rfl) rfl rfl ?_
   simp only [Act.put, pu]
   refine pw_nil ?_
   go_wp2
   go_ret
   exact ⟨rfl, sb⟩
  ·have hd : decide (9223372036854775808 ≤ b) = true := decide_eq_true (by omega)
   simp only [hd] at hS
   rw [rnk_neg hn (by omega) hb]
   (repeat ((fail_if_success with_reducible refine rg ?_); go_step))
   refine wp_region_pw ?_
   refine pw_value (by rfl) (.int .i64 0) (fun _ => rfl) ?_
   simp only [Act.put, pu]
   refine pw_nil ?_
   (repeat ((fail_if_success with_reducible refine rg ?_); go_step))
   refine wp_region_pw ?_
   refine pw_mv (by rfl) rfl rfl ?_
   simp only [Act.put, pu]
   refine pw_callB (by rfl) 26 _ _ rfl Try.func26 (by kernel_rfl) #[.float .f64 b] rfl _ (hN _) ?_
   intro z1001 k
   simp only [Act.put, pu]
   replace sb := sb.trans (k.below w.heap.size sb.size (by simp <;> omega))
   clear k
   refine pw_nil ?_
   (repeat ((fail_if_success with_reducible refine rg ?_); go_step))
   refine wp_region_pw ?_
   refine pw_mv (by rfl) rfl rfl ?_
   simp only [Act.put, pu]
   refine pw_callB (by rfl) 27 _ _ rfl Try.func27 (by kernel_rfl) #[.float .f64 b] rfl _ (hA _) ?_
   intro z3001 k
   simp only [Act.put, pu]
   replace sb := sb.trans (k.below w.heap.size sb.size (by simp <;> omega))
   clear k
   refine pw_value (by rfl) (.int .u64 ((b % 9223372036854775808 : Nat) : Int)) (x_bits _ _ rfl (b % 9223372036854775808) rfl) ?_
   simp only [Act.put, pu]
   refine pw_value (by rfl) (.int .i64 (((b % 9223372036854775808 : Nat) : Int))) ((y_conv 22 3 _ rfl .u64 .i64 Try.underlying22 Try.underlying3 (((b % 9223372036854775808 : Nat) : Int)) (((b % 9223372036854775808 : Nat) : Int)) rfl (wrap_sm _ (by omega) (by omega)))) ?_
   simp only [Act.put, pu]
   refine pw_as (by rfl) rfl rfl ?_
   simp only [Act.put, pu]
   refine pw_nil ?_
   (repeat ((fail_if_success with_reducible refine rg ?_); go_step))
   refine wp_region_pw ?_
   refine pw_mv (by rfl) rfl rfl ?_
   simp only [Act.put, pu]
   refine pw_callB (by rfl) 28 _ _ rfl Try.func28 (by kernel_rfl) #[.float .f64 b] rfl _ (hS _) ?_
   intro z4001 k
   simp only [Act.put, pu]
   replace sb := sb.trans (k.below w.heap.size sb.size (by simp <;> omega))
   clear k
   refine pw_nil ?_
   (repeat ((fail_if_success with_reducible refine rg ?_); go_step))
   refine wp_region_pw ?_
   refine pw_mv (by rfl) rfl rfl ?_
   simp only [Act.put, pu]
   refine pw_value (by rfl) (.int .i64 (-1 - ((b % 9223372036854775808 : Nat) : Int))) (x_sub .i64 _ _ _ _ rfl (-1) ((b % 9223372036854775808 : Nat) : Int) _ rfl rfl (wrap_sm _ (by omega) (by omega))) ?_
   simp only [Act.put, pu]
   refine pw_as (by rfl) rfl rfl ?_
   simp only [Act.put, pu]
   refine pw_nil ?_
   go_wp2
   go_ret
   exact ⟨rfl, sb⟩
set_option maxRecDepth 100000 in
set_option maxHeartbeats 2000000 in
theorem nan_any (z : Int) (w : World) :
  Calls Try.prog 34 #[.int .i64 z] w fun e w' => e = .returned (.bool false) ∧ Below w.heap.size w w' := by
 go_enter Try.func34, Try.ntmps34
 have sb := sbmk w
 (repeat ((fail_if_success with_reducible refine rg ?_); go_step))
 refine wp_region_pw ?_
 refine pw_value (by rfl) (.bool false) (fun _ => rfl) ?_
 simp only [Act.put, pu]
 refine pw_nil ?_
 (repeat ((fail_if_success with_reducible refine rg ?_); go_step))
 refine wp_region_pw ?_
 refine pw_mv (by rfl) rfl rfl ?_
 simp only [Act.put, pu]
 refine pw_mv (by rfl) rfl rfl ?_
 simp only [Act.put, pu]
 refine pw_value (by rfl) (.bool false) (exec_neq_k .i64 _ _ _ _ rfl z z rfl rfl false (by rw [decide_eq_true rfl]; rfl)) ?_
 simp only [Act.put, pu]
 refine pw_as (by rfl) rfl rfl ?_
 simp only [Act.put, pu]
 refine pw_nil ?_
 go_wp2
 go_ret
 exact ⟨rfl, sb⟩
set_option maxRecDepth 100000 in
set_option maxHeartbeats 2000000 in
theorem ccmp_any (x y : Int) (w : World) :
  Calls Try.prog 29 #[.int .i64 x, .int .i64 y] w fun e w' => e = .returned (.int .i64 (cpz x y)) ∧ Below w.heap.size w w' := by
 go_enter Try.func29, Try.ntmps29
 have sb := sbmk w
 by_cases h1 : x < y
 ·rw [show cpz x y = -1 from if_pos h1]
  (repeat ((fail_if_success with_reducible refine rg ?_); go_step))
  refine wp_region_pw ?_
  refine pw_value (by rfl) (.int .i64 0) (fun _ => rfl) ?_
  simp only [Act.put, pu]
  refine pw_nil ?_
  (repeat ((fail_if_success with_reducible refine rg ?_); go_step))
  refine wp_region_pw ?_
  refine pw_mv (by rfl) rfl rfl ?_
  simp only [Act.put, pu]
  refine pw_callB (by rfl) 34 _ _ rfl Try.func34 (by kernel_rfl) #[.int .i64 x] rfl _ (nan_any x _) ?_
  intro z1001 k
  simp only [Act.put, pu]
  replace sb := sb.trans (k.below w.heap.size sb.size (by simp <;> omega))
  clear k
  refine pw_as (by rfl) rfl rfl ?_
  simp only [Act.put, pu]
  refine pw_nil ?_
  (repeat ((fail_if_success with_reducible refine rg ?_); go_step))
  refine wp_region_pw ?_
  refine pw_mv (by rfl) rfl rfl ?_
  simp only [Act.put, pu]
  refine pw_callB (by rfl) 34 _ _ rfl Try.func34 (by kernel_rfl) #[.int .i64 y] rfl _ (nan_any y _) ?_
  intro z2001 k
  simp only [Act.put, pu]
  replace sb := sb.trans (k.below w.heap.size sb.size (by simp <;> omega))
  clear k
  refine pw_as (by rfl) rfl rfl ?_
  simp only [Act.put, pu]
  refine pw_nil ?_
  (repeat ((fail_if_success with_reducible refine rg ?_); go_step))
  refine wp_region_pw ?_
  refine pw_mv (by rfl) rfl rfl ?_
  simp only [Act.put, pu]
  refine pw_nil ?_
  (repeat ((fail_if_success with_reducible refine rg ?_); go_step))
  refine wp_region_pw ?_
  refine pw_mv (by rfl) rfl rfl ?_
  simp only [Act.put, pu]
  refine pw_nil ?_
  (repeat ((fail_if_success with_reducible refine rg ?_); go_step))
  refine wp_region_pw ?_
  refine pw_mv (by rfl) rfl rfl ?_
  simp only [Act.put, pu]
  refine pw_mv (by rfl) rfl rfl ?_
  simp only [Act.put, pu]
  refine pw_value (by rfl) (.bool true) (exec_lt_b _ _ _ _ rfl x y rfl rfl true (decide_eq_true h1)) ?_
  simp only [Act.put, pu]
  refine pw_nil ?_
  (repeat ((fail_if_success with_reducible refine rg ?_); go_step))
  refine wp_region_pw ?_
  refine pw_move (by rfl) (.inr rfl) rfl ?_
  simp only [Act.put, pu]
  refine pw_nil ?_
  go_wp2
  go_ret
  exact ⟨rfl, sb⟩
 ·by_cases h2 : x > y
  ·rw [show cpz x y = 1 by unfold cpz; rw [if_neg h1, if_pos h2]]
   (repeat ((fail_if_success with_reducible refine rg ?_); go_step))
   refine wp_region_pw ?_
   refine pw_value (by rfl) (.int .i64 0) (fun _ => rfl) ?_
   simp only [Act.put, pu]
   refine pw_nil ?_
   (repeat ((fail_if_success with_reducible refine rg ?_); go_step))
   refine wp_region_pw ?_
   refine pw_mv (by rfl) rfl rfl ?_
   simp only [Act.put, pu]
   refine pw_callB (by rfl) 34 _ _ rfl Try.func34 (by kernel_rfl) #[.int .i64 x] rfl _ (nan_any x _) ?_
   intro z1001 k
   simp only [Act.put, pu]
   replace sb := sb.trans (k.below w.heap.size sb.size (by simp <;> omega))
   clear k
   refine pw_as (by rfl) rfl rfl ?_
   simp only [Act.put, pu]
   refine pw_nil ?_
   (repeat ((fail_if_success with_reducible refine rg ?_); go_step))
   refine wp_region_pw ?_
   refine pw_mv (by rfl) rfl rfl ?_
   simp only [Act.put, pu]
   refine pw_callB (by rfl) 34 _ _ rfl Try.func34 (by kernel_rfl) #[.int .i64 y] rfl _ (nan_any y _) ?_
   intro z2001 k
   simp only [Act.put, pu]
   replace sb := sb.trans (k.below w.heap.size sb.size (by simp <;> omega))
   clear k
   refine pw_as (by rfl) rfl rfl ?_
   simp only [Act.put, pu]
   refine pw_nil ?_
   (repeat ((fail_if_success with_reducible refine rg ?_); go_step))
   refine wp_region_pw ?_
   refine pw_mv (by rfl) rfl rfl ?_
   simp only [Act.put, pu]
   refine pw_nil ?_
   (repeat ((fail_if_success with_reducible refine rg ?_); go_step))
   refine wp_region_pw ?_
   refine pw_mv (by rfl) rfl rfl ?_
   simp only [Act.put, pu]
   refine pw_nil ?_
   (repeat ((fail_if_success with_reducible refine rg ?_); go_step))
   refine wp_region_pw ?_
   refine pw_mv (by rfl) rfl rfl ?_
   simp only [Act.put, pu]
   refine pw_mv (by rfl) rfl rfl ?_
   simp only [Act.put, pu]
   refine pw_value (by rfl) (.bool false) (exec_lt_b _ _ _ _ rfl x y rfl rfl false (decide_eq_false h1)) ?_
   simp only [Act.put, pu]
   refine pw_nil ?_
   (repeat ((fail_if_success with_reducible refine rg ?_); go_step))
   refine wp_region_pw ?_
   refine pw_mv (by rfl) rfl rfl ?_
   simp only [Act.put, pu]
   refine pw_mv (by rfl) rfl rfl ?_
   simp only [Act.put, pu]
   refine pw_value (by rfl) (.bool true) (exec_gt_i _ _ _ _ rfl x y rfl rfl true (decide_eq_true h2)) ?_
   simp only [Act.put, pu]
   refine pw_nil ?_
   (repeat ((fail_if_success with_reducible refine rg ?_); go_step))
   refine wp_region_pw ?_
   refine pw_value (by rfl) (.int .i64 1) (fun _ => rfl) ?_
   simp only [Act.put, pu]
   refine pw_nil ?_
   go_wp2
   go_ret
   exact ⟨rfl, sb⟩
  ·rw [show cpz x y = 0 by unfold cpz; rw [if_neg h1, if_neg h2]]
   (repeat ((fail_if_success with_reducible refine rg ?_); go_step))
   refine wp_region_pw ?_
   refine pw_value (by rfl) (.int .i64 0) (fun _ => rfl) ?_
   simp only [Act.put, pu]
   refine pw_nil ?_
   (repeat ((fail_if_success with_reducible refine rg ?_); go_step))
   refine wp_region_pw ?_
   refine pw_mv (by rfl) rfl rfl ?_
   simp only [Act.put, pu]
   refine pw_callB (by rfl) 34 _ _ rfl Try.func34 (by kernel_rfl) #[.int .i64 x] rfl _ (nan_any x _) ?_
   intro z1001 k
   simp only [Act.put, pu]
   replace sb := sb.trans (k.below w.heap.size sb.size (by simp <;> omega))
   clear k
   refine pw_as (by rfl) rfl rfl ?_
   simp only [Act.put, pu]
   refine pw_nil ?_
   (repeat ((fail_if_success with_reducible refine rg ?_); go_step))
   refine wp_region_pw ?_
   refine pw_mv (by rfl) rfl rfl ?_
   simp only [Act.put, pu]
   refine pw_callB (by rfl) 34 _ _ rfl Try.func34 (by kernel_rfl) #[.int .i64 y] rfl _ (nan_any y _) ?_
   intro z2001 k
   simp only [Act.put, pu]
   replace sb := sb.trans (k.below w.heap.size sb.size (by simp <;> omega))
   clear k
   refine pw_as (by rfl) rfl rfl ?_
   simp only [Act.put, pu]
   refine pw_nil ?_
   (repeat ((fail_if_success with_reducible refine rg ?_); go_step))
   refine wp_region_pw ?_
   refine pw_mv (by rfl) rfl rfl ?_
   simp only [Act.put, pu]
   refine pw_nil ?_
   (repeat ((fail_if_success with_reducible refine rg ?_); go_step))
   refine wp_region_pw ?_
   refine pw_mv (by rfl) rfl rfl ?_
   simp only [Act.put, pu]
   refine pw_nil ?_
   (repeat ((fail_if_success with_reducible refine rg ?_); go_step))
   refine wp_region_pw ?_
   refine pw_mv (by rfl) rfl rfl ?_
   simp only [Act.put, pu]
   refine pw_mv (by rfl) rfl rfl ?_
   simp only [Act.put, pu]
   refine pw_value (by rfl) (.bool false) (exec_lt_b _ _ _ _ rfl x y rfl rfl false (decide_eq_false h1)) ?_
   simp only [Act.put, pu]
   refine pw_nil ?_
   (repeat ((fail_if_success with_reducible refine rg ?_); go_step))
   refine wp_region_pw ?_
   refine pw_mv (by rfl) rfl rfl ?_
   simp only [Act.put, pu]
   refine pw_mv (by rfl) rfl rfl ?_
   simp only [Act.put, pu]
   refine pw_value (by rfl) (.bool false) (exec_gt_i _ _ _ _ rfl x y rfl rfl false (decide_eq_false h2)) ?_
   simp only [Act.put, pu]
   refine pw_nil ?_
   (repeat ((fail_if_success with_reducible refine rg ?_); go_step))
   refine wp_region_pw ?_
   refine pw_value (by rfl) (.int .i64 0) (fun _ => rfl) ?_
   simp only [Act.put, pu]
   refine pw_nil ?_
   go_wp2
   go_ret
   exact ⟨rfl, sb⟩
set_option maxRecDepth 100000 in
set_option maxHeartbeats 2000000 in
theorem cmp_any (a b : Nat) (ha : a < 18446744073709551616) (hb : b < 18446744073709551616) (w : World) :
  Calls Try.prog 10 #[.float .f64 a, .float .f64 b] w fun e w' => e = .returned (.int .i64 (cpz (rnk a) (rnk b))) ∧ Below w.heap.size w w' := by
 go_enter Try.func10, Try.ntmps10
 have sb := sbmk w
 (repeat ((fail_if_success with_reducible refine rg ?_); go_step))
 refine wp_region_pw ?_
 refine pw_value (by rfl) (.int .i64 0) (fun _ => rfl) ?_
 simp only [Act.put, pu]
 refine pw_nil ?_
 (repeat ((fail_if_success with_reducible refine rg ?_); go_step))
 refine wp_region_pw ?_
 refine pw_mv (by rfl) rfl rfl ?_
 simp only [Act.put, pu]
 refine pw_callB (by rfl) 8 _ _ rfl Try.func8 (by kernel_rfl) #[.float .f64 a] rfl _ (key_any a ha _) ?_
 intro z1001 k
 simp only [Act.put, pu]
 replace sb := sb.trans (k.below w.heap.size sb.size (by simp <;> omega))
 clear k
 refine pw_mv (by rfl) rfl rfl ?_
 simp only [Act.put, pu]
 refine pw_callB (by rfl) 8 _ _ rfl Try.func8 (by kernel_rfl) #[.float .f64 b] rfl _ (key_any b hb _) ?_
 intro z1003 k
 simp only [Act.put, pu]
 replace sb := sb.trans (k.below w.heap.size sb.size (by simp <;> omega))
 clear k
 refine pw_callB (by rfl) 29 _ _ rfl Try.func29 (by kernel_rfl) #[.int .i64 (rnk a), .int .i64 (rnk b)] rfl _ (ccmp_any _ _ _) ?_
 intro z1004 k
 simp only [Act.put, pu]
 replace sb := sb.trans (k.below w.heap.size sb.size (by simp <;> omega))
 clear k
 refine pw_as (by rfl) rfl rfl ?_
 simp only [Act.put, pu]
 refine pw_nil ?_
 go_wp2
 go_ret
 exact ⟨rfl, sb⟩
set_option maxRecDepth 100000 in
set_option maxHeartbeats 2000000 in
theorem wrcmp_any (a b : Nat) (ha : a < 18446744073709551616) (hb : b < 18446744073709551616) (w : World) :
  Calls Try.prog 11 #[.float .f64 a, .float .f64 b] w fun e w' => e = .returned (.int .i64 (cpz (rnk a) (rnk b))) ∧ Below w.heap.size w w' := by
 go_enter Try.func11, Try.ntmps11
 have sb := sbmk w
 by_cases h1 : rnk a < rnk b
 ·rw [show cpz (rnk a) (rnk b) = -1 from if_pos h1]
  (repeat ((fail_if_success with_reducible refine rg ?_); go_step))
  refine wp_region_pw ?_
  refine pw_value (by rfl) (.int .i64 0) (fun _ => rfl) ?_
  simp only [Act.put, pu]
  refine pw_nil ?_
  (repeat ((fail_if_success with_reducible refine rg ?_); go_step))
  refine wp_region_pw ?_
  refine pw_mv (by rfl) rfl rfl ?_
  simp only [Act.put, pu]
  refine pw_callB (by rfl) 9 _ _ rfl Try.func9 (by kernel_rfl) #[.float .f64 a] rfl _ (rkey_any a ha _) ?_
  intro z1001 k
  simp only [Act.put, pu]
  replace sb := sb.trans (k.below w.heap.size sb.size (by simp <;> omega))
  clear k
  refine pw_mv (by rfl) rfl rfl ?_
  simp only [Act.put, pu]
  refine pw_callB (by rfl) 9 _ _ rfl Try.func9 (by kernel_rfl) #[.float .f64 b] rfl _ (rkey_any b hb _) ?_
  intro z1003 k
  simp only [Act.put, pu]
  replace sb := sb.trans (k.below w.heap.size sb.size (by simp <;> omega))
  clear k
  refine pw_as (by rfl) rfl rfl ?_
  simp only [Act.put, pu]
  refine pw_as (by rfl) rfl rfl ?_
  simp only [Act.put, pu]
  refine pw_nil ?_
  (repeat ((fail_if_success with_reducible refine rg ?_); go_step))
  refine wp_region_pw ?_
  refine pw_mv (by rfl) rfl rfl ?_
  simp only [Act.put, pu]
  refine pw_mv (by rfl) rfl rfl ?_
  simp only [Act.put, pu]
  refine pw_value (by rfl) (.bool true) (exec_lt_b _ _ _ _ rfl (rnk a) (rnk b) rfl rfl true (decide_eq_true h1)) ?_
  simp only [Act.put, pu]
  refine pw_nil ?_
  (repeat ((fail_if_success with_reducible refine rg ?_); go_step))
  refine wp_region_pw ?_
  refine pw_move (by rfl) (.inr rfl) rfl ?_
  simp only [Act.put, pu]
  refine pw_nil ?_
  go_wp2
  go_ret
  exact ⟨rfl, sb⟩
 ·by_cases h2 : rnk a > rnk b
  ·rw [show cpz (rnk a) (rnk b) = 1 by unfold cpz; rw [if_neg h1, if_pos h2]]
   (repeat ((fail_if_success with_reducible refine rg ?_); go_step))
   refine wp_region_pw ?_
   refine pw_value (by rfl) (.int .i64 0) (fun _ => rfl) ?_
   simp only [Act.put, pu]
   refine pw_nil ?_
   (repeat ((fail_if_success with_reducible refine rg ?_); go_step))
   refine wp_region_pw ?_
   refine pw_mv (by rfl) rfl rfl ?_
   simp only [Act.put, pu]
   refine pw_callB (by rfl) 9 _ _ rfl Try.func9 (by kernel_rfl) #[.float .f64 a] rfl _ (rkey_any a ha _) ?_
   intro z1001 k
   simp only [Act.put, pu]
   replace sb := sb.trans (k.below w.heap.size sb.size (by simp <;> omega))
   clear k
   refine pw_mv (by rfl) rfl rfl ?_
   simp only [Act.put, pu]
   refine pw_callB (by rfl) 9 _ _ rfl Try.func9 (by kernel_rfl) #[.float .f64 b] rfl _ (rkey_any b hb _) ?_
   intro z1003 k
   simp only [Act.put, pu]
   replace sb := sb.trans (k.below w.heap.size sb.size (by simp <;> omega))
   clear k
   refine pw_as (by rfl) rfl rfl ?_
   simp only [Act.put, pu]
   refine pw_as (by rfl) rfl rfl ?_
   simp only [Act.put, pu]
   refine pw_nil ?_
   (repeat ((fail_if_success with_reducible refine rg ?_); go_step))
   refine wp_region_pw ?_
   refine pw_mv (by rfl) rfl rfl ?_
   simp only [Act.put, pu]
   refine pw_mv (by rfl) rfl rfl ?_
   simp only [Act.put, pu]
   refine pw_value (by rfl) (.bool false) (exec_lt_b _ _ _ _ rfl (rnk a) (rnk b) rfl rfl false (decide_eq_false h1)) ?_
   simp only [Act.put, pu]
   refine pw_nil ?_
   (repeat ((fail_if_success with_reducible refine rg ?_); go_step))
   refine wp_region_pw ?_
   refine pw_mv (by rfl) rfl rfl ?_
   simp only [Act.put, pu]
   refine pw_mv (by rfl) rfl rfl ?_
   simp only [Act.put, pu]
   refine pw_value (by rfl) (.bool true) (exec_gt_i _ _ _ _ rfl (rnk a) (rnk b) rfl rfl true (decide_eq_true h2)) ?_
   simp only [Act.put, pu]
   refine pw_nil ?_
   (repeat ((fail_if_success with_reducible refine rg ?_); go_step))
   refine wp_region_pw ?_
   refine pw_value (by rfl) (.int .i64 1) (fun _ => rfl) ?_
   simp only [Act.put, pu]
   refine pw_nil ?_
   go_wp2
   go_ret
   exact ⟨rfl, sb⟩
  ·rw [show cpz (rnk a) (rnk b) = 0 by unfold cpz; rw [if_neg h1, if_neg h2]]
   (repeat ((fail_if_success with_reducible refine rg ?_); go_step))
   refine wp_region_pw ?_
   refine pw_value (by rfl) (.int .i64 0) (fun _ => rfl) ?_
   simp only [Act.put, pu]
   refine pw_nil ?_
   (repeat ((fail_if_success with_reducible refine rg ?_); go_step))
   refine wp_region_pw ?_
   refine pw_mv (by rfl) rfl rfl ?_
   simp only [Act.put, pu]
   refine pw_callB (by rfl) 9 _ _ rfl Try.func9 (by kernel_rfl) #[.float .f64 a] rfl _ (rkey_any a ha _) ?_
   intro z1001 k
   simp only [Act.put, pu]
   replace sb := sb.trans (k.below w.heap.size sb.size (by simp <;> omega))
   clear k
   refine pw_mv (by rfl) rfl rfl ?_
   simp only [Act.put, pu]
   refine pw_callB (by rfl) 9 _ _ rfl Try.func9 (by kernel_rfl) #[.float .f64 b] rfl _ (rkey_any b hb _) ?_
   intro z1003 k
   simp only [Act.put, pu]
   replace sb := sb.trans (k.below w.heap.size sb.size (by simp <;> omega))
   clear k
   refine pw_as (by rfl) rfl rfl ?_
   simp only [Act.put, pu]
   refine pw_as (by rfl) rfl rfl ?_
   simp only [Act.put, pu]
   refine pw_nil ?_
   (repeat ((fail_if_success with_reducible refine rg ?_); go_step))
   refine wp_region_pw ?_
   refine pw_mv (by rfl) rfl rfl ?_
   simp only [Act.put, pu]
   refine pw_mv (by rfl) rfl rfl ?_
   simp only [Act.put, pu]
   refine pw_value (by rfl) (.bool false) (exec_lt_b _ _ _ _ rfl (rnk a) (rnk b) rfl rfl false (decide_eq_false h1)) ?_
   simp only [Act.put, pu]
   refine pw_nil ?_
   (repeat ((fail_if_success with_reducible refine rg ?_); go_step))
   refine wp_region_pw ?_
   refine pw_mv (by rfl) rfl rfl ?_
   simp only [Act.put, pu]
   refine pw_mv (by rfl) rfl rfl ?_
   simp only [Act.put, pu]
   refine pw_value (by rfl) (.bool false) (exec_gt_i _ _ _ _ rfl (rnk a) (rnk b) rfl rfl false (decide_eq_false h2)) ?_
   simp only [Act.put, pu]
   refine pw_nil ?_
   (repeat ((fail_if_success with_reducible refine rg ?_); go_step))
   refine wp_region_pw ?_
   refine pw_value (by rfl) (.int .i64 0) (fun _ => rfl) ?_
   simp only [Act.put, pu]
   refine pw_nil ?_
   go_wp2
   go_ret
   exact ⟨rfl, sb⟩
end Go.Proofs.Ytonppckllfamiaa
