/- The document's functions of layer 3 that need no loop: May and Form. -/
import Derived.Test.YtbmkebdfaokmhaaGT
namespace Go.Proofs.Ytbmkebdfaokmhaa
open Go.RowKit
theorem exec_and1_u {P : Program} {o : Oper} {ρ : Operand → Value} (t : TypeId) (x y : Operand) (u : TypeId) (ho : o.op = .binOp .and t x y u) (n : Nat) (hn : n < 18446744073709551616) (hx : ρ x = .int .u64 n) (hy : ρ y = .int .u64 1) (w : World) :
  (execOp ρ o).run P w = .ok (.value (.int .u64 ((n % 2 : Nat) : Int))) w := by
 have h1 : bits .and .u64 (n : Int) 1 = ((n % 2 : Nat) : Int) := by
  have := bits_and_u64_nat n 1 hn (by decide)
  rw [Nat.and_one_is_mod] at this
  exact this
 unfold execOp
 simp only [ho, hx, hy]
 simp [go_sem]
 rw [h1]
 rfl
set_option maxRecDepth 100000 in
set_option maxHeartbeats 1000000 in
theorem may_even (M : Nat) (w : World) (h : M % 2 = 0) :
  Calls Try.prog 85 #[.agg (natC M)] w fun e w' => e = .returned (.bool false) ∧ Below w.heap.size w w' := by
 have HV : Hid (lm M 0 % 2 = 0) := by show _ = _; rw [lm_odd]; exact h
 clear h
 go_enter Try.func85, Try.ntmps85
 (repeat ((fail_if_success with_reducible refine rg ?_); go_step))
 apply wp_region_mixp [] [_, _] trivial List.nodup_nil
 ·intro p
  refine mx_box 25 _ rfl _ rfl ?_
  simp only [Act.put, pu]
  refine mx_val (.bool false) (fun _ => rfl) ?_
  simp only [Act.put, pu]
  refine mx_end ?_
  intro w2 hkw hrw hnew hdis
  have n1 := hnew 0 rfl
  have zr1 : Row w2 (p 0) (natC M) 25 := hrw 1 (25, natC M) rfl
  have sb := hkw.below w.heap.size (Nat.le_refl _) (by simp)
  have b1 : w.heap.size ≤ p 0 := n1
  clear hkw hrw hnew hdis n1
  generalize p 0 = g1 at *
  have r1 := zr1
  clear zr1
  (repeat ((fail_if_success with_reducible refine rg ?_); go_step))
  refine wp_region_qw (by kernel_rfl) (by kernel_rfl) ?_
  refine qw_value (by rfl) (.pointer (some ⟨g1, 0, none⟩)) (exec_index 25 _ _ rfl g1 rfl 0 4 rfl (by omega) _ Try.underlying25 Try.sizeOf23) ?_
  simp only [Act.put, pu]
  refine qw_loadc (by rfl) 23 _ rfl _ (0) rfl r1 (.int .u64 (lm M 0 : Nat)) (natC_get M 0 (by omega)) Try.isAgg23 ?_
  simp only [Act.put, pu]
  refine qw_value (by rfl) (.int .u64 ((lm M 0 % 2 : Nat) : Int)) (exec_and1_u _ _ _ _ rfl (lm M 0) (lm_lt M 0) rfl rfl) ?_
  simp only [Act.put, pu]
  refine qw_value (by rfl) (.bool false) (exec_eql_k .u64 _ _ _ _ rfl _ 1 rfl rfl false (by rw [HV.out]; rfl)) ?_
  simp only [Act.put, pu]
  refine qw_move (by rfl) rfl rfl ?_
  simp only [Act.put, pu]
  refine qw_skip (by rfl) ?_
  simp only [Act.put, pu]
  refine qw_skip (by rfl) ?_
  simp only [Act.put, pu]
  refine qw_skip (by rfl) ?_
  simp only [Act.put, pu]
  refine qw_pick false (v := .bool false) (by rfl) rfl rfl rfl ?_
  simp only [Act.put, pu]
  refine qw_asg (by rfl) rfl rfl ?_
  simp only [Act.put, pu]
  refine qw_nil ?_
  intro w3 hqb
  replace sb := below_on sb (Nat.le_refl _) hqb
  clear hqb
  go_wp2
  go_ret
  exact ⟨rfl, sb⟩
 ·rfl
set_option maxRecDepth 100000 in
set_option maxHeartbeats 1000000 in
theorem may_odd (M : Nat) (b : Bool) (w : World) (h : M % 2 = 1) (hb : (!decide (M % 2 ^ 256 = 1 % 2 ^ 256)) = b) :
  Calls Try.prog 85 #[.agg (natC M)] w fun e w' => e = .returned (.bool b) ∧ Below w.heap.size w w' := by
 have HV : Hid (lm M 0 % 2 = 1) := by show _ = _; rw [lm_odd]; exact h
 have HB : Hid ((!decide (M % 2 ^ 256 = 1 % 2 ^ 256)) = b) := hb
 have hin := fun w' => rint_any (1 : Int) w' (by decide)
 rw [show (1 : Int).toNat = 1 from rfl] at hin
 clear h hb
 go_enter Try.func85, Try.ntmps85
 (repeat ((fail_if_success with_reducible refine rg ?_); go_step))
 apply wp_region_mixp [] [_, _] trivial List.nodup_nil
 ·intro p
  refine mx_box 25 _ rfl _ rfl ?_
  simp only [Act.put, pu]
  refine mx_val (.bool false) (fun _ => rfl) ?_
  simp only [Act.put, pu]
  refine mx_end ?_
  intro w2 hkw hrw hnew hdis
  have n1 := hnew 0 rfl
  have zr1 : Row w2 (p 0) (natC M) 25 := hrw 1 (25, natC M) rfl
  have sb := hkw.below w.heap.size (Nat.le_refl _) (by simp)
  have b1 : w.heap.size ≤ p 0 := n1
  clear hkw hrw hnew hdis n1
  generalize p 0 = g1 at *
  have r1 := zr1
  clear zr1
  (repeat ((fail_if_success with_reducible refine rg ?_); go_step))
  refine wp_region_qw (by kernel_rfl) (by kernel_rfl) ?_
  refine qw_value (by rfl) (.pointer (some ⟨g1, 0, none⟩)) (exec_index 25 _ _ rfl g1 rfl 0 4 rfl (by omega) _ Try.underlying25 Try.sizeOf23) ?_
  simp only [Act.put, pu]
  refine qw_loadc (by rfl) 23 _ rfl _ (0) rfl r1 (.int .u64 (lm M 0 : Nat)) (natC_get M 0 (by omega)) Try.isAgg23 ?_
  simp only [Act.put, pu]
  refine qw_value (by rfl) (.int .u64 ((lm M 0 % 2 : Nat) : Int)) (exec_and1_u _ _ _ _ rfl (lm M 0) (lm_lt M 0) rfl rfl) ?_
  simp only [Act.put, pu]
  refine qw_value (by rfl) (.bool true) (exec_eql_k .u64 _ _ _ _ rfl _ 1 rfl rfl true (by rw [HV.out]; rfl)) ?_
  simp only [Act.put, pu]
  refine qw_move (by rfl) rfl rfl ?_
  simp only [Act.put, pu]
  refine qw_load (by rfl) 25 _ rfl _ rfl r1 4 _ Try.underlying25 size_nat ?_
  simp only [Act.put, pu]
  refine qw_call (by rfl) 31 _ _ rfl Try.func31 (by kernel_rfl) #[.int .i64 1] rfl _ hin ?_
  simp only [Act.put, pu]
  refine qw_value (by rfl) (.bool b) (fun w' => (exec_neq_nat _ _ _ rfl M 1 rfl rfl w').trans (by rw [HB.out])) ?_
  simp only [Act.put, pu]
  refine qw_pick true (v := .bool b) (by rfl) rfl rfl rfl ?_
  simp only [Act.put, pu]
  refine qw_asg (by rfl) rfl rfl ?_
  simp only [Act.put, pu]
  refine qw_nil ?_
  intro w3 hqb
  replace sb := below_on sb (Nat.le_refl _) hqb
  clear hqb
  go_wp2
  go_ret
  exact ⟨rfl, sb⟩
 ·rfl
theorem form_plain (A M : Nat) (q : RgQ M) : fm M (mt A 1 M) = A % M := by
 unfold fm mt
 rw [Nat.mod_mul_mod, Nat.mul_one, Nat.mul_assoc, Nat.mul_mod, ri_is M q.odd q.two, Nat.mul_one, Nat.mod_mod]
end Go.Proofs.Ytbmkebdfaokmhaa
