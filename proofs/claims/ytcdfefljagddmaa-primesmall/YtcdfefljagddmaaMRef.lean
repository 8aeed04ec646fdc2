/- The document's functions of layer 3 that need no loop: May and Form. -/
import Derived.Test.YtcdfefljagddmaaGT
namespace Go.Proofs.Ytcdfefljagddmaa
open Go.RowKit

theorem exec_and1_u {P : Program} {o : Oper} {ρ : Operand → Value} (t : TypeId) (x y : Operand) (u : TypeId) (ho : o.op = .binOp .and t x y u) (n : Nat) (hn : n < 18446744073709551616) (hx : ρ x = .int .u64 n) (hy : ρ y = .int .u64 1) (w : World) :
    (execOp ρ o).run P w = .ok (.value (.int .u64 ((n % 2 : Nat) : Int))) w := by
  have h1 : bits .and .u64 (n : Int) 1 = ((n % 2 : Nat) : Int) := by
    have := bits_and_u64_nat n 1 hn (by decide)
    rw [Nat.and_one_is_mod] at this
    exact this
  unfold execOp
  simp only [ho, hx, hy]
  simp [go_sem]
  rw [h1]
  rfl

set_option maxRecDepth 100000 in
set_option maxHeartbeats 1000000 in
theorem may_even (M : Nat) (w : World) (h : M % 2 = 0) :
    Calls Try.prog 10 #[.agg (natC M)] w fun e w' => e = .returned (.bool false) ∧ Below w.heap.size w w' := by
  have HV : Hid (lm M 0 % 2 = 0) := by show _ = _; rw [lm_odd]; exact h
  clear h
  go_enter Try.func10, Try.ntmps10
  (repeat ((fail_if_success (with_reducible show Code.wp _ (Code.region _ _ _) _ _ _)); go_step))
  apply wp_region_mixp [] [_, _] trivial List.nodup_nil
  · intro p
    refine mx_box 24 _ rfl _ rfl ?_
    simp only [Act.put, List.setIfInBounds_toArray, List.set_cons_zero, List.set_cons_succ]
    refine mx_val (.bool false) (fun _ => rfl) ?_
    simp only [Act.put, List.setIfInBounds_toArray, List.set_cons_zero, List.set_cons_succ]
    refine mx_end ?_
    intro w2 hkw hrw hnew hdis
    have n1 := hnew 0 rfl
    have zr1 : Row w2 (p 0) (natC M) 24 := hrw 1 (24, natC M) rfl
    have sb := hkw.below w.heap.size (Nat.le_refl _) (by simp)
    have b1 : w.heap.size ≤ p 0 := n1
    clear hkw hrw hnew hdis n1
    generalize p 0 = g1 at *
    have r1 := zr1
    clear zr1
    (repeat ((fail_if_success (with_reducible show Code.wp _ (Code.region _ _ _) _ _ _)); go_step))
    refine wp_region_qw (by kernel_rfl) (by kernel_rfl) ?_
    refine qw_value (by rfl) (.pointer (some ⟨g1, 0, none⟩)) (exec_index 24 _ _ rfl g1 rfl 0 4 rfl (by omega) _ Try.underlying24 Try.sizeOf22) ?_
    simp only [Act.put, List.setIfInBounds_toArray, List.set_cons_zero, List.set_cons_succ]
    refine qw_loadc (by rfl) 22 _ rfl _ (0) rfl r1 (.int .u64 (lm M 0 : Nat)) (natC_get M 0 (by omega)) Try.isAgg22 ?_
    simp only [Act.put, List.setIfInBounds_toArray, List.set_cons_zero, List.set_cons_succ]
    refine qw_value (by rfl) (.int .u64 ((lm M 0 % 2 : Nat) : Int)) (exec_and1_u _ _ _ _ rfl (lm M 0) (lm_lt M 0) rfl rfl) ?_
    simp only [Act.put, List.setIfInBounds_toArray, List.set_cons_zero, List.set_cons_succ]
    refine qw_value (by rfl) (.bool false) (exec_eql_k .u64 _ _ _ _ rfl _ 1 rfl rfl false (by rw [HV.out]; rfl)) ?_
    simp only [Act.put, List.setIfInBounds_toArray, List.set_cons_zero, List.set_cons_succ]
    refine qw_move (by rfl) rfl rfl ?_
    simp only [Act.put, List.setIfInBounds_toArray, List.set_cons_zero, List.set_cons_succ]
    refine qw_skip (by rfl) ?_
    simp only [Act.put, List.setIfInBounds_toArray, List.set_cons_zero, List.set_cons_succ]
    refine qw_skip (by rfl) ?_
    simp only [Act.put, List.setIfInBounds_toArray, List.set_cons_zero, List.set_cons_succ]
    refine qw_skip (by rfl) ?_
    simp only [Act.put, List.setIfInBounds_toArray, List.set_cons_zero, List.set_cons_succ]
    refine qw_pick false (v := .bool false) (by rfl) rfl rfl rfl ?_
    simp only [Act.put, List.setIfInBounds_toArray, List.set_cons_zero, List.set_cons_succ]
    refine qw_asg (by rfl) rfl rfl ?_
    simp only [Act.put, List.setIfInBounds_toArray, List.set_cons_zero, List.set_cons_succ]
    refine qw_nil ?_
    intro w3 hqb
    replace sb := below_on sb (Nat.le_refl _) hqb
    clear hqb
    go_wp2
    go_ret
    exact ⟨rfl, sb⟩
  · rfl
set_option maxRecDepth 100000 in
set_option maxHeartbeats 1000000 in
theorem may_odd (M : Nat) (b : Bool) (w : World) (h : M % 2 = 1) (hb : (!decide (M % 2 ^ 256 = 1 % 2 ^ 256)) = b) :
    Calls Try.prog 10 #[.agg (natC M)] w fun e w' => e = .returned (.bool b) ∧ Below w.heap.size w w' := by
  have HV : Hid (lm M 0 % 2 = 1) := by show _ = _; rw [lm_odd]; exact h
  have HB : Hid ((!decide (M % 2 ^ 256 = 1 % 2 ^ 256)) = b) := hb
  have hin := fun w' => rint_any (1 : Int) w' (by decide)
  rw [show (1 : Int).toNat = 1 from rfl] at hin
  clear h hb
  go_enter Try.func10, Try.ntmps10
  (repeat ((fail_if_success (with_reducible show Code.wp _ (Code.region _ _ _) _ _ _)); go_step))
  apply wp_region_mixp [] [_, _] trivial List.nodup_nil
  · intro p
    refine mx_box 24 _ rfl _ rfl ?_
    simp only [Act.put, List.setIfInBounds_toArray, List.set_cons_zero, List.set_cons_succ]
    refine mx_val (.bool false) (fun _ => rfl) ?_
    simp only [Act.put, List.setIfInBounds_toArray, List.set_cons_zero, List.set_cons_succ]
    refine mx_end ?_
    intro w2 hkw hrw hnew hdis
    have n1 := hnew 0 rfl
    have zr1 : Row w2 (p 0) (natC M) 24 := hrw 1 (24, natC M) rfl
    have sb := hkw.below w.heap.size (Nat.le_refl _) (by simp)
    have b1 : w.heap.size ≤ p 0 := n1
    clear hkw hrw hnew hdis n1
    generalize p 0 = g1 at *
    have r1 := zr1
    clear zr1
    (repeat ((fail_if_success (with_reducible show Code.wp _ (Code.region _ _ _) _ _ _)); go_step))
    refine wp_region_qw (by kernel_rfl) (by kernel_rfl) ?_
    refine qw_value (by rfl) (.pointer (some ⟨g1, 0, none⟩)) (exec_index 24 _ _ rfl g1 rfl 0 4 rfl (by omega) _ Try.underlying24 Try.sizeOf22) ?_
    simp only [Act.put, List.setIfInBounds_toArray, List.set_cons_zero, List.set_cons_succ]
    refine qw_loadc (by rfl) 22 _ rfl _ (0) rfl r1 (.int .u64 (lm M 0 : Nat)) (natC_get M 0 (by omega)) Try.isAgg22 ?_
    simp only [Act.put, List.setIfInBounds_toArray, List.set_cons_zero, List.set_cons_succ]
    refine qw_value (by rfl) (.int .u64 ((lm M 0 % 2 : Nat) : Int)) (exec_and1_u _ _ _ _ rfl (lm M 0) (lm_lt M 0) rfl rfl) ?_
    simp only [Act.put, List.setIfInBounds_toArray, List.set_cons_zero, List.set_cons_succ]
    refine qw_value (by rfl) (.bool true) (exec_eql_k .u64 _ _ _ _ rfl _ 1 rfl rfl true (by rw [HV.out]; rfl)) ?_
    simp only [Act.put, List.setIfInBounds_toArray, List.set_cons_zero, List.set_cons_succ]
    refine qw_move (by rfl) rfl rfl ?_
    simp only [Act.put, List.setIfInBounds_toArray, List.set_cons_zero, List.set_cons_succ]
    refine qw_load (by rfl) 24 _ rfl _ rfl r1 4 _ Try.underlying24 size_nat ?_
    simp only [Act.put, List.setIfInBounds_toArray, List.set_cons_zero, List.set_cons_succ]
    refine qw_call (by rfl) 34 _ _ rfl Try.func34 (by kernel_rfl) #[.int .i64 1] rfl _ hin ?_
    simp only [Act.put, List.setIfInBounds_toArray, List.set_cons_zero, List.set_cons_succ]
    refine qw_value (by rfl) (.bool b) (fun w' => (exec_neq_nat _ _ _ rfl M 1 rfl rfl w').trans (by rw [HB.out])) ?_
    simp only [Act.put, List.setIfInBounds_toArray, List.set_cons_zero, List.set_cons_succ]
    refine qw_pick true (v := .bool b) (by rfl) rfl rfl rfl ?_
    simp only [Act.put, List.setIfInBounds_toArray, List.set_cons_zero, List.set_cons_succ]
    refine qw_asg (by rfl) rfl rfl ?_
    simp only [Act.put, List.setIfInBounds_toArray, List.set_cons_zero, List.set_cons_succ]
    refine qw_nil ?_
    intro w3 hqb
    replace sb := below_on sb (Nat.le_refl _) hqb
    clear hqb
    go_wp2
    go_ret
    exact ⟨rfl, sb⟩
  · rfl
set_option maxRecDepth 100000 in
set_option maxHeartbeats 1000000 in
theorem rform_any (A M : Nat) (w : World) (hA : A < 2 ^ 256) (hM : M < 2 ^ 256) (h2 : 2 ≤ M) :
    Calls Try.prog 19 #[.agg (natC A), .agg (natC M)] w fun e w' => e = .returned (.agg (natC (fm M A))) ∧ Below w.heap.size w w' := by
  have hrr := fun w' => rrem_any 0 A M w' (by decide) hA hM
  rw [show modZ (A * 2 ^ 256 + 0) M = fm M A by unfold modZ fm; rw [if_neg (by omega), Nat.add_zero]] at hrr
  clear hA hM h2
  generalize fm M A = Z at *
  generalize errI M = e0 at *
  go_enter Try.func19, Try.ntmps19
  (repeat ((fail_if_success (with_reducible show Code.wp _ (Code.region _ _ _) _ _ _)); go_step))
  apply wp_region_mixp [] [_, _, _] trivial List.nodup_nil
  · intro p
    refine mx_box 24 _ rfl _ rfl ?_
    simp only [Act.put, List.setIfInBounds_toArray, List.set_cons_zero, List.set_cons_succ]
    refine mx_box 24 _ rfl _ rfl ?_
    simp only [Act.put, List.setIfInBounds_toArray, List.set_cons_zero, List.set_cons_succ]
    refine mx_new 24 rfl _ zero_nat ?_
    simp only [Act.put, List.setIfInBounds_toArray, List.set_cons_zero, List.set_cons_succ]
    refine mx_end ?_
    intro w2 hkw hrw hnew hdis
    have n2 := hnew 0 rfl
    have n3 := hnew 1 rfl
    have n4 := hnew 2 rfl
    have zr2 : Row w2 (p 0) (natC A) 24 := hrw 1 (24, natC A) rfl
    have zr3 : Row w2 (p 1) (natC M) 24 := hrw 3 (24, natC M) rfl
    have zr4 : Row w2 (p 2) (natC 0) 24 := hrw 5 (24, natC 0) rfl
    have d2x3 := hdis 0 1 (by omega) rfl rfl
    have d2x4 := hdis 0 2 (by omega) rfl rfl
    have d3x4 := hdis 1 2 (by omega) rfl rfl
    have sb := hkw.below w.heap.size (Nat.le_refl _) (by simp)
    have b2 : w.heap.size ≤ p 0 := n2
    have b3 : w.heap.size ≤ p 1 := n3
    have b4 : w.heap.size ≤ p 2 := n4
    clear hkw hrw hnew hdis n2 n3 n4
    generalize p 0 = g2 at *
    generalize p 1 = g3 at *
    generalize p 2 = g4 at *
    have r2 := zr2
    clear zr2
    have r3 := zr3
    clear zr3
    have r4 := zr4
    clear zr4
    (repeat ((fail_if_success (with_reducible show Code.wp _ (Code.region _ _ _) _ _ _)); go_step))
    apply wp_region_mixp [] [_, _, _, _, _, _, _, _, _, _] trivial List.nodup_nil
    · intro p
      refine mx_val (.agg (natC 0)) (exec_build0 24 rfl _ built_nat) ?_
      simp only [Act.put, List.setIfInBounds_toArray, List.set_cons_zero, List.set_cons_succ]
      refine mx_load 24 _ rfl _ rfl r2 (by simp <;> omega) 4 _ Try.underlying24 size_nat ?_
      simp only [Act.put, List.setIfInBounds_toArray, List.set_cons_zero, List.set_cons_succ]
      refine mx_load 24 _ rfl _ rfl r3 (by simp <;> omega) 4 _ Try.underlying24 size_nat ?_
      simp only [Act.put, List.setIfInBounds_toArray, List.set_cons_zero, List.set_cons_succ]
      refine mx_call 13 _ _ rfl Try.func13 (by kernel_rfl) #[.agg (natC 0), .agg (natC A), .agg (natC M)] rfl _ hrr ?_
      simp only [Act.put, List.setIfInBounds_toArray, List.set_cons_zero, List.set_cons_succ]
      refine mx_move rfl rfl ?_
      simp only [Act.put, List.setIfInBounds_toArray, List.set_cons_zero, List.set_cons_succ]
      refine mx_ext rfl rfl rfl ?_
      simp only [Act.put, List.setIfInBounds_toArray, List.set_cons_zero, List.set_cons_succ]
      refine mx_ext rfl rfl rfl ?_
      simp only [Act.put, List.setIfInBounds_toArray, List.set_cons_zero, List.set_cons_succ]
      refine mx_new 24 rfl _ zero_nat ?_
      simp only [Act.put, List.setIfInBounds_toArray, List.set_cons_zero, List.set_cons_succ]
      refine mx_put 15 24 _ _ rfl rfl rfl (natC Z) rfl (by exact size_nat) (by simp only [natC_size]) (natC_one _) ?_
      simp only [Act.put]
      refine mx_asg rfl rfl ?_
      simp only [Act.put, List.setIfInBounds_toArray, List.set_cons_zero, List.set_cons_succ]
      refine mx_end ?_
      intro w3 hkw hrw hnew hdis
      have n5 := hnew 7 rfl
      have zr5 : Row w3 (p 7) (natC Z) 24 := hrw 15 (24, natC Z) rfl
      have d4x5 := Nat.lt_of_lt_of_le r4.lt n5
      replace r4 := hkw.row r4 (by simp <;> omega)
      have b5 := Nat.le_trans sb.size n5
      replace sb := sb.trans (hkw.below w.heap.size sb.size (by simp <;> omega))
      clear hkw hrw hnew hdis n5
      generalize p 7 = g5 at *
      have r5 := zr5
      clear zr5
      (repeat ((fail_if_success (with_reducible show Code.wp _ (Code.region _ _ _) _ _ _)); go_step))
      apply wp_region_mixp [(g4, 24, natC 0)] [_, _] ⟨r4, trivial⟩ (by simp <;> omega)
      · intro p
        refine mx_load 24 _ rfl _ rfl r5 (by simp <;> omega) 4 _ Try.underlying24 size_nat ?_
        simp only [Act.put, List.setIfInBounds_toArray, List.set_cons_zero, List.set_cons_succ]
        refine mx_put 0 24 _ _ rfl rfl rfl (natC Z) rfl (by exact size_nat) (by simp only [natC_size]) (natC_one _) ?_
        simp only [Act.put]
        refine mx_end ?_
        intro w4 hkw hrw hnew hdis
        have zr4 : Row w4 (g4) (natC Z) 24 := hrw 0 (24, natC Z) rfl
        replace sb := sb.trans (hkw.below w.heap.size sb.size (by simp <;> omega))
        clear hkw hrw hnew hdis r4
        have r4 := zr4
        clear zr4
        go_wp2
        exact ret_row rfl _ rfl r4 4 _ Try.underlying24 (by exact size_nat) rfl ⟨rfl, sb⟩
      · rfl
    · rfl
  · rfl
theorem form_plain (A M : Nat) (q : RgQ M) : fm M (mt A 1 M) = A % M := by
  unfold fm mt
  rw [Nat.mod_mul_mod, Nat.mul_one, Nat.mul_assoc, Nat.mul_mod, ri_is M q.odd q.two, Nat.mul_one, Nat.mod_mod]
end Go.Proofs.Ytcdfefljagddmaa
