/- The document's Div, AddMod, MulMod. -/
import Derived.Test.YtmmjjohnejimdaaDRem
import Derived.Test.YtmmjjohnejimdaaWMods
namespace Go.Proofs.Ytmmjjohnejimdaa
open Go.RowKit

set_option maxRecDepth 100000 in
set_option maxHeartbeats 1000000 in
theorem rdiv_zero (A M : Nat) (w : World) (hM : M = 0) :
    Calls Try.prog 15 #[.agg (natC A), .agg (natC M)] w fun e w' => e = .returned (.tuple #[.agg (natC 0), .agg (natC 0), .int .i64 1]) ∧ Below w.heap.size w w' := by
  have HV : Hid (decide (M % 2 ^ 256 = 0 % 2 ^ 256) = true) := eqz_true hM
  clear hM
  go_enter Try.func15, Try.ntmps15
  (repeat ((fail_if_success (with_reducible show Code.wp _ (Code.region _ _ _) _ _ _)); go_step))
  apply wp_region_mixp [] [_, _, _, _, _] trivial List.nodup_nil
  · intro p
    refine mx_box 24 _ rfl _ rfl ?_
    simp only [Act.put, List.setIfInBounds_toArray, List.set_cons_zero, List.set_cons_succ]
    refine mx_box 24 _ rfl _ rfl ?_
    simp only [Act.put, List.setIfInBounds_toArray, List.set_cons_zero, List.set_cons_succ]
    refine mx_new 24 rfl _ zero_nat ?_
    simp only [Act.put, List.setIfInBounds_toArray, List.set_cons_zero, List.set_cons_succ]
    refine mx_new 24 rfl _ zero_nat ?_
    simp only [Act.put, List.setIfInBounds_toArray, List.set_cons_zero, List.set_cons_succ]
    refine mx_val (.int .i64 0) (fun _ => rfl) ?_
    simp only [Act.put, List.setIfInBounds_toArray, List.set_cons_zero, List.set_cons_succ]
    refine mx_end ?_
    intro w2 hkw hrw hnew hdis
    have n2 := hnew 0 rfl
    have n3 := hnew 1 rfl
    have n4 := hnew 2 rfl
    have n5 := hnew 3 rfl
    have zr2 : Row w2 (p 0) (natC A) 24 := hrw 1 (24, natC A) rfl
    have zr3 : Row w2 (p 1) (natC M) 24 := hrw 3 (24, natC M) rfl
    have zr4 : Row w2 (p 2) (natC 0) 24 := hrw 5 (24, natC 0) rfl
    have zr5 : Row w2 (p 3) (natC 0) 24 := hrw 7 (24, natC 0) rfl
    have d2x3 := hdis 0 1 (by omega) rfl rfl
    have d2x4 := hdis 0 2 (by omega) rfl rfl
    have d2x5 := hdis 0 3 (by omega) rfl rfl
    have d3x4 := hdis 1 2 (by omega) rfl rfl
    have d3x5 := hdis 1 3 (by omega) rfl rfl
    have d4x5 := hdis 2 3 (by omega) rfl rfl
    have sb := hkw.below w.heap.size (Nat.le_refl _) (by simp)
    have b2 : w.heap.size ≤ p 0 := n2
    have b3 : w.heap.size ≤ p 1 := n3
    have b4 : w.heap.size ≤ p 2 := n4
    have b5 : w.heap.size ≤ p 3 := n5
    clear hkw hrw hnew hdis n2 n3 n4 n5
    generalize p 0 = g2 at *
    generalize p 1 = g3 at *
    generalize p 2 = g4 at *
    generalize p 3 = g5 at *
    have r2 := zr2
    clear zr2
    have r3 := zr3
    clear zr3
    have r4 := zr4
    clear zr4
    have r5 := zr5
    clear zr5
    (repeat ((fail_if_success (with_reducible show Code.wp _ (Code.region _ _ _) _ _ _)); go_step))
    apply wp_region_mixp [] [_, _, _] trivial List.nodup_nil
    · intro p
      refine mx_load 24 _ rfl _ rfl r3 (by simp <;> omega) 4 _ Try.underlying24 size_nat ?_
      simp only [Act.put, List.setIfInBounds_toArray, List.set_cons_zero, List.set_cons_succ]
      refine mx_val (.agg (natC 0)) (exec_build0 24 rfl _ built_nat) ?_
      simp only [Act.put, List.setIfInBounds_toArray, List.set_cons_zero, List.set_cons_succ]
      refine mx_val (.bool true) (fun w' => (exec_eql_nat _ _ _ rfl M 0 rfl rfl w').trans (by rw [HV.out])) ?_
      simp only [Act.put, List.setIfInBounds_toArray, List.set_cons_zero, List.set_cons_succ]
      refine mx_end ?_
      intro w3 hkw hrw hnew hdis
      replace r4 := hkw.row r4 (by simp <;> omega)
      replace r5 := hkw.row r5 (by simp <;> omega)
      replace sb := sb.trans (hkw.below w.heap.size sb.size (by simp <;> omega))
      clear hkw hrw hnew hdis
      (repeat ((fail_if_success (with_reducible show Code.wp _ (Code.region _ _ _) _ _ _)); go_step))
      apply wp_region_mixp [(g4, 24, natC 0), (g5, 24, natC 0)] [_, _, _, _, _] ⟨r4, r5, trivial⟩ (by simp <;> omega)
      · intro p
        refine mx_val (.agg (natC 0)) (exec_build0 24 rfl _ built_nat) ?_
        simp only [Act.put, List.setIfInBounds_toArray, List.set_cons_zero, List.set_cons_succ]
        refine mx_val (.agg (natC 0)) (exec_build0 24 rfl _ built_nat) ?_
        simp only [Act.put, List.setIfInBounds_toArray, List.set_cons_zero, List.set_cons_succ]
        refine mx_put 0 24 _ _ rfl rfl rfl (natC 0) rfl (by exact size_nat) (by simp only [natC_size]) (natC_one _) ?_
        simp only [Act.put]
        refine mx_put 2 24 _ _ rfl rfl rfl (natC 0) rfl (by exact size_nat) (by simp only [natC_size]) (natC_one _) ?_
        simp only [Act.put]
        refine mx_val (.int .i64 1) (fun _ => rfl) ?_
        simp only [Act.put, List.setIfInBounds_toArray, List.set_cons_zero, List.set_cons_succ]
        refine mx_end ?_
        intro w4 hkw hrw hnew hdis
        have zr4 : Row w4 (g4) (natC 0) 24 := hrw 0 (24, natC 0) rfl
        have zr5 : Row w4 (g5) (natC 0) 24 := hrw 2 (24, natC 0) rfl
        replace sb := sb.trans (hkw.below w.heap.size sb.size (by simp <;> omega))
        clear hkw hrw hnew hdis r4 r5
        have r4 := zr4
        clear zr4
        have r5 := zr5
        clear zr5
        go_wp2
        exact ret_rows2_val rfl _ rfl r4 _ rfl r5 _ rfl 4 _ Try.underlying24 (by exact size_nat) (by exact size_nat) rfl ⟨rfl, sb⟩
      · rfl
    · rfl
  · rfl

set_option maxRecDepth 100000 in
set_option maxHeartbeats 1000000 in
theorem rdiv_more (A M : Nat) (w : World) (hA : A < 2 ^ 256) (h0 : 0 < M) (hM : M < 2 ^ 256) :
    Calls Try.prog 15 #[.agg (natC A), .agg (natC M)] w fun e w' => e = .returned (.tuple #[.agg (natC (A / M)), .agg (natC (A % M)), .int .i64 0]) ∧ Below w.heap.size w w' := by
  have HV : Hid (decide (M % 2 ^ 256 = 0 % 2 ^ 256) = false) := eqz_false (by omega) hM
  have hN : A < 2 ^ 256 * 2 ^ 256 := by
    have := Nat.mul_le_mul_left (2 ^ 256) (show 1 ≤ 2 ^ 256 by decide)
    omega
  have hoA := fun w' => dof_any A 0 w' hA
  have hoM := fun w' => dof_any M 0 w' hM
  rw [Nat.mul_zero, Nat.add_zero] at hoM hoA
  have hpa := fun w' => parted_any A M w' hN h0 hM
  have hna := fun w' => nats_any (A % M) w'
  have hnq := fun w' => nats_any (A / M) w'
  clear hA h0 hM hN
  generalize A % M / 2 ^ 256 = T at *
  generalize A / M / 2 ^ 256 = S at *
  generalize A % M = R at *
  generalize A / M = Q at *
  go_enter Try.func15, Try.ntmps15
  (repeat ((fail_if_success (with_reducible show Code.wp _ (Code.region _ _ _) _ _ _)); go_step))
  apply wp_region_mixp [] [_, _, _, _, _] trivial List.nodup_nil
  · intro p
    refine mx_box 24 _ rfl _ rfl ?_
    simp only [Act.put, List.setIfInBounds_toArray, List.set_cons_zero, List.set_cons_succ]
    refine mx_box 24 _ rfl _ rfl ?_
    simp only [Act.put, List.setIfInBounds_toArray, List.set_cons_zero, List.set_cons_succ]
    refine mx_new 24 rfl _ zero_nat ?_
    simp only [Act.put, List.setIfInBounds_toArray, List.set_cons_zero, List.set_cons_succ]
    refine mx_new 24 rfl _ zero_nat ?_
    simp only [Act.put, List.setIfInBounds_toArray, List.set_cons_zero, List.set_cons_succ]
    refine mx_val (.int .i64 0) (fun _ => rfl) ?_
    simp only [Act.put, List.setIfInBounds_toArray, List.set_cons_zero, List.set_cons_succ]
    refine mx_end ?_
    intro w2 hkw hrw hnew hdis
    have n2 := hnew 0 rfl
    have n3 := hnew 1 rfl
    have n4 := hnew 2 rfl
    have n5 := hnew 3 rfl
    have zr2 : Row w2 (p 0) (natC A) 24 := hrw 1 (24, natC A) rfl
    have zr3 : Row w2 (p 1) (natC M) 24 := hrw 3 (24, natC M) rfl
    have zr4 : Row w2 (p 2) (natC 0) 24 := hrw 5 (24, natC 0) rfl
    have zr5 : Row w2 (p 3) (natC 0) 24 := hrw 7 (24, natC 0) rfl
    have d2x3 := hdis 0 1 (by omega) rfl rfl
    have d2x4 := hdis 0 2 (by omega) rfl rfl
    have d2x5 := hdis 0 3 (by omega) rfl rfl
    have d3x4 := hdis 1 2 (by omega) rfl rfl
    have d3x5 := hdis 1 3 (by omega) rfl rfl
    have d4x5 := hdis 2 3 (by omega) rfl rfl
    have sb := hkw.below w.heap.size (Nat.le_refl _) (by simp)
    have b2 : w.heap.size ≤ p 0 := n2
    have b3 : w.heap.size ≤ p 1 := n3
    have b4 : w.heap.size ≤ p 2 := n4
    have b5 : w.heap.size ≤ p 3 := n5
    clear hkw hrw hnew hdis n2 n3 n4 n5
    generalize p 0 = g2 at *
    generalize p 1 = g3 at *
    generalize p 2 = g4 at *
    generalize p 3 = g5 at *
    have r2 := zr2
    clear zr2
    have r3 := zr3
    clear zr3
    have r4 := zr4
    clear zr4
    have r5 := zr5
    clear zr5
    (repeat ((fail_if_success (with_reducible show Code.wp _ (Code.region _ _ _) _ _ _)); go_step))
    apply wp_region_mixp [] [_, _, _] trivial List.nodup_nil
    · intro p
      refine mx_load 24 _ rfl _ rfl r3 (by simp <;> omega) 4 _ Try.underlying24 size_nat ?_
      simp only [Act.put, List.setIfInBounds_toArray, List.set_cons_zero, List.set_cons_succ]
      refine mx_val (.agg (natC 0)) (exec_build0 24 rfl _ built_nat) ?_
      simp only [Act.put, List.setIfInBounds_toArray, List.set_cons_zero, List.set_cons_succ]
      refine mx_val (.bool false) (fun w' => (exec_eql_nat _ _ _ rfl M 0 rfl rfl w').trans (by rw [HV.out])) ?_
      simp only [Act.put, List.setIfInBounds_toArray, List.set_cons_zero, List.set_cons_succ]
      refine mx_end ?_
      intro w3 hkw hrw hnew hdis
      replace r2 := hkw.row r2 (by simp <;> omega)
      replace r3 := hkw.row r3 (by simp <;> omega)
      replace r4 := hkw.row r4 (by simp <;> omega)
      replace r5 := hkw.row r5 (by simp <;> omega)
      replace sb := sb.trans (hkw.below w.heap.size sb.size (by simp <;> omega))
      clear hkw hrw hnew hdis
      (repeat ((fail_if_success (with_reducible show Code.wp _ (Code.region _ _ _) _ _ _)); go_step))
      apply wp_region_mix (by kernel_rfl) [] [_, _, _, _, _, _, _, _, _, _, _, _, _, _] trivial List.nodup_nil
      · intro p
        refine mx_load 24 _ rfl _ rfl r2 (by simp <;> omega) 4 _ Try.underlying24 size_nat ?_
        simp only [Act.put, List.setIfInBounds_toArray, List.set_cons_zero, List.set_cons_succ]
        refine mx_val (.agg (natC 0)) (exec_build0 24 rfl _ built_nat) ?_
        simp only [Act.put, List.setIfInBounds_toArray, List.set_cons_zero, List.set_cons_succ]
        refine mx_call 39 _ _ rfl Try.func39 (by kernel_rfl) #[.agg (natC A), .agg (natC 0)] rfl _ hoA ?_
        simp only [Act.put, List.setIfInBounds_toArray, List.set_cons_zero, List.set_cons_succ]
        refine mx_load 24 _ rfl _ rfl r3 (by simp <;> omega) 4 _ Try.underlying24 size_nat ?_
        simp only [Act.put, List.setIfInBounds_toArray, List.set_cons_zero, List.set_cons_succ]
        refine mx_val (.agg (natC 0)) (exec_build0 24 rfl _ built_nat) ?_
        simp only [Act.put, List.setIfInBounds_toArray, List.set_cons_zero, List.set_cons_succ]
        refine mx_call 39 _ _ rfl Try.func39 (by kernel_rfl) #[.agg (natC M), .agg (natC 0)] rfl _ hoM ?_
        simp only [Act.put, List.setIfInBounds_toArray, List.set_cons_zero, List.set_cons_succ]
        refine mx_call 43 _ _ rfl Try.func43 (by kernel_rfl) #[.agg (digC A), .agg (digC M)] rfl _ hpa ?_
        simp only [Act.put, List.setIfInBounds_toArray, List.set_cons_zero, List.set_cons_succ]
        refine mx_move rfl rfl ?_
        simp only [Act.put, List.setIfInBounds_toArray, List.set_cons_zero, List.set_cons_succ]
        refine mx_ext rfl rfl rfl ?_
        simp only [Act.put, List.setIfInBounds_toArray, List.set_cons_zero, List.set_cons_succ]
        refine mx_ext rfl rfl rfl ?_
        simp only [Act.put, List.setIfInBounds_toArray, List.set_cons_zero, List.set_cons_succ]
        refine mx_new 50 rfl _ zero_dig ?_
        simp only [Act.put, List.setIfInBounds_toArray, List.set_cons_zero, List.set_cons_succ]
        refine mx_new 50 rfl _ zero_dig ?_
        simp only [Act.put, List.setIfInBounds_toArray, List.set_cons_zero, List.set_cons_succ]
        refine mx_put 21 50 _ _ rfl rfl rfl (digC Q) rfl (by rw [digC_size]; exact size_dig) (by simp only [digC_size]) (digC_one _) ?_
        simp only [Act.put]
        refine mx_put 23 50 _ _ rfl rfl rfl (digC R) rfl (by rw [digC_size]; exact size_dig) (by simp only [digC_size]) (digC_one _) ?_
        simp only [Act.put]
        refine mx_end ?_
        intro w4 hkw hrw hnew hdis
        have n7 := hnew 10 rfl
        have n8 := hnew 11 rfl
        have zr7 : Row w4 (p 10) (digC Q) 50 := hrw 21 (50, digC Q) rfl
        have zr8 : Row w4 (p 11) (digC R) 50 := hrw 23 (50, digC R) rfl
        have d4x7 := Nat.lt_of_lt_of_le r4.lt n7
        have d4x8 := Nat.lt_of_lt_of_le r4.lt n8
        have d5x7 := Nat.lt_of_lt_of_le r5.lt n7
        have d5x8 := Nat.lt_of_lt_of_le r5.lt n8
        have d7x8 := hdis 10 11 (by omega) rfl rfl
        replace r4 := hkw.row r4 (by simp <;> omega)
        replace r5 := hkw.row r5 (by simp <;> omega)
        have b7 := Nat.le_trans sb.size n7
        have b8 := Nat.le_trans sb.size n8
        replace sb := sb.trans (hkw.below w.heap.size sb.size (by simp <;> omega))
        clear hkw hrw hnew hdis n7 n8
        generalize p 10 = g7 at *
        generalize p 11 = g8 at *
        have r7 := zr7
        clear zr7
        have r8 := zr8
        clear zr8
        (repeat ((fail_if_success (with_reducible show Code.wp _ (Code.region _ _ _) _ _ _)); go_step))
        apply wp_region_mixp [] [_, _, _, _, _, _, _, _, _] trivial List.nodup_nil
        · intro p
          refine mx_load 50 _ rfl _ rfl r7 (by simp <;> omega) 32 _ Try.underlying50 (by rw [digC_size]; exact size_dig) ?_
          simp only [Act.put, List.setIfInBounds_toArray, List.set_cons_zero, List.set_cons_succ]
          refine mx_call 40 _ _ rfl Try.func40 (by kernel_rfl) #[.agg (digC Q)] rfl _ hnq ?_
          simp only [Act.put, List.setIfInBounds_toArray, List.set_cons_zero, List.set_cons_succ]
          refine mx_move rfl rfl ?_
          simp only [Act.put, List.setIfInBounds_toArray, List.set_cons_zero, List.set_cons_succ]
          refine mx_ext rfl rfl rfl ?_
          simp only [Act.put, List.setIfInBounds_toArray, List.set_cons_zero, List.set_cons_succ]
          refine mx_ext rfl rfl rfl ?_
          simp only [Act.put, List.setIfInBounds_toArray, List.set_cons_zero, List.set_cons_succ]
          refine mx_new 24 rfl _ zero_nat ?_
          simp only [Act.put, List.setIfInBounds_toArray, List.set_cons_zero, List.set_cons_succ]
          refine mx_new 24 rfl _ zero_nat ?_
          simp only [Act.put, List.setIfInBounds_toArray, List.set_cons_zero, List.set_cons_succ]
          refine mx_put 11 24 _ _ rfl rfl rfl (natC Q) rfl (by exact size_nat) (by simp only [natC_size]) (natC_one _) ?_
          simp only [Act.put]
          refine mx_put 13 24 _ _ rfl rfl rfl (natC S) rfl (by exact size_nat) (by simp only [natC_size]) (natC_one _) ?_
          simp only [Act.put]
          refine mx_end ?_
          intro w5 hkw hrw hnew hdis
          have n9 := hnew 5 rfl
          have n10 := hnew 6 rfl
          have zr9 : Row w5 (p 5) (natC Q) 24 := hrw 11 (24, natC Q) rfl
          have zr10 : Row w5 (p 6) (natC S) 24 := hrw 13 (24, natC S) rfl
          have d4x9 := Nat.lt_of_lt_of_le r4.lt n9
          have d4x10 := Nat.lt_of_lt_of_le r4.lt n10
          have d5x9 := Nat.lt_of_lt_of_le r5.lt n9
          have d5x10 := Nat.lt_of_lt_of_le r5.lt n10
          have d8x9 := Nat.lt_of_lt_of_le r8.lt n9
          have d8x10 := Nat.lt_of_lt_of_le r8.lt n10
          have d9x10 := hdis 5 6 (by omega) rfl rfl
          replace r4 := hkw.row r4 (by simp <;> omega)
          replace r5 := hkw.row r5 (by simp <;> omega)
          replace r8 := hkw.row r8 (by simp <;> omega)
          have b9 := Nat.le_trans sb.size n9
          have b10 := Nat.le_trans sb.size n10
          replace sb := sb.trans (hkw.below w.heap.size sb.size (by simp <;> omega))
          clear hkw hrw hnew hdis n9 n10
          generalize p 5 = g9 at *
          generalize p 6 = g10 at *
          have r9 := zr9
          clear zr9
          have r10 := zr10
          clear zr10
          (repeat ((fail_if_success (with_reducible show Code.wp _ (Code.region _ _ _) _ _ _)); go_step))
          apply wp_region_mixp [] [_, _, _, _, _, _, _, _, _] trivial List.nodup_nil
          · intro p
            refine mx_load 50 _ rfl _ rfl r8 (by simp <;> omega) 32 _ Try.underlying50 (by rw [digC_size]; exact size_dig) ?_
            simp only [Act.put, List.setIfInBounds_toArray, List.set_cons_zero, List.set_cons_succ]
            refine mx_call 40 _ _ rfl Try.func40 (by kernel_rfl) #[.agg (digC R)] rfl _ hna ?_
            simp only [Act.put, List.setIfInBounds_toArray, List.set_cons_zero, List.set_cons_succ]
            refine mx_move rfl rfl ?_
            simp only [Act.put, List.setIfInBounds_toArray, List.set_cons_zero, List.set_cons_succ]
            refine mx_ext rfl rfl rfl ?_
            simp only [Act.put, List.setIfInBounds_toArray, List.set_cons_zero, List.set_cons_succ]
            refine mx_ext rfl rfl rfl ?_
            simp only [Act.put, List.setIfInBounds_toArray, List.set_cons_zero, List.set_cons_succ]
            refine mx_new 24 rfl _ zero_nat ?_
            simp only [Act.put, List.setIfInBounds_toArray, List.set_cons_zero, List.set_cons_succ]
            refine mx_new 24 rfl _ zero_nat ?_
            simp only [Act.put, List.setIfInBounds_toArray, List.set_cons_zero, List.set_cons_succ]
            refine mx_put 11 24 _ _ rfl rfl rfl (natC R) rfl (by exact size_nat) (by simp only [natC_size]) (natC_one _) ?_
            simp only [Act.put]
            refine mx_put 13 24 _ _ rfl rfl rfl (natC T) rfl (by exact size_nat) (by simp only [natC_size]) (natC_one _) ?_
            simp only [Act.put]
            refine mx_end ?_
            intro w6 hkw hrw hnew hdis
            have n11 := hnew 5 rfl
            have n12 := hnew 6 rfl
            have zr11 : Row w6 (p 5) (natC R) 24 := hrw 11 (24, natC R) rfl
            have zr12 : Row w6 (p 6) (natC T) 24 := hrw 13 (24, natC T) rfl
            have d4x11 := Nat.lt_of_lt_of_le r4.lt n11
            have d4x12 := Nat.lt_of_lt_of_le r4.lt n12
            have d5x11 := Nat.lt_of_lt_of_le r5.lt n11
            have d5x12 := Nat.lt_of_lt_of_le r5.lt n12
            have d9x11 := Nat.lt_of_lt_of_le r9.lt n11
            have d9x12 := Nat.lt_of_lt_of_le r9.lt n12
            have d11x12 := hdis 5 6 (by omega) rfl rfl
            replace r4 := hkw.row r4 (by simp <;> omega)
            replace r5 := hkw.row r5 (by simp <;> omega)
            replace r9 := hkw.row r9 (by simp <;> omega)
            have b11 := Nat.le_trans sb.size n11
            have b12 := Nat.le_trans sb.size n12
            replace sb := sb.trans (hkw.below w.heap.size sb.size (by simp <;> omega))
            clear hkw hrw hnew hdis n11 n12
            generalize p 5 = g11 at *
            generalize p 6 = g12 at *
            have r11 := zr11
            clear zr11
            have r12 := zr12
            clear zr12
            (repeat ((fail_if_success (with_reducible show Code.wp _ (Code.region _ _ _) _ _ _)); go_step))
            apply wp_region_mix (by kernel_rfl) [(g4, 24, natC 0), (g5, 24, natC 0)] [_, _, _, _, _] ⟨r4, r5, trivial⟩ (by simp <;> omega)
            · intro p
              refine mx_load 24 _ rfl _ rfl r9 (by simp <;> omega) 4 _ Try.underlying24 size_nat ?_
              simp only [Act.put, List.setIfInBounds_toArray, List.set_cons_zero, List.set_cons_succ]
              refine mx_load 24 _ rfl _ rfl r11 (by simp <;> omega) 4 _ Try.underlying24 size_nat ?_
              simp only [Act.put, List.setIfInBounds_toArray, List.set_cons_zero, List.set_cons_succ]
              refine mx_put 0 24 _ _ rfl rfl rfl (natC Q) rfl (by exact size_nat) (by simp only [natC_size]) (natC_one _) ?_
              simp only [Act.put]
              refine mx_put 2 24 _ _ rfl rfl rfl (natC R) rfl (by exact size_nat) (by simp only [natC_size]) (natC_one _) ?_
              simp only [Act.put]
              refine mx_val (.int .i64 0) (fun _ => rfl) ?_
              simp only [Act.put, List.setIfInBounds_toArray, List.set_cons_zero, List.set_cons_succ]
              refine mx_end ?_
              intro w7 hkw hrw hnew hdis
              have zr4 : Row w7 (g4) (natC Q) 24 := hrw 0 (24, natC Q) rfl
              have zr5 : Row w7 (g5) (natC R) 24 := hrw 2 (24, natC R) rfl
              replace sb := sb.trans (hkw.below w.heap.size sb.size (by simp <;> omega))
              clear hkw hrw hnew hdis r4 r5
              have r4 := zr4
              clear zr4
              have r5 := zr5
              clear zr5
              go_wp2
              exact ret_rows2_val rfl _ rfl r4 _ rfl r5 _ rfl 4 _ Try.underlying24 (by exact size_nat) (by exact size_nat) rfl ⟨rfl, sb⟩
            · kernel_rfl
          · rfl
        · rfl
      · kernel_rfl
    · rfl
  · rfl
theorem rdiv_any (A M : Nat) (w : World) (hA : A < 2 ^ 256) (hM : M < 2 ^ 256) :
    Calls Try.prog 15 #[.agg (natC A), .agg (natC M)] w fun e w' => e = .returned (.tuple #[.agg (natC (divZ A M)), .agg (natC (modZ A M)), .int .i64 (errI M)]) ∧ Below w.heap.size w w' := by
  unfold divZ modZ errI
  rcases Nat.eq_zero_or_pos M with h0 | h0
  · rw [if_pos h0, if_pos h0, if_pos h0]
    exact rdiv_zero A M w h0
  · rw [if_neg (by omega), if_neg (by omega), if_neg (by omega)]
    exact rdiv_more A M w hA h0 hM

set_option maxRecDepth 100000 in
set_option maxHeartbeats 1000000 in
theorem raddmod_core (A B M S R : Nat) (c : Nat) (e0 : Int) (w : World)
    (had : ∀ w', Calls Try.prog 16 #[.agg (natC A), .agg (natC B)] w' fun e w2 => e = .returned (.tuple #[.agg (natC S), .int .i64 c]) ∧ Below w'.heap.size w' w2)
    (hin : ∀ w', Calls Try.prog 48 #[.int .i64 c] w' fun e w2 => e = .returned (.agg (natC c)) ∧ Below w'.heap.size w' w2)
    (hre : ∀ w', Calls Try.prog 12 #[.agg (natC S), .agg (natC c), .agg (natC M)] w' fun e w2 => e = .returned (.tuple #[.agg (natC R), .int .i64 e0]) ∧ Below w'.heap.size w' w2) :
    Calls Try.prog 19 #[.agg (natC A), .agg (natC B), .agg (natC M)] w fun e w' => e = .returned (.tuple #[.agg (natC R), .int .i64 e0]) ∧ Below w.heap.size w w' := by
  go_enter Try.func19, Try.ntmps19
  (repeat ((fail_if_success (with_reducible show Code.wp _ (Code.region _ _ _) _ _ _)); go_step))
  apply wp_region_mixp [] [_, _, _, _, _] trivial List.nodup_nil
  · intro p
    refine mx_box 24 _ rfl _ rfl ?_
    simp only [Act.put, List.setIfInBounds_toArray, List.set_cons_zero, List.set_cons_succ]
    refine mx_box 24 _ rfl _ rfl ?_
    simp only [Act.put, List.setIfInBounds_toArray, List.set_cons_zero, List.set_cons_succ]
    refine mx_box 24 _ rfl _ rfl ?_
    simp only [Act.put, List.setIfInBounds_toArray, List.set_cons_zero, List.set_cons_succ]
    refine mx_new 24 rfl _ zero_nat ?_
    simp only [Act.put, List.setIfInBounds_toArray, List.set_cons_zero, List.set_cons_succ]
    refine mx_val (.int .i64 0) (fun _ => rfl) ?_
    simp only [Act.put, List.setIfInBounds_toArray, List.set_cons_zero, List.set_cons_succ]
    refine mx_end ?_
    intro w2 hkw hrw hnew hdis
    have n3 := hnew 0 rfl
    have n4 := hnew 1 rfl
    have n5 := hnew 2 rfl
    have n6 := hnew 3 rfl
    have zr3 : Row w2 (p 0) (natC A) 24 := hrw 1 (24, natC A) rfl
    have zr4 : Row w2 (p 1) (natC B) 24 := hrw 3 (24, natC B) rfl
    have zr5 : Row w2 (p 2) (natC M) 24 := hrw 5 (24, natC M) rfl
    have zr6 : Row w2 (p 3) (natC 0) 24 := hrw 7 (24, natC 0) rfl
    have d3x4 := hdis 0 1 (by omega) rfl rfl
    have d3x5 := hdis 0 2 (by omega) rfl rfl
    have d3x6 := hdis 0 3 (by omega) rfl rfl
    have d4x5 := hdis 1 2 (by omega) rfl rfl
    have d4x6 := hdis 1 3 (by omega) rfl rfl
    have d5x6 := hdis 2 3 (by omega) rfl rfl
    have sb := hkw.below w.heap.size (Nat.le_refl _) (by simp)
    have b3 : w.heap.size ≤ p 0 := n3
    have b4 : w.heap.size ≤ p 1 := n4
    have b5 : w.heap.size ≤ p 2 := n5
    have b6 : w.heap.size ≤ p 3 := n6
    clear hkw hrw hnew hdis n3 n4 n5 n6
    generalize p 0 = g3 at *
    generalize p 1 = g4 at *
    generalize p 2 = g5 at *
    generalize p 3 = g6 at *
    have r3 := zr3
    clear zr3
    have r4 := zr4
    clear zr4
    have r5 := zr5
    clear zr5
    have r6 := zr6
    clear zr6
    (repeat ((fail_if_success (with_reducible show Code.wp _ (Code.region _ _ _) _ _ _)); go_step))
    apply wp_region_mixp [] [_, _, _, _, _, _, _, _, _] trivial List.nodup_nil
    · intro p
      refine mx_load 24 _ rfl _ rfl r3 (by simp <;> omega) 4 _ Try.underlying24 size_nat ?_
      simp only [Act.put, List.setIfInBounds_toArray, List.set_cons_zero, List.set_cons_succ]
      refine mx_load 24 _ rfl _ rfl r4 (by simp <;> omega) 4 _ Try.underlying24 size_nat ?_
      simp only [Act.put, List.setIfInBounds_toArray, List.set_cons_zero, List.set_cons_succ]
      refine mx_call 16 _ _ rfl Try.func16 (by kernel_rfl) #[.agg (natC A), .agg (natC B)] rfl _ had ?_
      simp only [Act.put, List.setIfInBounds_toArray, List.set_cons_zero, List.set_cons_succ]
      refine mx_move rfl rfl ?_
      simp only [Act.put, List.setIfInBounds_toArray, List.set_cons_zero, List.set_cons_succ]
      refine mx_ext rfl rfl rfl ?_
      simp only [Act.put, List.setIfInBounds_toArray, List.set_cons_zero, List.set_cons_succ]
      refine mx_ext rfl rfl rfl ?_
      simp only [Act.put, List.setIfInBounds_toArray, List.set_cons_zero, List.set_cons_succ]
      refine mx_new 24 rfl _ zero_nat ?_
      simp only [Act.put, List.setIfInBounds_toArray, List.set_cons_zero, List.set_cons_succ]
      refine mx_put 13 24 _ _ rfl rfl rfl (natC S) rfl (by exact size_nat) (by simp only [natC_size]) (natC_one _) ?_
      simp only [Act.put]
      refine mx_asg rfl rfl ?_
      simp only [Act.put, List.setIfInBounds_toArray, List.set_cons_zero, List.set_cons_succ]
      refine mx_end ?_
      intro w3 hkw hrw hnew hdis
      have n8 := hnew 6 rfl
      have zr8 : Row w3 (p 6) (natC S) 24 := hrw 13 (24, natC S) rfl
      have d5x8 := Nat.lt_of_lt_of_le r5.lt n8
      have d6x8 := Nat.lt_of_lt_of_le r6.lt n8
      replace r5 := hkw.row r5 (by simp <;> omega)
      replace r6 := hkw.row r6 (by simp <;> omega)
      have b8 := Nat.le_trans sb.size n8
      replace sb := sb.trans (hkw.below w.heap.size sb.size (by simp <;> omega))
      clear hkw hrw hnew hdis n8
      generalize p 6 = g8 at *
      have r8 := zr8
      clear zr8
      (repeat ((fail_if_success (with_reducible show Code.wp _ (Code.region _ _ _) _ _ _)); go_step))
      apply wp_region_mix (by kernel_rfl) [(g6, 24, natC 0)] [_, _, _, _, _, _, _, _, _] ⟨r6, trivial⟩ (by simp <;> omega)
      · intro p
        refine mx_load 24 _ rfl _ rfl r8 (by simp <;> omega) 4 _ Try.underlying24 size_nat ?_
        simp only [Act.put, List.setIfInBounds_toArray, List.set_cons_zero, List.set_cons_succ]
        refine mx_move rfl rfl ?_
        simp only [Act.put, List.setIfInBounds_toArray, List.set_cons_zero, List.set_cons_succ]
        refine mx_call 48 _ _ rfl Try.func48 (by kernel_rfl) #[.int .i64 c] rfl _ hin ?_
        simp only [Act.put, List.setIfInBounds_toArray, List.set_cons_zero, List.set_cons_succ]
        refine mx_load 24 _ rfl _ rfl r5 (by simp <;> omega) 4 _ Try.underlying24 size_nat ?_
        simp only [Act.put, List.setIfInBounds_toArray, List.set_cons_zero, List.set_cons_succ]
        refine mx_call 12 _ _ rfl Try.func12 (by kernel_rfl) #[.agg (natC S), .agg (natC c), .agg (natC M)] rfl _ hre ?_
        simp only [Act.put, List.setIfInBounds_toArray, List.set_cons_zero, List.set_cons_succ]
        refine mx_ext rfl rfl rfl ?_
        simp only [Act.put, List.setIfInBounds_toArray, List.set_cons_zero, List.set_cons_succ]
        refine mx_ext rfl rfl rfl ?_
        simp only [Act.put, List.setIfInBounds_toArray, List.set_cons_zero, List.set_cons_succ]
        refine mx_put 0 24 _ _ rfl rfl rfl (natC R) rfl (by exact size_nat) (by simp only [natC_size]) (natC_one _) ?_
        simp only [Act.put]
        refine mx_asg rfl rfl ?_
        simp only [Act.put, List.setIfInBounds_toArray, List.set_cons_zero, List.set_cons_succ]
        refine mx_end ?_
        intro w4 hkw hrw hnew hdis
        have zr6 : Row w4 (g6) (natC R) 24 := hrw 0 (24, natC R) rfl
        replace sb := sb.trans (hkw.below w.heap.size sb.size (by simp <;> omega))
        clear hkw hrw hnew hdis r6
        have r6 := zr6
        clear zr6
        go_wp2
        exact ret_row2 rfl _ rfl r6 4 _ Try.underlying24 (by exact size_nat) rfl _ rfl ⟨rfl, sb⟩
      · kernel_rfl
    · rfl
  · rfl
theorem raddmod_any (A B M : Nat) (w : World) (hA : A < 2 ^ 256) (hB : B < 2 ^ 256) (hM : M < 2 ^ 256) :
    Calls Try.prog 19 #[.agg (natC A), .agg (natC B), .agg (natC M)] w fun e w' => e = .returned (.tuple #[.agg (natC (modZ (A + B) M)), .int .i64 (errI M)]) ∧ Below w.heap.size w w' := by
  have hc := cN_le A B 256
  have hs : cN A B 256 * 2 ^ 256 + (A + B) % 2 ^ 256 = A + B := by
    rw [cN_eq, Nat.mod_eq_of_lt hA, Nat.mod_eq_of_lt hB]
    split
    · rw [Nat.mod_eq_sub_mod (by omega), Nat.mod_eq_of_lt (by omega)]; omega
    · rw [Nat.mod_eq_of_lt (by omega)]; omega
  refine raddmod_core A B M ((A + B) % 2 ^ 256) _ (cN A B 256) _ w (fun w' => ?_) (fun w' => ?_) (fun w' => ?_)
  · rw [natC_full]; exact radd_any A B w'
  · exact rint_any (cN A B 256 : Nat) w' (by omega)
  · have := rrem_any ((A + B) % 2 ^ 256) (cN A B 256) M w' (Nat.mod_lt _ (by decide)) (by omega) hM
    rw [hs] at this
    exact this

set_option maxRecDepth 100000 in
set_option maxHeartbeats 1000000 in
theorem rmulmod_core (A B M S T R : Nat) (e0 : Int) (w : World)
    (hmu : ∀ w', Calls Try.prog 10 #[.agg (natC A), .agg (natC B)] w' fun e w2 => e = .returned (.tuple #[.agg (natC S), .agg (natC T)]) ∧ Below w'.heap.size w' w2)
    (hre : ∀ w', Calls Try.prog 12 #[.agg (natC S), .agg (natC T), .agg (natC M)] w' fun e w2 => e = .returned (.tuple #[.agg (natC R), .int .i64 e0]) ∧ Below w'.heap.size w' w2) :
    Calls Try.prog 23 #[.agg (natC A), .agg (natC B), .agg (natC M)] w fun e w' => e = .returned (.tuple #[.agg (natC R), .int .i64 e0]) ∧ Below w.heap.size w w' := by
  go_enter Try.func23, Try.ntmps23
  (repeat ((fail_if_success (with_reducible show Code.wp _ (Code.region _ _ _) _ _ _)); go_step))
  apply wp_region_mixp [] [_, _, _, _, _] trivial List.nodup_nil
  · intro p
    refine mx_box 24 _ rfl _ rfl ?_
    simp only [Act.put, List.setIfInBounds_toArray, List.set_cons_zero, List.set_cons_succ]
    refine mx_box 24 _ rfl _ rfl ?_
    simp only [Act.put, List.setIfInBounds_toArray, List.set_cons_zero, List.set_cons_succ]
    refine mx_box 24 _ rfl _ rfl ?_
    simp only [Act.put, List.setIfInBounds_toArray, List.set_cons_zero, List.set_cons_succ]
    refine mx_new 24 rfl _ zero_nat ?_
    simp only [Act.put, List.setIfInBounds_toArray, List.set_cons_zero, List.set_cons_succ]
    refine mx_val (.int .i64 0) (fun _ => rfl) ?_
    simp only [Act.put, List.setIfInBounds_toArray, List.set_cons_zero, List.set_cons_succ]
    refine mx_end ?_
    intro w2 hkw hrw hnew hdis
    have n3 := hnew 0 rfl
    have n4 := hnew 1 rfl
    have n5 := hnew 2 rfl
    have n6 := hnew 3 rfl
    have zr3 : Row w2 (p 0) (natC A) 24 := hrw 1 (24, natC A) rfl
    have zr4 : Row w2 (p 1) (natC B) 24 := hrw 3 (24, natC B) rfl
    have zr5 : Row w2 (p 2) (natC M) 24 := hrw 5 (24, natC M) rfl
    have zr6 : Row w2 (p 3) (natC 0) 24 := hrw 7 (24, natC 0) rfl
    have d3x4 := hdis 0 1 (by omega) rfl rfl
    have d3x5 := hdis 0 2 (by omega) rfl rfl
    have d3x6 := hdis 0 3 (by omega) rfl rfl
    have d4x5 := hdis 1 2 (by omega) rfl rfl
    have d4x6 := hdis 1 3 (by omega) rfl rfl
    have d5x6 := hdis 2 3 (by omega) rfl rfl
    have sb := hkw.below w.heap.size (Nat.le_refl _) (by simp)
    have b3 : w.heap.size ≤ p 0 := n3
    have b4 : w.heap.size ≤ p 1 := n4
    have b5 : w.heap.size ≤ p 2 := n5
    have b6 : w.heap.size ≤ p 3 := n6
    clear hkw hrw hnew hdis n3 n4 n5 n6
    generalize p 0 = g3 at *
    generalize p 1 = g4 at *
    generalize p 2 = g5 at *
    generalize p 3 = g6 at *
    have r3 := zr3
    clear zr3
    have r4 := zr4
    clear zr4
    have r5 := zr5
    clear zr5
    have r6 := zr6
    clear zr6
    (repeat ((fail_if_success (with_reducible show Code.wp _ (Code.region _ _ _) _ _ _)); go_step))
    apply wp_region_mixp [] [_, _, _, _, _, _, _, _, _, _] trivial List.nodup_nil
    · intro p
      refine mx_load 24 _ rfl _ rfl r3 (by simp <;> omega) 4 _ Try.underlying24 size_nat ?_
      simp only [Act.put, List.setIfInBounds_toArray, List.set_cons_zero, List.set_cons_succ]
      refine mx_load 24 _ rfl _ rfl r4 (by simp <;> omega) 4 _ Try.underlying24 size_nat ?_
      simp only [Act.put, List.setIfInBounds_toArray, List.set_cons_zero, List.set_cons_succ]
      refine mx_call 10 _ _ rfl Try.func10 (by kernel_rfl) #[.agg (natC A), .agg (natC B)] rfl _ hmu ?_
      simp only [Act.put, List.setIfInBounds_toArray, List.set_cons_zero, List.set_cons_succ]
      refine mx_move rfl rfl ?_
      simp only [Act.put, List.setIfInBounds_toArray, List.set_cons_zero, List.set_cons_succ]
      refine mx_ext rfl rfl rfl ?_
      simp only [Act.put, List.setIfInBounds_toArray, List.set_cons_zero, List.set_cons_succ]
      refine mx_ext rfl rfl rfl ?_
      simp only [Act.put, List.setIfInBounds_toArray, List.set_cons_zero, List.set_cons_succ]
      refine mx_new 24 rfl _ zero_nat ?_
      simp only [Act.put, List.setIfInBounds_toArray, List.set_cons_zero, List.set_cons_succ]
      refine mx_new 24 rfl _ zero_nat ?_
      simp only [Act.put, List.setIfInBounds_toArray, List.set_cons_zero, List.set_cons_succ]
      refine mx_put 13 24 _ _ rfl rfl rfl (natC S) rfl (by exact size_nat) (by simp only [natC_size]) (natC_one _) ?_
      simp only [Act.put]
      refine mx_put 15 24 _ _ rfl rfl rfl (natC T) rfl (by exact size_nat) (by simp only [natC_size]) (natC_one _) ?_
      simp only [Act.put]
      refine mx_end ?_
      intro w3 hkw hrw hnew hdis
      have n8 := hnew 6 rfl
      have n9 := hnew 7 rfl
      have zr8 : Row w3 (p 6) (natC S) 24 := hrw 13 (24, natC S) rfl
      have zr9 : Row w3 (p 7) (natC T) 24 := hrw 15 (24, natC T) rfl
      have d5x8 := Nat.lt_of_lt_of_le r5.lt n8
      have d5x9 := Nat.lt_of_lt_of_le r5.lt n9
      have d6x8 := Nat.lt_of_lt_of_le r6.lt n8
      have d6x9 := Nat.lt_of_lt_of_le r6.lt n9
      have d8x9 := hdis 6 7 (by omega) rfl rfl
      replace r5 := hkw.row r5 (by simp <;> omega)
      replace r6 := hkw.row r6 (by simp <;> omega)
      have b8 := Nat.le_trans sb.size n8
      have b9 := Nat.le_trans sb.size n9
      replace sb := sb.trans (hkw.below w.heap.size sb.size (by simp <;> omega))
      clear hkw hrw hnew hdis n8 n9
      generalize p 6 = g8 at *
      generalize p 7 = g9 at *
      have r8 := zr8
      clear zr8
      have r9 := zr9
      clear zr9
      (repeat ((fail_if_success (with_reducible show Code.wp _ (Code.region _ _ _) _ _ _)); go_step))
      apply wp_region_mixp [(g6, 24, natC 0)] [_, _, _, _, _, _, _, _] ⟨r6, trivial⟩ (by simp <;> omega)
      · intro p
        refine mx_load 24 _ rfl _ rfl r8 (by simp <;> omega) 4 _ Try.underlying24 size_nat ?_
        simp only [Act.put, List.setIfInBounds_toArray, List.set_cons_zero, List.set_cons_succ]
        refine mx_load 24 _ rfl _ rfl r9 (by simp <;> omega) 4 _ Try.underlying24 size_nat ?_
        simp only [Act.put, List.setIfInBounds_toArray, List.set_cons_zero, List.set_cons_succ]
        refine mx_load 24 _ rfl _ rfl r5 (by simp <;> omega) 4 _ Try.underlying24 size_nat ?_
        simp only [Act.put, List.setIfInBounds_toArray, List.set_cons_zero, List.set_cons_succ]
        refine mx_call 12 _ _ rfl Try.func12 (by kernel_rfl) #[.agg (natC S), .agg (natC T), .agg (natC M)] rfl _ hre ?_
        simp only [Act.put, List.setIfInBounds_toArray, List.set_cons_zero, List.set_cons_succ]
        refine mx_ext rfl rfl rfl ?_
        simp only [Act.put, List.setIfInBounds_toArray, List.set_cons_zero, List.set_cons_succ]
        refine mx_ext rfl rfl rfl ?_
        simp only [Act.put, List.setIfInBounds_toArray, List.set_cons_zero, List.set_cons_succ]
        refine mx_put 0 24 _ _ rfl rfl rfl (natC R) rfl (by exact size_nat) (by simp only [natC_size]) (natC_one _) ?_
        simp only [Act.put]
        refine mx_asg rfl rfl ?_
        simp only [Act.put, List.setIfInBounds_toArray, List.set_cons_zero, List.set_cons_succ]
        refine mx_end ?_
        intro w4 hkw hrw hnew hdis
        have zr6 : Row w4 (g6) (natC R) 24 := hrw 0 (24, natC R) rfl
        replace sb := sb.trans (hkw.below w.heap.size sb.size (by simp <;> omega))
        clear hkw hrw hnew hdis r6
        have r6 := zr6
        clear zr6
        go_wp2
        exact ret_row2 rfl _ rfl r6 4 _ Try.underlying24 (by exact size_nat) rfl _ rfl ⟨rfl, sb⟩
      · rfl
    · rfl
  · rfl
theorem rmulmod_any (A B M : Nat) (w : World) (hA : A < 2 ^ 256) (hB : B < 2 ^ 256) (hM : M < 2 ^ 256) :
    Calls Try.prog 23 #[.agg (natC A), .agg (natC B), .agg (natC M)] w fun e w' => e = .returned (.tuple #[.agg (natC (modZ (A * B) M)), .int .i64 (errI M)]) ∧ Below w.heap.size w w' := by
  have hs : A * B / 2 ^ 256 * 2 ^ 256 + A * B % 2 ^ 256 = A * B := by rw [Nat.mul_comm (A * B / 2 ^ 256)]; exact Nat.div_add_mod _ _
  have ht : A * B / 2 ^ 256 < 2 ^ 256 := by
    refine Nat.div_lt_of_lt_mul ?_
    rcases Nat.eq_zero_or_pos B with h0 | h0
    · rw [h0, Nat.mul_zero]; exact Nat.mul_pos (by decide) (by decide)
    · exact Nat.mul_lt_mul_of_lt_of_lt hA hB
  refine rmulmod_core A B M (A * B % 2 ^ 256) (A * B / 2 ^ 256) _ _ w (fun w' => ?_) (fun w' => ?_)
  · rw [natC_full]; exact rmul_any A B w' hA hB
  · have := rrem_any (A * B % 2 ^ 256) (A * B / 2 ^ 256) M w' (Nat.mod_lt _ (by decide)) ht hM
    rw [hs] at this
    exact this
end Go.Proofs.Ytmmjjohnejimdaa
