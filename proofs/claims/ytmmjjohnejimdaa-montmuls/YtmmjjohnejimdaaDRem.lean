/- The document's Rem and Div. -/
import Derived.Test.YtmmjjohnejimdaaDParted
import Derived.Test.YtmmjjohnejimdaaDMul
import Derived.Test.YtmmjjohnejimdaaWDiv
namespace Go.Proofs.Ytmmjjohnejimdaa
open Go.RowKit

theorem eqz_true {M : Nat} (h : M = 0) : decide (M % 2 ^ 256 = 0 % 2 ^ 256) = true := by subst h; rfl
theorem eqz_false {M : Nat} (h : M ≠ 0) (hM : M < 2 ^ 256) : decide (M % 2 ^ 256 = 0 % 2 ^ 256) = false := by
  rw [Nat.mod_eq_of_lt hM]
  exact decide_eq_false (by simp; omega)

set_option maxRecDepth 100000 in
set_option maxHeartbeats 1000000 in
theorem rrem_zero (A B M : Nat) (w : World) (hM : M = 0) :
    Calls Try.prog 12 #[.agg (natC A), .agg (natC B), .agg (natC M)] w fun e w' => e = .returned (.tuple #[.agg (natC 0), .int .i64 1]) ∧ Below w.heap.size w w' := by
  have HV : Hid (decide (M % 2 ^ 256 = 0 % 2 ^ 256) = true) := eqz_true hM
  clear hM
  go_enter Try.func12, Try.ntmps12
  (repeat ((fail_if_success (with_reducible show Code.wp _ (Code.region _ _ _) _ _ _)); go_step))
  apply wp_region_mixp [] [_, _, _, _, _] trivial List.nodup_nil
  · intro p
    refine mx_box 24 _ rfl _ rfl ?_
    simp only [Act.put, List.setIfInBounds_toArray, List.set_cons_zero, List.set_cons_succ]
    refine mx_box 24 _ rfl _ rfl ?_
    simp only [Act.put, List.setIfInBounds_toArray, List.set_cons_zero, List.set_cons_succ]
    refine mx_box 24 _ rfl _ rfl ?_
    simp only [Act.put, List.setIfInBounds_toArray, List.set_cons_zero, List.set_cons_succ]
    refine mx_new 24 rfl _ zero_nat ?_
    simp only [Act.put, List.setIfInBounds_toArray, List.set_cons_zero, List.set_cons_succ]
    refine mx_val (.int .i64 0) (fun _ => rfl) ?_
    simp only [Act.put, List.setIfInBounds_toArray, List.set_cons_zero, List.set_cons_succ]
    refine mx_end ?_
    intro w2 hkw hrw hnew hdis
    have n3 := hnew 0 rfl
    have n4 := hnew 1 rfl
    have n5 := hnew 2 rfl
    have n6 := hnew 3 rfl
    have zr3 : Row w2 (p 0) (natC A) 24 := hrw 1 (24, natC A) rfl
    have zr4 : Row w2 (p 1) (natC B) 24 := hrw 3 (24, natC B) rfl
    have zr5 : Row w2 (p 2) (natC M) 24 := hrw 5 (24, natC M) rfl
    have zr6 : Row w2 (p 3) (natC 0) 24 := hrw 7 (24, natC 0) rfl
    have d3x4 := hdis 0 1 (by omega) rfl rfl
    have d3x5 := hdis 0 2 (by omega) rfl rfl
    have d3x6 := hdis 0 3 (by omega) rfl rfl
    have d4x5 := hdis 1 2 (by omega) rfl rfl
    have d4x6 := hdis 1 3 (by omega) rfl rfl
    have d5x6 := hdis 2 3 (by omega) rfl rfl
    have sb := hkw.below w.heap.size (Nat.le_refl _) (by simp)
    have b3 : w.heap.size ≤ p 0 := n3
    have b4 : w.heap.size ≤ p 1 := n4
    have b5 : w.heap.size ≤ p 2 := n5
    have b6 : w.heap.size ≤ p 3 := n6
    clear hkw hrw hnew hdis n3 n4 n5 n6
    generalize p 0 = g3 at *
    generalize p 1 = g4 at *
    generalize p 2 = g5 at *
    generalize p 3 = g6 at *
    have r3 := zr3
    clear zr3
    have r4 := zr4
    clear zr4
    have r5 := zr5
    clear zr5
    have r6 := zr6
    clear zr6
    (repeat ((fail_if_success (with_reducible show Code.wp _ (Code.region _ _ _) _ _ _)); go_step))
    apply wp_region_mixp [] [_, _, _] trivial List.nodup_nil
    · intro p
      refine mx_load 24 _ rfl _ rfl r5 (by simp <;> omega) 4 _ Try.underlying24 size_nat ?_
      simp only [Act.put, List.setIfInBounds_toArray, List.set_cons_zero, List.set_cons_succ]
      refine mx_val (.agg (natC 0)) (exec_build0 24 rfl _ built_nat) ?_
      simp only [Act.put, List.setIfInBounds_toArray, List.set_cons_zero, List.set_cons_succ]
      refine mx_val (.bool true) (fun w' => (exec_eql_nat _ _ _ rfl M 0 rfl rfl w').trans (by rw [HV.out])) ?_
      simp only [Act.put, List.setIfInBounds_toArray, List.set_cons_zero, List.set_cons_succ]
      refine mx_end ?_
      intro w3 hkw hrw hnew hdis
      replace r6 := hkw.row r6 (by simp <;> omega)
      replace sb := sb.trans (hkw.below w.heap.size sb.size (by simp <;> omega))
      clear hkw hrw hnew hdis
      (repeat ((fail_if_success (with_reducible show Code.wp _ (Code.region _ _ _) _ _ _)); go_step))
      apply wp_region_mixp [(g6, 24, natC 0)] [_, _, _] ⟨r6, trivial⟩ (by simp <;> omega)
      · intro p
        refine mx_val (.agg (natC 0)) (exec_build0 24 rfl _ built_nat) ?_
        simp only [Act.put, List.setIfInBounds_toArray, List.set_cons_zero, List.set_cons_succ]
        refine mx_put 0 24 _ _ rfl rfl rfl (natC 0) rfl (by exact size_nat) (by simp only [natC_size]) (natC_one _) ?_
        simp only [Act.put]
        refine mx_val (.int .i64 1) (fun _ => rfl) ?_
        simp only [Act.put, List.setIfInBounds_toArray, List.set_cons_zero, List.set_cons_succ]
        refine mx_end ?_
        intro w4 hkw hrw hnew hdis
        have zr6 : Row w4 (g6) (natC 0) 24 := hrw 0 (24, natC 0) rfl
        replace sb := sb.trans (hkw.below w.heap.size sb.size (by simp <;> omega))
        clear hkw hrw hnew hdis r6
        have r6 := zr6
        clear zr6
        go_wp2
        exact ret_row2 rfl _ rfl r6 4 _ Try.underlying24 (by exact size_nat) rfl _ rfl ⟨rfl, sb⟩
      · rfl
    · rfl
  · rfl

set_option maxRecDepth 100000 in
set_option maxHeartbeats 1000000 in
theorem rrem_more (A B M : Nat) (w : World) (hA : A < 2 ^ 256) (hB : B < 2 ^ 256) (h0 : 0 < M) (hM : M < 2 ^ 256) :
    Calls Try.prog 12 #[.agg (natC A), .agg (natC B), .agg (natC M)] w fun e w' => e = .returned (.tuple #[.agg (natC ((A + 2 ^ 256 * B) % M)), .int .i64 0]) ∧ Below w.heap.size w w' := by
  have HV : Hid (decide (M % 2 ^ 256 = 0 % 2 ^ 256) = false) := eqz_false (by omega) hM
  have hN : A + 2 ^ 256 * B < 2 ^ 256 * 2 ^ 256 := by
    have := Nat.mul_le_mul_left (2 ^ 256) (show B ≤ 2 ^ 256 - 1 by omega)
    omega
  have hoA := fun w' => dof_any A B w' hA
  have hoM := fun w' => dof_any M 0 w' hM
  rw [Nat.mul_zero, Nat.add_zero] at hoM
  have hpa := fun w' => parted_any (A + 2 ^ 256 * B) M w' hN h0 hM
  have hna := fun w' => nats_any ((A + 2 ^ 256 * B) % M) w'
  clear hA hB h0 hM hN
  generalize A + 2 ^ 256 * B = N at *
  generalize N % M / 2 ^ 256 = T at *
  generalize N % M = R at *
  generalize N / M = Q at *
  go_enter Try.func12, Try.ntmps12
  (repeat ((fail_if_success (with_reducible show Code.wp _ (Code.region _ _ _) _ _ _)); go_step))
  apply wp_region_mixp [] [_, _, _, _, _] trivial List.nodup_nil
  · intro p
    refine mx_box 24 _ rfl _ rfl ?_
    simp only [Act.put, List.setIfInBounds_toArray, List.set_cons_zero, List.set_cons_succ]
    refine mx_box 24 _ rfl _ rfl ?_
    simp only [Act.put, List.setIfInBounds_toArray, List.set_cons_zero, List.set_cons_succ]
    refine mx_box 24 _ rfl _ rfl ?_
    simp only [Act.put, List.setIfInBounds_toArray, List.set_cons_zero, List.set_cons_succ]
    refine mx_new 24 rfl _ zero_nat ?_
    simp only [Act.put, List.setIfInBounds_toArray, List.set_cons_zero, List.set_cons_succ]
    refine mx_val (.int .i64 0) (fun _ => rfl) ?_
    simp only [Act.put, List.setIfInBounds_toArray, List.set_cons_zero, List.set_cons_succ]
    refine mx_end ?_
    intro w2 hkw hrw hnew hdis
    have n3 := hnew 0 rfl
    have n4 := hnew 1 rfl
    have n5 := hnew 2 rfl
    have n6 := hnew 3 rfl
    have zr3 : Row w2 (p 0) (natC A) 24 := hrw 1 (24, natC A) rfl
    have zr4 : Row w2 (p 1) (natC B) 24 := hrw 3 (24, natC B) rfl
    have zr5 : Row w2 (p 2) (natC M) 24 := hrw 5 (24, natC M) rfl
    have zr6 : Row w2 (p 3) (natC 0) 24 := hrw 7 (24, natC 0) rfl
    have d3x4 := hdis 0 1 (by omega) rfl rfl
    have d3x5 := hdis 0 2 (by omega) rfl rfl
    have d3x6 := hdis 0 3 (by omega) rfl rfl
    have d4x5 := hdis 1 2 (by omega) rfl rfl
    have d4x6 := hdis 1 3 (by omega) rfl rfl
    have d5x6 := hdis 2 3 (by omega) rfl rfl
    have sb := hkw.below w.heap.size (Nat.le_refl _) (by simp)
    have b3 : w.heap.size ≤ p 0 := n3
    have b4 : w.heap.size ≤ p 1 := n4
    have b5 : w.heap.size ≤ p 2 := n5
    have b6 : w.heap.size ≤ p 3 := n6
    clear hkw hrw hnew hdis n3 n4 n5 n6
    generalize p 0 = g3 at *
    generalize p 1 = g4 at *
    generalize p 2 = g5 at *
    generalize p 3 = g6 at *
    have r3 := zr3
    clear zr3
    have r4 := zr4
    clear zr4
    have r5 := zr5
    clear zr5
    have r6 := zr6
    clear zr6
    (repeat ((fail_if_success (with_reducible show Code.wp _ (Code.region _ _ _) _ _ _)); go_step))
    apply wp_region_mixp [] [_, _, _] trivial List.nodup_nil
    · intro p
      refine mx_load 24 _ rfl _ rfl r5 (by simp <;> omega) 4 _ Try.underlying24 size_nat ?_
      simp only [Act.put, List.setIfInBounds_toArray, List.set_cons_zero, List.set_cons_succ]
      refine mx_val (.agg (natC 0)) (exec_build0 24 rfl _ built_nat) ?_
      simp only [Act.put, List.setIfInBounds_toArray, List.set_cons_zero, List.set_cons_succ]
      refine mx_val (.bool false) (fun w' => (exec_eql_nat _ _ _ rfl M 0 rfl rfl w').trans (by rw [HV.out])) ?_
      simp only [Act.put, List.setIfInBounds_toArray, List.set_cons_zero, List.set_cons_succ]
      refine mx_end ?_
      intro w3 hkw hrw hnew hdis
      replace r3 := hkw.row r3 (by simp <;> omega)
      replace r4 := hkw.row r4 (by simp <;> omega)
      replace r5 := hkw.row r5 (by simp <;> omega)
      replace r6 := hkw.row r6 (by simp <;> omega)
      replace sb := sb.trans (hkw.below w.heap.size sb.size (by simp <;> omega))
      clear hkw hrw hnew hdis
      (repeat ((fail_if_success (with_reducible show Code.wp _ (Code.region _ _ _) _ _ _)); go_step))
      apply wp_region_mix (by kernel_rfl) [] [_, _, _, _, _, _, _, _, _, _, _, _, _, _] trivial List.nodup_nil
      · intro p
        refine mx_load 24 _ rfl _ rfl r3 (by simp <;> omega) 4 _ Try.underlying24 size_nat ?_
        simp only [Act.put, List.setIfInBounds_toArray, List.set_cons_zero, List.set_cons_succ]
        refine mx_load 24 _ rfl _ rfl r4 (by simp <;> omega) 4 _ Try.underlying24 size_nat ?_
        simp only [Act.put, List.setIfInBounds_toArray, List.set_cons_zero, List.set_cons_succ]
        refine mx_call 39 _ _ rfl Try.func39 (by kernel_rfl) #[.agg (natC A), .agg (natC B)] rfl _ hoA ?_
        simp only [Act.put, List.setIfInBounds_toArray, List.set_cons_zero, List.set_cons_succ]
        refine mx_load 24 _ rfl _ rfl r5 (by simp <;> omega) 4 _ Try.underlying24 size_nat ?_
        simp only [Act.put, List.setIfInBounds_toArray, List.set_cons_zero, List.set_cons_succ]
        refine mx_val (.agg (natC 0)) (exec_build0 24 rfl _ built_nat) ?_
        simp only [Act.put, List.setIfInBounds_toArray, List.set_cons_zero, List.set_cons_succ]
        refine mx_call 39 _ _ rfl Try.func39 (by kernel_rfl) #[.agg (natC M), .agg (natC 0)] rfl _ hoM ?_
        simp only [Act.put, List.setIfInBounds_toArray, List.set_cons_zero, List.set_cons_succ]
        refine mx_call 43 _ _ rfl Try.func43 (by kernel_rfl) #[.agg (digC N), .agg (digC M)] rfl _ hpa ?_
        simp only [Act.put, List.setIfInBounds_toArray, List.set_cons_zero, List.set_cons_succ]
        refine mx_move rfl rfl ?_
        simp only [Act.put, List.setIfInBounds_toArray, List.set_cons_zero, List.set_cons_succ]
        refine mx_ext rfl rfl rfl ?_
        simp only [Act.put, List.setIfInBounds_toArray, List.set_cons_zero, List.set_cons_succ]
        refine mx_ext rfl rfl rfl ?_
        simp only [Act.put, List.setIfInBounds_toArray, List.set_cons_zero, List.set_cons_succ]
        refine mx_new 50 rfl _ zero_dig ?_
        simp only [Act.put, List.setIfInBounds_toArray, List.set_cons_zero, List.set_cons_succ]
        refine mx_new 50 rfl _ zero_dig ?_
        simp only [Act.put, List.setIfInBounds_toArray, List.set_cons_zero, List.set_cons_succ]
        refine mx_put 21 50 _ _ rfl rfl rfl (digC Q) rfl (by rw [digC_size]; exact size_dig) (by simp only [digC_size]) (digC_one _) ?_
        simp only [Act.put]
        refine mx_put 23 50 _ _ rfl rfl rfl (digC R) rfl (by rw [digC_size]; exact size_dig) (by simp only [digC_size]) (digC_one _) ?_
        simp only [Act.put]
        refine mx_end ?_
        intro w4 hkw hrw hnew hdis
        have n8 := hnew 10 rfl
        have n9 := hnew 11 rfl
        have zr8 : Row w4 (p 10) (digC Q) 50 := hrw 21 (50, digC Q) rfl
        have zr9 : Row w4 (p 11) (digC R) 50 := hrw 23 (50, digC R) rfl
        have d6x8 := Nat.lt_of_lt_of_le r6.lt n8
        have d6x9 := Nat.lt_of_lt_of_le r6.lt n9
        have d8x9 := hdis 10 11 (by omega) rfl rfl
        replace r6 := hkw.row r6 (by simp <;> omega)
        have b8 := Nat.le_trans sb.size n8
        have b9 := Nat.le_trans sb.size n9
        replace sb := sb.trans (hkw.below w.heap.size sb.size (by simp <;> omega))
        clear hkw hrw hnew hdis n8 n9
        generalize p 10 = g8 at *
        generalize p 11 = g9 at *
        have r8 := zr8
        clear zr8
        have r9 := zr9
        clear zr9
        (repeat ((fail_if_success (with_reducible show Code.wp _ (Code.region _ _ _) _ _ _)); go_step))
        apply wp_region_mixp [] [_, _, _, _, _, _, _, _, _] trivial List.nodup_nil
        · intro p
          refine mx_load 50 _ rfl _ rfl r9 (by simp <;> omega) 32 _ Try.underlying50 (by rw [digC_size]; exact size_dig) ?_
          simp only [Act.put, List.setIfInBounds_toArray, List.set_cons_zero, List.set_cons_succ]
          refine mx_call 40 _ _ rfl Try.func40 (by kernel_rfl) #[.agg (digC R)] rfl _ hna ?_
          simp only [Act.put, List.setIfInBounds_toArray, List.set_cons_zero, List.set_cons_succ]
          refine mx_move rfl rfl ?_
          simp only [Act.put, List.setIfInBounds_toArray, List.set_cons_zero, List.set_cons_succ]
          refine mx_ext rfl rfl rfl ?_
          simp only [Act.put, List.setIfInBounds_toArray, List.set_cons_zero, List.set_cons_succ]
          refine mx_ext rfl rfl rfl ?_
          simp only [Act.put, List.setIfInBounds_toArray, List.set_cons_zero, List.set_cons_succ]
          refine mx_new 24 rfl _ zero_nat ?_
          simp only [Act.put, List.setIfInBounds_toArray, List.set_cons_zero, List.set_cons_succ]
          refine mx_new 24 rfl _ zero_nat ?_
          simp only [Act.put, List.setIfInBounds_toArray, List.set_cons_zero, List.set_cons_succ]
          refine mx_put 11 24 _ _ rfl rfl rfl (natC R) rfl (by exact size_nat) (by simp only [natC_size]) (natC_one _) ?_
          simp only [Act.put]
          refine mx_put 13 24 _ _ rfl rfl rfl (natC T) rfl (by exact size_nat) (by simp only [natC_size]) (natC_one _) ?_
          simp only [Act.put]
          refine mx_end ?_
          intro w5 hkw hrw hnew hdis
          have n10 := hnew 5 rfl
          have n11 := hnew 6 rfl
          have zr10 : Row w5 (p 5) (natC R) 24 := hrw 11 (24, natC R) rfl
          have zr11 : Row w5 (p 6) (natC T) 24 := hrw 13 (24, natC T) rfl
          have d6x10 := Nat.lt_of_lt_of_le r6.lt n10
          have d6x11 := Nat.lt_of_lt_of_le r6.lt n11
          have d10x11 := hdis 5 6 (by omega) rfl rfl
          replace r6 := hkw.row r6 (by simp <;> omega)
          have b10 := Nat.le_trans sb.size n10
          have b11 := Nat.le_trans sb.size n11
          replace sb := sb.trans (hkw.below w.heap.size sb.size (by simp <;> omega))
          clear hkw hrw hnew hdis n10 n11
          generalize p 5 = g10 at *
          generalize p 6 = g11 at *
          have r10 := zr10
          clear zr10
          have r11 := zr11
          clear zr11
          (repeat ((fail_if_success (with_reducible show Code.wp _ (Code.region _ _ _) _ _ _)); go_step))
          apply wp_region_mixp [(g6, 24, natC 0)] [_, _, _] ⟨r6, trivial⟩ (by simp <;> omega)
          · intro p
            refine mx_load 24 _ rfl _ rfl r10 (by simp <;> omega) 4 _ Try.underlying24 size_nat ?_
            simp only [Act.put, List.setIfInBounds_toArray, List.set_cons_zero, List.set_cons_succ]
            refine mx_put 0 24 _ _ rfl rfl rfl (natC R) rfl (by exact size_nat) (by simp only [natC_size]) (natC_one _) ?_
            simp only [Act.put]
            refine mx_val (.int .i64 0) (fun _ => rfl) ?_
            simp only [Act.put, List.setIfInBounds_toArray, List.set_cons_zero, List.set_cons_succ]
            refine mx_end ?_
            intro w6 hkw hrw hnew hdis
            have zr6 : Row w6 (g6) (natC R) 24 := hrw 0 (24, natC R) rfl
            replace sb := sb.trans (hkw.below w.heap.size sb.size (by simp <;> omega))
            clear hkw hrw hnew hdis r6
            have r6 := zr6
            clear zr6
            go_wp2
            exact ret_row2 rfl _ rfl r6 4 _ Try.underlying24 (by exact size_nat) rfl _ rfl ⟨rfl, sb⟩
          · rfl
        · rfl
      · kernel_rfl
    · rfl
  · rfl
theorem rrem_any (A B M : Nat) (w : World) (hA : A < 2 ^ 256) (hB : B < 2 ^ 256) (hM : M < 2 ^ 256) :
    Calls Try.prog 12 #[.agg (natC A), .agg (natC B), .agg (natC M)] w fun e w' => e = .returned (.tuple #[.agg (natC (modZ (B * 2 ^ 256 + A) M)), .int .i64 (errI M)]) ∧ Below w.heap.size w w' := by
  unfold modZ errI
  rcases Nat.eq_zero_or_pos M with h0 | h0
  · rw [if_pos h0, if_pos h0]
    exact rrem_zero A B M w h0
  · rw [if_neg (by omega), if_neg (by omega), show B * 2 ^ 256 + A = A + 2 ^ 256 * B by omega]
    exact rrem_more A B M w hA hB h0 hM
end Go.Proofs.Ytmmjjohnejimdaa
