/- The document's Div, AddMod, MulMod. -/
import Derived.Test.YtbmkebdfaokmhaaGO
import Derived.Test.YtbmkebdfaokmhaaGH
import Derived.Test.YtbmkebdfaokmhaaGI
import Derived.Test.YtbmkebdfaokmhaaGC
import Derived.Test.YtbmkebdfaokmhaaGE
namespace Go.Proofs.Ytbmkebdfaokmhaa
open Go.RowKit
set_option maxRecDepth 100000 in
set_option maxHeartbeats 1000000 in
theorem rdiv_zero (A M : Nat) (w : World) (hM : M = 0) :
  Calls Try.prog 88 #[.agg (natC A), .agg (natC M)] w fun e w' => e = .returned (.tuple #[.agg (natC 0), .agg (natC 0), .int .i64 1]) ∧ Below w.heap.size w w' := by
 have HV : Hid (decide (M % 2 ^ 256 = 0 % 2 ^ 256) = true) := eqz_true hM
 clear hM
 go_enter Try.func88, Try.ntmps88
 (repeat ((fail_if_success with_reducible refine rg ?_); go_step))
 apply wp_region_mixp [] [_, _, _, _, _] trivial List.nodup_nil
 ·intro p
  refine mx_box 25 _ rfl _ rfl ?_
  simp only [Act.put, pu]
  refine mx_box 25 _ rfl _ rfl ?_
  simp only [Act.put, pu]
  refine mx_new 25 rfl _ zero_nat ?_
  simp only [Act.put, pu]
  refine mx_new 25 rfl _ zero_nat ?_
  simp only [Act.put, pu]
  refine mx_val (.int .i64 0) (fun _ => rfl) ?_
  simp only [Act.put, pu]
  refine mx_end ?_
  intro w2 hkw hrw hnew hdis
  have n2 := hnew 0 rfl
  have n3 := hnew 1 rfl
  have n4 := hnew 2 rfl
  have n5 := hnew 3 rfl
  have zr2 : Row w2 (p 0) (natC A) 25 := hrw 1 (25, natC A) rfl
  have zr3 : Row w2 (p 1) (natC M) 25 := hrw 3 (25, natC M) rfl
  have zr4 : Row w2 (p 2) (natC 0) 25 := hrw 5 (25, natC 0) rfl
  have zr5 : Row w2 (p 3) (natC 0) 25 := hrw 7 (25, natC 0) rfl
  have d2x3 := hdis 0 1 (by omega) rfl rfl
  have d2x4 := hdis 0 2 (by omega) rfl rfl
  have d2x5 := hdis 0 3 (by omega) rfl rfl
  have d3x4 := hdis 1 2 (by omega) rfl rfl
  have d3x5 := hdis 1 3 (by omega) rfl rfl
  have d4x5 := hdis 2 3 (by omega) rfl rfl
  have sb := hkw.below w.heap.size (Nat.le_refl _) (by simp)
  have b2 : w.heap.size ≤ p 0 := n2
  have b3 : w.heap.size ≤ p 1 := n3
  have b4 : w.heap.size ≤ p 2 := n4
  have b5 : w.heap.size ≤ p 3 := n5
  clear hkw hrw hnew hdis n2 n3 n4 n5
  generalize p 0 = g2 at *
  generalize p 1 = g3 at *
  generalize p 2 = g4 at *
  generalize p 3 = g5 at *
  have r2 := zr2
  clear zr2
  have r3 := zr3
  clear zr3
  have r4 := zr4
  clear zr4
  have r5 := zr5
  clear zr5
  (repeat ((fail_if_success with_reducible refine rg ?_); go_step))
  apply wp_region_mixp [] [_, _, _] trivial List.nodup_nil
  ·intro p
   refine mx_load 25 _ rfl _ rfl r3 (by simp <;> omega) 4 _ Try.underlying25 size_nat ?_
   simp only [Act.put, pu]
   refine mx_val (.agg (natC 0)) (exec_build0 25 rfl _ built_nat) ?_
   simp only [Act.put, pu]
   refine mx_val (.bool true) (fun w' => (exec_eql_nat _ _ _ rfl M 0 rfl rfl w').trans (by rw [HV.out])) ?_
   simp only [Act.put, pu]
   refine mx_end ?_
   intro w3 hkw hrw hnew hdis
   replace r4 := hkw.row r4 (by simp <;> omega)
   replace r5 := hkw.row r5 (by simp <;> omega)
   replace sb := sb.trans (hkw.below w.heap.size sb.size (by simp <;> omega))
   clear hkw hrw hnew hdis
   (repeat ((fail_if_success with_reducible refine rg ?_); go_step))
   apply wp_region_mixp [(g4, 25, natC 0), (g5, 25, natC 0)] [_, _, _, _, _] ⟨r4, r5, trivial⟩ (by simp <;> omega)
   ·intro p
    refine mx_val (.agg (natC 0)) (exec_build0 25 rfl _ built_nat) ?_
    simp only [Act.put, pu]
    refine mx_val (.agg (natC 0)) (exec_build0 25 rfl _ built_nat) ?_
    simp only [Act.put, pu]
    refine mx_put 0 25 _ _ rfl rfl rfl (natC 0) rfl (by exact size_nat) (by simp only [natC_size]) (natC_one _) ?_
    simp only [Act.put]
    refine mx_put 2 25 _ _ rfl rfl rfl (natC 0) rfl (by exact size_nat) (by simp only [natC_size]) (natC_one _) ?_
    simp only [Act.put]
    refine mx_val (.int .i64 1) (fun _ => rfl) ?_
    simp only [Act.put, pu]
    refine mx_end ?_
    intro w4 hkw hrw hnew hdis
    have zr4 : Row w4 (g4) (natC 0) 25 := hrw 0 (25, natC 0) rfl
    have zr5 : Row w4 (g5) (natC 0) 25 := hrw 2 (25, natC 0) rfl
    replace sb := sb.trans (hkw.below w.heap.size sb.size (by simp <;> omega))
    clear hkw hrw hnew hdis r4 r5
    have r4 := zr4
    clear zr4
    have r5 := zr5
    clear zr5
    go_wp2
    exact ret_rows2_val rfl _ rfl r4 _ rfl r5 _ rfl 4 _ Try.underlying25 (by exact size_nat) (by exact size_nat) rfl ⟨rfl, sb⟩
   ·rfl
  ·rfl
 ·rfl
set_option maxRecDepth 100000 in
set_option maxHeartbeats 1000000 in
theorem rdiv_more (A M : Nat) (w : World) (hA : A < 2 ^ 256) (h0 : 0 < M) (hM : M < 2 ^ 256) :
  Calls Try.prog 88 #[.agg (natC A), .agg (natC M)] w fun e w' => e = .returned (.tuple #[.agg (natC (A / M)), .agg (natC (A % M)), .int .i64 0]) ∧ Below w.heap.size w w' := by
 have HV : Hid (decide (M % 2 ^ 256 = 0 % 2 ^ 256) = false) := eqz_false (by omega) hM
 have hN : A < 2 ^ 256 * 2 ^ 256 := by
  have := Nat.mul_le_mul_left (2 ^ 256) (show 1 ≤ 2 ^ 256 by decide)
  omega
 have hoA := fun w' => dof_any A 0 w' hA
 have hoM := fun w' => dof_any M 0 w' hM
 rw [Nat.mul_zero, Nat.add_zero] at hoM hoA
 have hpa := fun w' => parted_any A M w' hN h0 hM
 have hna := fun w' => nats_any (A % M) w'
 have hnq := fun w' => nats_any (A / M) w'
 clear hA h0 hM hN
 generalize A % M / 2 ^ 256 = T at *
 generalize A / M / 2 ^ 256 = S at *
 generalize A % M = R at *
 generalize A / M = Q at *
 go_enter Try.func88, Try.ntmps88
 (repeat ((fail_if_success with_reducible refine rg ?_); go_step))
 apply wp_region_mixp [] [_, _, _, _, _] trivial List.nodup_nil
 ·intro p
  refine mx_box 25 _ rfl _ rfl ?_
  simp only [Act.put, pu]
  refine mx_box 25 _ rfl _ rfl ?_
  simp only [Act.put, pu]
  refine mx_new 25 rfl _ zero_nat ?_
  simp only [Act.put, pu]
  refine mx_new 25 rfl _ zero_nat ?_
  simp only [Act.put, pu]
  refine mx_val (.int .i64 0) (fun _ => rfl) ?_
  simp only [Act.put, pu]
  refine mx_end ?_
  intro w2 hkw hrw hnew hdis
  have n2 := hnew 0 rfl
  have n3 := hnew 1 rfl
  have n4 := hnew 2 rfl
  have n5 := hnew 3 rfl
  have zr2 : Row w2 (p 0) (natC A) 25 := hrw 1 (25, natC A) rfl
  have zr3 : Row w2 (p 1) (natC M) 25 := hrw 3 (25, natC M) rfl
  have zr4 : Row w2 (p 2) (natC 0) 25 := hrw 5 (25, natC 0) rfl
  have zr5 : Row w2 (p 3) (natC 0) 25 := hrw 7 (25, natC 0) rfl
  have d2x3 := hdis 0 1 (by omega) rfl rfl
  have d2x4 := hdis 0 2 (by omega) rfl rfl
  have d2x5 := hdis 0 3 (by omega) rfl rfl
  have d3x4 := hdis 1 2 (by omega) rfl rfl
  have d3x5 := hdis 1 3 (by omega) rfl rfl
  have d4x5 := hdis 2 3 (by omega) rfl rfl
  have sb := hkw.below w.heap.size (Nat.le_refl _) (by simp)
  have b2 : w.heap.size ≤ p 0 := n2
  have b3 : w.heap.size ≤ p 1 := n3
  have b4 : w.heap.size ≤ p 2 := n4
  have b5 : w.heap.size ≤ p 3 := n5
  clear hkw hrw hnew hdis n2 n3 n4 n5
  generalize p 0 = g2 at *
  generalize p 1 = g3 at *
  generalize p 2 = g4 at *
  generalize p 3 = g5 at *
  have r2 := zr2
  clear zr2
  have r3 := zr3
  clear zr3
  have r4 := zr4
  clear zr4
  have r5 := zr5
  clear zr5
  (repeat ((fail_if_success with_reducible refine rg ?_); go_step))
  apply wp_region_mixp [] [_, _, _] trivial List.nodup_nil
  ·intro p
   refine mx_load 25 _ rfl _ rfl r3 (by simp <;> omega) 4 _ Try.underlying25 size_nat ?_
   simp only [Act.put, pu]
   refine mx_val (.agg (natC 0)) (exec_build0 25 rfl _ built_nat) ?_
   simp only [Act.put, pu]
   refine mx_val (.bool false) (fun w' => (exec_eql_nat _ _ _ rfl M 0 rfl rfl w').trans (by rw [HV.out])) ?_
   simp only [Act.put, pu]
   refine mx_end ?_
   intro w3 hkw hrw hnew hdis
   replace r2 := hkw.row r2 (by simp <;> omega)
   replace r3 := hkw.row r3 (by simp <;> omega)
   replace r4 := hkw.row r4 (by simp <;> omega)
   replace r5 := hkw.row r5 (by simp <;> omega)
   replace sb := sb.trans (hkw.below w.heap.size sb.size (by simp <;> omega))
   clear hkw hrw hnew hdis
   (repeat ((fail_if_success with_reducible refine rg ?_); go_step))
   apply wp_region_mix (by kernel_rfl) [] [_, _, _, _, _, _, _, _, _, _, _, _, _, _] trivial List.nodup_nil
   ·intro p
    refine mx_load 25 _ rfl _ rfl r2 (by simp <;> omega) 4 _ Try.underlying25 size_nat ?_
    simp only [Act.put, pu]
    refine mx_val (.agg (natC 0)) (exec_build0 25 rfl _ built_nat) ?_
    simp only [Act.put, pu]
    refine mx_call 47 _ _ rfl Try.func47 (by kernel_rfl) #[.agg (natC A), .agg (natC 0)] rfl _ hoA ?_
    simp only [Act.put, pu]
    refine mx_load 25 _ rfl _ rfl r3 (by simp <;> omega) 4 _ Try.underlying25 size_nat ?_
    simp only [Act.put, pu]
    refine mx_val (.agg (natC 0)) (exec_build0 25 rfl _ built_nat) ?_
    simp only [Act.put, pu]
    refine mx_call 47 _ _ rfl Try.func47 (by kernel_rfl) #[.agg (natC M), .agg (natC 0)] rfl _ hoM ?_
    simp only [Act.put, pu]
    refine mx_call 46 _ _ rfl Try.func46 (by kernel_rfl) #[.agg (digC A), .agg (digC M)] rfl _ hpa ?_
    simp only [Act.put, pu]
    refine mx_move rfl rfl ?_
    simp only [Act.put, pu]
    refine mx_ext rfl rfl rfl ?_
    simp only [Act.put, pu]
    refine mx_ext rfl rfl rfl ?_
    simp only [Act.put, pu]
    refine mx_new 71 rfl _ zero_dig ?_
    simp only [Act.put, pu]
    refine mx_new 71 rfl _ zero_dig ?_
    simp only [Act.put, pu]
    refine mx_put 21 71 _ _ rfl rfl rfl (digC Q) rfl (by rw [digC_size]; exact size_dig) (by simp only [digC_size]) (digC_one _) ?_
    simp only [Act.put]
    refine mx_put 23 71 _ _ rfl rfl rfl (digC R) rfl (by rw [digC_size]; exact size_dig) (by simp only [digC_size]) (digC_one _) ?_
    simp only [Act.put]
    refine mx_end ?_
    intro w4 hkw hrw hnew hdis
    have n7 := hnew 10 rfl
    have n8 := hnew 11 rfl
    have zr7 : Row w4 (p 10) (digC Q) 71 := hrw 21 (71, digC Q) rfl
    have zr8 : Row w4 (p 11) (digC R) 71 := hrw 23 (71, digC R) rfl
    have d4x7 := Nat.lt_of_lt_of_le r4.lt n7
    have d4x8 := Nat.lt_of_lt_of_le r4.lt n8
    have d5x7 := Nat.lt_of_lt_of_le r5.lt n7
    have d5x8 := Nat.lt_of_lt_of_le r5.lt n8
    have d7x8 := hdis 10 11 (by omega) rfl rfl
    replace r4 := hkw.row r4 (by simp <;> omega)
    replace r5 := hkw.row r5 (by simp <;> omega)
    have b7 := Nat.le_trans sb.size n7
    have b8 := Nat.le_trans sb.size n8
    replace sb := sb.trans (hkw.below w.heap.size sb.size (by simp <;> omega))
    clear hkw hrw hnew hdis n7 n8
    generalize p 10 = g7 at *
    generalize p 11 = g8 at *
    have r7 := zr7
    clear zr7
    have r8 := zr8
    clear zr8
    (repeat ((fail_if_success with_reducible refine rg ?_); go_step))
    apply wp_region_mixp [] [_, _, _, _, _, _, _, _, _] trivial List.nodup_nil
    ·intro p
     refine mx_load 71 _ rfl _ rfl r7 (by simp <;> omega) 32 _ Try.underlying71 (by rw [digC_size]; exact size_dig) ?_
     simp only [Act.put, pu]
     refine mx_call 48 _ _ rfl Try.func48 (by kernel_rfl) #[.agg (digC Q)] rfl _ hnq ?_
     simp only [Act.put, pu]
     refine mx_move rfl rfl ?_
     simp only [Act.put, pu]
     refine mx_ext rfl rfl rfl ?_
     simp only [Act.put, pu]
     refine mx_ext rfl rfl rfl ?_
     simp only [Act.put, pu]
     refine mx_new 25 rfl _ zero_nat ?_
     simp only [Act.put, pu]
     refine mx_new 25 rfl _ zero_nat ?_
     simp only [Act.put, pu]
     refine mx_put 11 25 _ _ rfl rfl rfl (natC Q) rfl (by exact size_nat) (by simp only [natC_size]) (natC_one _) ?_
     simp only [Act.put]
     refine mx_put 13 25 _ _ rfl rfl rfl (natC S) rfl (by exact size_nat) (by simp only [natC_size]) (natC_one _) ?_
     simp only [Act.put]
     refine mx_end ?_
     intro w5 hkw hrw hnew hdis
     have n9 := hnew 5 rfl
     have n10 := hnew 6 rfl
     have zr9 : Row w5 (p 5) (natC Q) 25 := hrw 11 (25, natC Q) rfl
     have zr10 : Row w5 (p 6) (natC S) 25 := hrw 13 (25, natC S) rfl
     have d4x9 := Nat.lt_of_lt_of_le r4.lt n9
     have d4x10 := Nat.lt_of_lt_of_le r4.lt n10
     have d5x9 := Nat.lt_of_lt_of_le r5.lt n9
     have d5x10 := Nat.lt_of_lt_of_le r5.lt n10
     have d8x9 := Nat.lt_of_lt_of_le r8.lt n9
     have d8x10 := Nat.lt_of_lt_of_le r8.lt n10
     have d9x10 := hdis 5 6 (by omega) rfl rfl
     replace r4 := hkw.row r4 (by simp <;> omega)
     replace r5 := hkw.row r5 (by simp <;> omega)
     replace r8 := hkw.row r8 (by simp <;> omega)
     have b9 := Nat.le_trans sb.size n9
     have b10 := Nat.le_trans sb.size n10
     replace sb := sb.trans (hkw.below w.heap.size sb.size (by simp <;> omega))
     clear hkw hrw hnew hdis n9 n10
     generalize p 5 = g9 at *
     generalize p 6 = g10 at *
     have r9 := zr9
     clear zr9
     have r10 := zr10
     clear zr10
     (repeat ((fail_if_success with_reducible refine rg ?_); go_step))
     apply wp_region_mixp [] [_, _, _, _, _, _, _, _, _] trivial List.nodup_nil
     ·intro p
      refine mx_load 71 _ rfl _ rfl r8 (by simp <;> omega) 32 _ Try.underlying71 (by rw [digC_size]; exact size_dig) ?_
      simp only [Act.put, pu]
      refine mx_call 48 _ _ rfl Try.func48 (by kernel_rfl) #[.agg (digC R)] rfl _ hna ?_
      simp only [Act.put, pu]
      refine mx_move rfl rfl ?_
      simp only [Act.put, pu]
      refine mx_ext rfl rfl rfl ?_
      simp only [Act.put, pu]
      refine mx_ext rfl rfl rfl ?_
      simp only [Act.put, pu]
      refine mx_new 25 rfl _ zero_nat ?_
      simp only [Act.put, pu]
      refine mx_new 25 rfl _ zero_nat ?_
      simp only [Act.put, pu]
      refine mx_put 11 25 _ _ rfl rfl rfl (natC R) rfl (by exact size_nat) (by simp only [natC_size]) (natC_one _) ?_
      simp only [Act.put]
      refine mx_put 13 25 _ _ rfl rfl rfl (natC T) rfl (by exact size_nat) (by simp only [natC_size]) (natC_one _) ?_
      simp only [Act.put]
      refine mx_end ?_
      intro w6 hkw hrw hnew hdis
      have n11 := hnew 5 rfl
      have n12 := hnew 6 rfl
      have zr11 : Row w6 (p 5) (natC R) 25 := hrw 11 (25, natC R) rfl
      have zr12 : Row w6 (p 6) (natC T) 25 := hrw 13 (25, natC T) rfl
      have d4x11 := Nat.lt_of_lt_of_le r4.lt n11
      have d4x12 := Nat.lt_of_lt_of_le r4.lt n12
      have d5x11 := Nat.lt_of_lt_of_le r5.lt n11
      have d5x12 := Nat.lt_of_lt_of_le r5.lt n12
      have d9x11 := Nat.lt_of_lt_of_le r9.lt n11
      have d9x12 := Nat.lt_of_lt_of_le r9.lt n12
      have d11x12 := hdis 5 6 (by omega) rfl rfl
      replace r4 := hkw.row r4 (by simp <;> omega)
      replace r5 := hkw.row r5 (by simp <;> omega)
      replace r9 := hkw.row r9 (by simp <;> omega)
      have b11 := Nat.le_trans sb.size n11
      have b12 := Nat.le_trans sb.size n12
      replace sb := sb.trans (hkw.below w.heap.size sb.size (by simp <;> omega))
      clear hkw hrw hnew hdis n11 n12
      generalize p 5 = g11 at *
      generalize p 6 = g12 at *
      have r11 := zr11
      clear zr11
      have r12 := zr12
      clear zr12
      (repeat ((fail_if_success with_reducible refine rg ?_); go_step))
      apply wp_region_mix (by kernel_rfl) [(g4, 25, natC 0), (g5, 25, natC 0)] [_, _, _, _, _] ⟨r4, r5, trivial⟩ (by simp <;> omega)
      ·intro p
       refine mx_load 25 _ rfl _ rfl r9 (by simp <;> omega) 4 _ Try.underlying25 size_nat ?_
       simp only [Act.put, pu]
       refine mx_load 25 _ rfl _ rfl r11 (by simp <;> omega) 4 _ Try.underlying25 size_nat ?_
       simp only [Act.put, pu]
       refine mx_put 0 25 _ _ rfl rfl rfl (natC Q) rfl (by exact size_nat) (by simp only [natC_size]) (natC_one _) ?_
       simp only [Act.put]
       refine mx_put 2 25 _ _ rfl rfl rfl (natC R) rfl (by exact size_nat) (by simp only [natC_size]) (natC_one _) ?_
       simp only [Act.put]
       refine mx_val (.int .i64 0) (fun _ => rfl) ?_
       simp only [Act.put, pu]
       refine mx_end ?_
       intro w7 hkw hrw hnew hdis
       have zr4 : Row w7 (g4) (natC Q) 25 := hrw 0 (25, natC Q) rfl
       have zr5 : Row w7 (g5) (natC R) 25 := hrw 2 (25, natC R) rfl
       replace sb := sb.trans (hkw.below w.heap.size sb.size (by simp <;> omega))
       clear hkw hrw hnew hdis r4 r5
       have r4 := zr4
       clear zr4
       have r5 := zr5
       clear zr5
       go_wp2
       exact ret_rows2_val rfl _ rfl r4 _ rfl r5 _ rfl 4 _ Try.underlying25 (by exact size_nat) (by exact size_nat) rfl ⟨rfl, sb⟩
      ·kernel_rfl
     ·rfl
    ·rfl
   ·kernel_rfl
  ·rfl
 ·rfl
theorem rdiv_any (A M : Nat) (w : World) (hA : A < 2 ^ 256) (hM : M < 2 ^ 256) :
  Calls Try.prog 88 #[.agg (natC A), .agg (natC M)] w fun e w' => e = .returned (.tuple #[.agg (natC (divZ A M)), .agg (natC (modZ A M)), .int .i64 (errI M)]) ∧ Below w.heap.size w w' := by
 unfold divZ modZ errI
 rcases Nat.eq_zero_or_pos M with h0 | h0
 ·rw [if_pos h0, if_pos h0, if_pos h0]
  exact rdiv_zero A M w h0
 ·rw [if_neg (by omega), if_neg (by omega), if_neg (by omega)]
  exact rdiv_more A M w hA h0 hM
set_option maxRecDepth 100000 in
set_option maxHeartbeats 1000000 in
theorem raddmod_core (A B M S R : Nat) (c : Nat) (e0 : Int) (w : World)
  (had : ∀ w', Calls Try.prog 104 #[.agg (natC A), .agg (natC B)] w' fun e w2 => e = .returned (.tuple #[.agg (natC S), .int .i64 c]) ∧ Below w'.heap.size w' w2)
  (hin : ∀ w', Calls Try.prog 31 #[.int .i64 c] w' fun e w2 => e = .returned (.agg (natC c)) ∧ Below w'.heap.size w' w2)
  (hre : ∀ w', Calls Try.prog 29 #[.agg (natC S), .agg (natC c), .agg (natC M)] w' fun e w2 => e = .returned (.tuple #[.agg (natC R), .int .i64 e0]) ∧ Below w'.heap.size w' w2) :
  Calls Try.prog 106 #[.agg (natC A), .agg (natC B), .agg (natC M)] w fun e w' => e = .returned (.tuple #[.agg (natC R), .int .i64 e0]) ∧ Below w.heap.size w w' := by
 go_enter Try.func106, Try.ntmps106
 (repeat ((fail_if_success with_reducible refine rg ?_); go_step))
 apply wp_region_mixp [] [_, _, _, _, _] trivial List.nodup_nil
 ·intro p
  refine mx_box 25 _ rfl _ rfl ?_
  simp only [Act.put, pu]
  refine mx_box 25 _ rfl _ rfl ?_
  simp only [Act.put, pu]
  refine mx_box 25 _ rfl _ rfl ?_
  simp only [Act.put, pu]
  refine mx_new 25 rfl _ zero_nat ?_
  simp only [Act.put, pu]
  refine mx_val (.int .i64 0) (fun _ => rfl) ?_
  simp only [Act.put, pu]
  refine mx_end ?_
  intro w2 hkw hrw hnew hdis
  have n3 := hnew 0 rfl
  have n4 := hnew 1 rfl
  have n5 := hnew 2 rfl
  have n6 := hnew 3 rfl
  have zr3 : Row w2 (p 0) (natC A) 25 := hrw 1 (25, natC A) rfl
  have zr4 : Row w2 (p 1) (natC B) 25 := hrw 3 (25, natC B) rfl
  have zr5 : Row w2 (p 2) (natC M) 25 := hrw 5 (25, natC M) rfl
  have zr6 : Row w2 (p 3) (natC 0) 25 := hrw 7 (25, natC 0) rfl
  have d3x4 := hdis 0 1 (by omega) rfl rfl
  have d3x5 := hdis 0 2 (by omega) rfl rfl
  have d3x6 := hdis 0 3 (by omega) rfl rfl
  have d4x5 := hdis 1 2 (by omega) rfl rfl
  have d4x6 := hdis 1 3 (by omega) rfl rfl
  have d5x6 := hdis 2 3 (by omega) rfl rfl
  have sb := hkw.below w.heap.size (Nat.le_refl _) (by simp)
  have b3 : w.heap.size ≤ p 0 := n3
  have b4 : w.heap.size ≤ p 1 := n4
  have b5 : w.heap.size ≤ p 2 := n5
  have b6 : w.heap.size ≤ p 3 := n6
  clear hkw hrw hnew hdis n3 n4 n5 n6
  generalize p 0 = g3 at *
  generalize p 1 = g4 at *
  generalize p 2 = g5 at *
  generalize p 3 = g6 at *
  have r3 := zr3
  clear zr3
  have r4 := zr4
  clear zr4
  have r5 := zr5
  clear zr5
  have r6 := zr6
  clear zr6
  (repeat ((fail_if_success with_reducible refine rg ?_); go_step))
  apply wp_region_mixp [] [_, _, _, _, _, _, _, _, _] trivial List.nodup_nil
  ·intro p
   refine mx_load 25 _ rfl _ rfl r3 (by simp <;> omega) 4 _ Try.underlying25 size_nat ?_
   simp only [Act.put, pu]
   refine mx_load 25 _ rfl _ rfl r4 (by simp <;> omega) 4 _ Try.underlying25 size_nat ?_
   simp only [Act.put, pu]
   refine mx_call 104 _ _ rfl Try.func104 (by kernel_rfl) #[.agg (natC A), .agg (natC B)] rfl _ had ?_
   simp only [Act.put, pu]
   refine mx_move rfl rfl ?_
   simp only [Act.put, pu]
   refine mx_ext rfl rfl rfl ?_
   simp only [Act.put, pu]
   refine mx_ext rfl rfl rfl ?_
   simp only [Act.put, pu]
   refine mx_new 25 rfl _ zero_nat ?_
   simp only [Act.put, pu]
   refine mx_put 13 25 _ _ rfl rfl rfl (natC S) rfl (by exact size_nat) (by simp only [natC_size]) (natC_one _) ?_
   simp only [Act.put]
   refine mx_asg rfl rfl ?_
   simp only [Act.put, pu]
   refine mx_end ?_
   intro w3 hkw hrw hnew hdis
   have n8 := hnew 6 rfl
   have zr8 : Row w3 (p 6) (natC S) 25 := hrw 13 (25, natC S) rfl
   have d5x8 := Nat.lt_of_lt_of_le r5.lt n8
   have d6x8 := Nat.lt_of_lt_of_le r6.lt n8
   replace r5 := hkw.row r5 (by simp <;> omega)
   replace r6 := hkw.row r6 (by simp <;> omega)
   have b8 := Nat.le_trans sb.size n8
   replace sb := sb.trans (hkw.below w.heap.size sb.size (by simp <;> omega))
   clear hkw hrw hnew hdis n8
   generalize p 6 = g8 at *
   have r8 := zr8
   clear zr8
   (repeat ((fail_if_success with_reducible refine rg ?_); go_step))
   apply wp_region_mix (by kernel_rfl) [(g6, 25, natC 0)] [_, _, _, _, _, _, _, _, _] ⟨r6, trivial⟩ (by simp <;> omega)
   ·intro p
    refine mx_load 25 _ rfl _ rfl r8 (by simp <;> omega) 4 _ Try.underlying25 size_nat ?_
    simp only [Act.put, pu]
    refine mx_move rfl rfl ?_
    simp only [Act.put, pu]
    refine mx_call 31 _ _ rfl Try.func31 (by kernel_rfl) #[.int .i64 c] rfl _ hin ?_
    simp only [Act.put, pu]
    refine mx_load 25 _ rfl _ rfl r5 (by simp <;> omega) 4 _ Try.underlying25 size_nat ?_
    simp only [Act.put, pu]
    refine mx_call 29 _ _ rfl Try.func29 (by kernel_rfl) #[.agg (natC S), .agg (natC c), .agg (natC M)] rfl _ hre ?_
    simp only [Act.put, pu]
    refine mx_ext rfl rfl rfl ?_
    simp only [Act.put, pu]
    refine mx_ext rfl rfl rfl ?_
    simp only [Act.put, pu]
    refine mx_put 0 25 _ _ rfl rfl rfl (natC R) rfl (by exact size_nat) (by simp only [natC_size]) (natC_one _) ?_
    simp only [Act.put]
    refine mx_asg rfl rfl ?_
    simp only [Act.put, pu]
    refine mx_end ?_
    intro w4 hkw hrw hnew hdis
    have zr6 : Row w4 (g6) (natC R) 25 := hrw 0 (25, natC R) rfl
    replace sb := sb.trans (hkw.below w.heap.size sb.size (by simp <;> omega))
    clear hkw hrw hnew hdis r6
    have r6 := zr6
    clear zr6
    go_wp2
    exact ret_row2 rfl _ rfl r6 4 _ Try.underlying25 (by exact size_nat) rfl _ rfl ⟨rfl, sb⟩
   ·kernel_rfl
  ·rfl
 ·rfl
theorem raddmod_any (A B M : Nat) (w : World) (hA : A < 2 ^ 256) (hB : B < 2 ^ 256) (hM : M < 2 ^ 256) :
  Calls Try.prog 106 #[.agg (natC A), .agg (natC B), .agg (natC M)] w fun e w' => e = .returned (.tuple #[.agg (natC (modZ (A + B) M)), .int .i64 (errI M)]) ∧ Below w.heap.size w w' := by
 have hc := cN_le A B 256
 have hs : cN A B 256 * 2 ^ 256 + (A + B) % 2 ^ 256 = A + B := by
  rw [cN_eq, Nat.mod_eq_of_lt hA, Nat.mod_eq_of_lt hB]
  split
  ·rw [Nat.mod_eq_sub_mod (by omega), Nat.mod_eq_of_lt (by omega)]; omega
  ·rw [Nat.mod_eq_of_lt (by omega)]; omega
 refine raddmod_core A B M ((A + B) % 2 ^ 256) _ (cN A B 256) _ w (fun w' => ?_) (fun w' => ?_) (fun w' => ?_)
 ·rw [natC_full]; exact radd_any A B w'
 ·exact rint_any (cN A B 256 : Nat) w' (by omega)
 ·have := rrem_any ((A + B) % 2 ^ 256) (cN A B 256) M w' (Nat.mod_lt _ (by decide)) (by omega) hM
  rw [hs] at this
  exact this
set_option maxRecDepth 100000 in
set_option maxHeartbeats 1000000 in
theorem rmulmod_core (A B M S T R : Nat) (e0 : Int) (w : World)
  (hmu : ∀ w', Calls Try.prog 89 #[.agg (natC A), .agg (natC B)] w' fun e w2 => e = .returned (.tuple #[.agg (natC S), .agg (natC T)]) ∧ Below w'.heap.size w' w2)
  (hre : ∀ w', Calls Try.prog 29 #[.agg (natC S), .agg (natC T), .agg (natC M)] w' fun e w2 => e = .returned (.tuple #[.agg (natC R), .int .i64 e0]) ∧ Below w'.heap.size w' w2) :
  Calls Try.prog 64 #[.agg (natC A), .agg (natC B), .agg (natC M)] w fun e w' => e = .returned (.tuple #[.agg (natC R), .int .i64 e0]) ∧ Below w.heap.size w w' := by
 go_enter Try.func64, Try.ntmps64
 (repeat ((fail_if_success with_reducible refine rg ?_); go_step))
 apply wp_region_mixp [] [_, _, _, _, _] trivial List.nodup_nil
 ·intro p
  refine mx_box 25 _ rfl _ rfl ?_
  simp only [Act.put, pu]
  refine mx_box 25 _ rfl _ rfl ?_
  simp only [Act.put, pu]
  refine mx_box 25 _ rfl _ rfl ?_
  simp only [Act.put, pu]
  refine mx_new 25 rfl _ zero_nat ?_
  simp only [Act.put, pu]
  refine mx_val (.int .i64 0) (fun _ => rfl) ?_
  simp only [Act.put, pu]
  refine mx_end ?_
  intro w2 hkw hrw hnew hdis
  have n3 := hnew 0 rfl
  have n4 := hnew 1 rfl
  have n5 := hnew 2 rfl
  have n6 := hnew 3 rfl
  have zr3 : Row w2 (p 0) (natC A) 25 := hrw 1 (25, natC A) rfl
  have zr4 : Row w2 (p 1) (natC B) 25 := hrw 3 (25, natC B) rfl
  have zr5 : Row w2 (p 2) (natC M) 25 := hrw 5 (25, natC M) rfl
  have zr6 : Row w2 (p 3) (natC 0) 25 := hrw 7 (25, natC 0) rfl
  have d3x4 := hdis 0 1 (by omega) rfl rfl
  have d3x5 := hdis 0 2 (by omega) rfl rfl
  have d3x6 := hdis 0 3 (by omega) rfl rfl
  have d4x5 := hdis 1 2 (by omega) rfl rfl
  have d4x6 := hdis 1 3 (by omega) rfl rfl
  have d5x6 := hdis 2 3 (by omega) rfl rfl
  have sb := hkw.below w.heap.size (Nat.le_refl _) (by simp)
  have b3 : w.heap.size ≤ p 0 := n3
  have b4 : w.heap.size ≤ p 1 := n4
  have b5 : w.heap.size ≤ p 2 := n5
  have b6 : w.heap.size ≤ p 3 := n6
  clear hkw hrw hnew hdis n3 n4 n5 n6
  generalize p 0 = g3 at *
  generalize p 1 = g4 at *
  generalize p 2 = g5 at *
  generalize p 3 = g6 at *
  have r3 := zr3
  clear zr3
  have r4 := zr4
  clear zr4
  have r5 := zr5
  clear zr5
  have r6 := zr6
  clear zr6
  (repeat ((fail_if_success with_reducible refine rg ?_); go_step))
  apply wp_region_mixp [] [_, _, _, _, _, _, _, _, _, _] trivial List.nodup_nil
  ·intro p
   refine mx_load 25 _ rfl _ rfl r3 (by simp <;> omega) 4 _ Try.underlying25 size_nat ?_
   simp only [Act.put, pu]
   refine mx_load 25 _ rfl _ rfl r4 (by simp <;> omega) 4 _ Try.underlying25 size_nat ?_
   simp only [Act.put, pu]
   refine mx_call 89 _ _ rfl Try.func89 (by kernel_rfl) #[.agg (natC A), .agg (natC B)] rfl _ hmu ?_
   simp only [Act.put, pu]
   refine mx_move rfl rfl ?_
   simp only [Act.put, pu]
   refine mx_ext rfl rfl rfl ?_
   simp only [Act.put, pu]
   refine mx_ext rfl rfl rfl ?_
   simp only [Act.put, pu]
   refine mx_new 25 rfl _ zero_nat ?_
   simp only [Act.put, pu]
   refine mx_new 25 rfl _ zero_nat ?_
   simp only [Act.put, pu]
   refine mx_put 13 25 _ _ rfl rfl rfl (natC S) rfl (by exact size_nat) (by simp only [natC_size]) (natC_one _) ?_
   simp only [Act.put]
   refine mx_put 15 25 _ _ rfl rfl rfl (natC T) rfl (by exact size_nat) (by simp only [natC_size]) (natC_one _) ?_
   simp only [Act.put]
   refine mx_end ?_
   intro w3 hkw hrw hnew hdis
   have n8 := hnew 6 rfl
   have n9 := hnew 7 rfl
   have zr8 : Row w3 (p 6) (natC S) 25 := hrw 13 (25, natC S) rfl
   have zr9 : Row w3 (p 7) (natC T) 25 := hrw 15 (25, natC T) rfl
   have d5x8 := Nat.lt_of_lt_of_le r5.lt n8
   have d5x9 := Nat.lt_of_lt_of_le r5.lt n9
   have d6x8 := Nat.lt_of_lt_of_le r6.lt n8
   have d6x9 := Nat.lt_of_lt_of_le r6.lt n9
   have d8x9 := hdis 6 7 (by omega) rfl rfl
   replace r5 := hkw.row r5 (by simp <;> omega)
   replace r6 := hkw.row r6 (by simp <;> omega)
   have b8 := Nat.le_trans sb.size n8
   have b9 := Nat.le_trans sb.size n9
   replace sb := sb.trans (hkw.below w.heap.size sb.size (by simp <;> omega))
   clear hkw hrw hnew hdis n8 n9
   generalize p 6 = g8 at *
   generalize p 7 = g9 at *
   have r8 := zr8
   clear zr8
   have r9 := zr9
   clear zr9
   (repeat ((fail_if_success with_reducible refine rg ?_); go_step))
   apply wp_region_mixp [(g6, 25, natC 0)] [_, _, _, _, _, _, _, _] ⟨r6, trivial⟩ (by simp <;> omega)
   ·intro p
    refine mx_load 25 _ rfl _ rfl r8 (by simp <;> omega) 4 _ Try.underlying25 size_nat ?_
    simp only [Act.put, pu]
    refine mx_load 25 _ rfl _ rfl r9 (by simp <;> omega) 4 _ Try.underlying25 size_nat ?_
    simp only [Act.put, pu]
    refine mx_load 25 _ rfl _ rfl r5 (by simp <;> omega) 4 _ Try.underlying25 size_nat ?_
    simp only [Act.put, pu]
    refine mx_call 29 _ _ rfl Try.func29 (by kernel_rfl) #[.agg (natC S), .agg (natC T), .agg (natC M)] rfl _ hre ?_
    simp only [Act.put, pu]
    refine mx_ext rfl rfl rfl ?_
    simp only [Act.put, pu]
    refine mx_ext rfl rfl rfl ?_
    simp only [Act.put, pu]
    refine mx_put 0 25 _ _ rfl rfl rfl (natC R) rfl (by exact size_nat) (by simp only [natC_size]) (natC_one _) ?_
    simp only [Act.put]
    refine mx_asg rfl rfl ?_
    simp only [Act.put, pu]
    refine mx_end ?_
    intro w4 hkw hrw hnew hdis
    have zr6 : Row w4 (g6) (natC R) 25 := hrw 0 (25, natC R) rfl
    replace sb := sb.trans (hkw.below w.heap.size sb.size (by simp <;> omega))
    clear hkw hrw hnew hdis r6
    have r6 := zr6
    clear zr6
    go_wp2
    exact ret_row2 rfl _ rfl r6 4 _ Try.underlying25 (by exact size_nat) rfl _ rfl ⟨rfl, sb⟩
   ·rfl
  ·rfl
 ·rfl
theorem rmulmod_any (A B M : Nat) (w : World) (hA : A < 2 ^ 256) (hB : B < 2 ^ 256) (hM : M < 2 ^ 256) :
  Calls Try.prog 64 #[.agg (natC A), .agg (natC B), .agg (natC M)] w fun e w' => e = .returned (.tuple #[.agg (natC (modZ (A * B) M)), .int .i64 (errI M)]) ∧ Below w.heap.size w w' := by
 have hs : A * B / 2 ^ 256 * 2 ^ 256 + A * B % 2 ^ 256 = A * B := by rw [Nat.mul_comm (A * B / 2 ^ 256)]; exact Nat.div_add_mod _ _
 have ht : A * B / 2 ^ 256 < 2 ^ 256 := by
  refine Nat.div_lt_of_lt_mul ?_
  rcases Nat.eq_zero_or_pos B with h0 | h0
  ·rw [h0, Nat.mul_zero]; exact Nat.mul_pos (by decide) (by decide)
  ·exact Nat.mul_lt_mul_of_lt_of_lt hA hB
 refine rmulmod_core A B M (A * B % 2 ^ 256) (A * B / 2 ^ 256) _ _ w (fun w' => ?_) (fun w' => ?_)
 ·rw [natC_full]; exact rmul_any A B w' hA hB
 ·have := rrem_any (A * B % 2 ^ 256) (A * B / 2 ^ 256) M w' (Nat.mod_lt _ (by decide)) ht hM
  rw [hs] at this
  exact this
end Go.Proofs.Ytbmkebdfaokmhaa
/- The document's SubMod, Gcd, Inv. -/
namespace Go.Proofs.Ytbmkebdfaokmhaa
open Go.RowKit
theorem exec_neq_i {P : Program} {o : Oper} {ρ : Operand → Value} (t : TypeId) (x y : Operand) (u : TypeId) (ho : o.op = .binOp .neq t x y u) (n m : Int) (hx : ρ x = .int .i64 n) (hy : ρ y = .int .i64 m) (w : World) :
  (execOp ρ o).run P w = .ok (.value (.bool (n != m))) w := by
 unfold execOp
 simp only [ho, hx, hy]
 simp [eqGuard, go_sem]
theorem exec_eql_i {P : Program} {o : Oper} {ρ : Operand → Value} (t : TypeId) (x y : Operand) (u : TypeId) (ho : o.op = .binOp .eql t x y u) (n m : Int) (hx : ρ x = .int .i64 n) (hy : ρ y = .int .i64 m) (w : World) :
  (execOp ρ o).run P w = .ok (.value (.bool (n == m))) w := by
 unfold execOp
 simp only [ho, hx, hy]
 simp [eqGuard, go_sem]
theorem exec_lss_i {P : Program} {o : Oper} {ρ : Operand → Value} (t : TypeId) (x y : Operand) (u : TypeId) (ho : o.op = .binOp .lss t x y u) (n m : Int) (hx : ρ x = .int .i64 n) (hy : ρ y = .int .i64 m) (w : World) :
  (execOp ρ o).run P w = .ok (.value (.bool (decide (n < m)))) w := by
 unfold execOp
 simp only [ho, hx, hy]
 simp [go_sem]
set_option maxRecDepth 100000 in
set_option maxHeartbeats 1000000 in
theorem rsubmod_zero (A B M : Nat) (w : World)
  (hre : ∀ w', Calls Try.prog 29 #[.agg (natC B), .agg (natC 0), .agg (natC M)] w' fun e w2 => e = .returned (.tuple #[.agg (natC 0), .int .i64 1]) ∧ Below w'.heap.size w' w2) :
  Calls Try.prog 90 #[.agg (natC A), .agg (natC B), .agg (natC M)] w fun e w' => e = .returned (.tuple #[.agg (natC 0), .int .i64 1]) ∧ Below w.heap.size w w' := by
 go_enter Try.func90, Try.ntmps90
 (repeat ((fail_if_success with_reducible refine rg ?_); go_step))
 apply wp_region_mixp [] [_, _, _, _, _] trivial List.nodup_nil
 ·intro p
  refine mx_box 25 _ rfl _ rfl ?_
  simp only [Act.put, pu]
  refine mx_box 25 _ rfl _ rfl ?_
  simp only [Act.put, pu]
  refine mx_box 25 _ rfl _ rfl ?_
  simp only [Act.put, pu]
  refine mx_new 25 rfl _ zero_nat ?_
  simp only [Act.put, pu]
  refine mx_val (.int .i64 0) (fun _ => rfl) ?_
  simp only [Act.put, pu]
  refine mx_end ?_
  intro w2 hkw hrw hnew hdis
  have n3 := hnew 0 rfl
  have n4 := hnew 1 rfl
  have n5 := hnew 2 rfl
  have n6 := hnew 3 rfl
  have zr3 : Row w2 (p 0) (natC A) 25 := hrw 1 (25, natC A) rfl
  have zr4 : Row w2 (p 1) (natC B) 25 := hrw 3 (25, natC B) rfl
  have zr5 : Row w2 (p 2) (natC M) 25 := hrw 5 (25, natC M) rfl
  have zr6 : Row w2 (p 3) (natC 0) 25 := hrw 7 (25, natC 0) rfl
  have d3x4 := hdis 0 1 (by omega) rfl rfl
  have d3x5 := hdis 0 2 (by omega) rfl rfl
  have d3x6 := hdis 0 3 (by omega) rfl rfl
  have d4x5 := hdis 1 2 (by omega) rfl rfl
  have d4x6 := hdis 1 3 (by omega) rfl rfl
  have d5x6 := hdis 2 3 (by omega) rfl rfl
  have sb := hkw.below w.heap.size (Nat.le_refl _) (by simp)
  have b3 : w.heap.size ≤ p 0 := n3
  have b4 : w.heap.size ≤ p 1 := n4
  have b5 : w.heap.size ≤ p 2 := n5
  have b6 : w.heap.size ≤ p 3 := n6
  clear hkw hrw hnew hdis n3 n4 n5 n6
  generalize p 0 = g3 at *
  generalize p 1 = g4 at *
  generalize p 2 = g5 at *
  generalize p 3 = g6 at *
  have r3 := zr3
  clear zr3
  have r4 := zr4
  clear zr4
  have r5 := zr5
  clear zr5
  have r6 := zr6
  clear zr6
  (repeat ((fail_if_success with_reducible refine rg ?_); go_step))
  apply wp_region_mixp [] [_, _, _, _, _, _, _, _, _, _] trivial List.nodup_nil
  ·intro p
   refine mx_load 25 _ rfl _ rfl r4 (by simp <;> omega) 4 _ Try.underlying25 size_nat ?_
   simp only [Act.put, pu]
   refine mx_val (.agg (natC 0)) (exec_build0 25 rfl _ built_nat) ?_
   simp only [Act.put, pu]
   refine mx_load 25 _ rfl _ rfl r5 (by simp <;> omega) 4 _ Try.underlying25 size_nat ?_
   simp only [Act.put, pu]
   refine mx_call 29 _ _ rfl Try.func29 (by kernel_rfl) #[.agg (natC B), .agg (natC 0), .agg (natC M)] rfl _ hre ?_
   simp only [Act.put, pu]
   refine mx_move rfl rfl ?_
   simp only [Act.put, pu]
   refine mx_ext rfl rfl rfl ?_
   simp only [Act.put, pu]
   refine mx_ext rfl rfl rfl ?_
   simp only [Act.put, pu]
   refine mx_new 25 rfl _ zero_nat ?_
   simp only [Act.put, pu]
   refine mx_put 15 25 _ _ rfl rfl rfl (natC 0) rfl (by exact size_nat) (by simp only [natC_size]) (natC_one _) ?_
   simp only [Act.put]
   refine mx_asg rfl rfl ?_
   simp only [Act.put, pu]
   refine mx_end ?_
   intro w3 hkw hrw hnew hdis
   have n8 := hnew 7 rfl
   have zr8 : Row w3 (p 7) (natC 0) 25 := hrw 15 (25, natC 0) rfl
   have d6x8 := Nat.lt_of_lt_of_le r6.lt n8
   replace r6 := hkw.row r6 (by simp <;> omega)
   have b8 := Nat.le_trans sb.size n8
   replace sb := sb.trans (hkw.below w.heap.size sb.size (by simp <;> omega))
   clear hkw hrw hnew hdis n8
   generalize p 7 = g8 at *
   have r8 := zr8
   clear zr8
   (repeat ((fail_if_success with_reducible refine rg ?_); go_step))
   apply wp_region_mixp [] [_, _] trivial List.nodup_nil
   ·intro p
    refine mx_move rfl rfl ?_
    simp only [Act.put, pu]
    refine mx_val (.bool true) (exec_neq_i _ _ _ _ rfl 1 0 rfl rfl) ?_
    simp only [Act.put, pu]
    refine mx_end ?_
    intro w4 hkw hrw hnew hdis
    replace r6 := hkw.row r6 (by simp <;> omega)
    replace sb := sb.trans (hkw.below w.heap.size sb.size (by simp <;> omega))
    clear hkw hrw hnew hdis
    (repeat ((fail_if_success with_reducible refine rg ?_); go_step))
    apply wp_region_mixp [(g6, 25, natC 0)] [_, _, _, _] ⟨r6, trivial⟩ (by simp <;> omega)
    ·intro p
     refine mx_val (.agg (natC 0)) (exec_build0 25 rfl _ built_nat) ?_
     simp only [Act.put, pu]
     refine mx_move rfl rfl ?_
     simp only [Act.put, pu]
     refine mx_put 0 25 _ _ rfl rfl rfl (natC 0) rfl (by exact size_nat) (by simp only [natC_size]) (natC_one _) ?_
     simp only [Act.put]
     refine mx_asg rfl rfl ?_
     simp only [Act.put, pu]
     refine mx_end ?_
     intro w5 hkw hrw hnew hdis
     have zr6 : Row w5 (g6) (natC 0) 25 := hrw 0 (25, natC 0) rfl
     replace sb := sb.trans (hkw.below w.heap.size sb.size (by simp <;> omega))
     clear hkw hrw hnew hdis r6
     have r6 := zr6
     clear zr6
     go_wp2
     exact ret_row2 rfl _ rfl r6 4 _ Try.underlying25 (by exact size_nat) rfl _ rfl ⟨rfl, sb⟩
    ·rfl
   ·rfl
  ·rfl
 ·rfl
set_option maxRecDepth 100000 in
set_option maxHeartbeats 1000000 in
theorem rsubmod_more (A B M X D R : Nat) (bo : Nat) (e0 : Int) (w : World)
  (hre : ∀ w', Calls Try.prog 29 #[.agg (natC B), .agg (natC 0), .agg (natC M)] w' fun e w2 => e = .returned (.tuple #[.agg (natC X), .int .i64 0]) ∧ Below w'.heap.size w' w2)
  (hsu : ∀ w', Calls Try.prog 87 #[.agg (natC M), .agg (natC X)] w' fun e w2 => e = .returned (.tuple #[.agg (natC D), .int .i64 bo]) ∧ Below w'.heap.size w' w2)
  (had : ∀ w', Calls Try.prog 106 #[.agg (natC A), .agg (natC D), .agg (natC M)] w' fun e w2 => e = .returned (.tuple #[.agg (natC R), .int .i64 e0]) ∧ Below w'.heap.size w' w2) :
  Calls Try.prog 90 #[.agg (natC A), .agg (natC B), .agg (natC M)] w fun e w' => e = .returned (.tuple #[.agg (natC R), .int .i64 e0]) ∧ Below w.heap.size w w' := by
 go_enter Try.func90, Try.ntmps90
 (repeat ((fail_if_success with_reducible refine rg ?_); go_step))
 apply wp_region_mixp [] [_, _, _, _, _] trivial List.nodup_nil
 ·intro p
  refine mx_box 25 _ rfl _ rfl ?_
  simp only [Act.put, pu]
  refine mx_box 25 _ rfl _ rfl ?_
  simp only [Act.put, pu]
  refine mx_box 25 _ rfl _ rfl ?_
  simp only [Act.put, pu]
  refine mx_new 25 rfl _ zero_nat ?_
  simp only [Act.put, pu]
  refine mx_val (.int .i64 0) (fun _ => rfl) ?_
  simp only [Act.put, pu]
  refine mx_end ?_
  intro w2 hkw hrw hnew hdis
  have n3 := hnew 0 rfl
  have n4 := hnew 1 rfl
  have n5 := hnew 2 rfl
  have n6 := hnew 3 rfl
  have zr3 : Row w2 (p 0) (natC A) 25 := hrw 1 (25, natC A) rfl
  have zr4 : Row w2 (p 1) (natC B) 25 := hrw 3 (25, natC B) rfl
  have zr5 : Row w2 (p 2) (natC M) 25 := hrw 5 (25, natC M) rfl
  have zr6 : Row w2 (p 3) (natC 0) 25 := hrw 7 (25, natC 0) rfl
  have d3x4 := hdis 0 1 (by omega) rfl rfl
  have d3x5 := hdis 0 2 (by omega) rfl rfl
  have d3x6 := hdis 0 3 (by omega) rfl rfl
  have d4x5 := hdis 1 2 (by omega) rfl rfl
  have d4x6 := hdis 1 3 (by omega) rfl rfl
  have d5x6 := hdis 2 3 (by omega) rfl rfl
  have sb := hkw.below w.heap.size (Nat.le_refl _) (by simp)
  have b3 : w.heap.size ≤ p 0 := n3
  have b4 : w.heap.size ≤ p 1 := n4
  have b5 : w.heap.size ≤ p 2 := n5
  have b6 : w.heap.size ≤ p 3 := n6
  clear hkw hrw hnew hdis n3 n4 n5 n6
  generalize p 0 = g3 at *
  generalize p 1 = g4 at *
  generalize p 2 = g5 at *
  generalize p 3 = g6 at *
  have r3 := zr3
  clear zr3
  have r4 := zr4
  clear zr4
  have r5 := zr5
  clear zr5
  have r6 := zr6
  clear zr6
  (repeat ((fail_if_success with_reducible refine rg ?_); go_step))
  apply wp_region_mixp [] [_, _, _, _, _, _, _, _, _, _] trivial List.nodup_nil
  ·intro p
   refine mx_load 25 _ rfl _ rfl r4 (by simp <;> omega) 4 _ Try.underlying25 size_nat ?_
   simp only [Act.put, pu]
   refine mx_val (.agg (natC 0)) (exec_build0 25 rfl _ built_nat) ?_
   simp only [Act.put, pu]
   refine mx_load 25 _ rfl _ rfl r5 (by simp <;> omega) 4 _ Try.underlying25 size_nat ?_
   simp only [Act.put, pu]
   refine mx_call 29 _ _ rfl Try.func29 (by kernel_rfl) #[.agg (natC B), .agg (natC 0), .agg (natC M)] rfl _ hre ?_
   simp only [Act.put, pu]
   refine mx_move rfl rfl ?_
   simp only [Act.put, pu]
   refine mx_ext rfl rfl rfl ?_
   simp only [Act.put, pu]
   refine mx_ext rfl rfl rfl ?_
   simp only [Act.put, pu]
   refine mx_new 25 rfl _ zero_nat ?_
   simp only [Act.put, pu]
   refine mx_put 15 25 _ _ rfl rfl rfl (natC X) rfl (by exact size_nat) (by simp only [natC_size]) (natC_one _) ?_
   simp only [Act.put]
   refine mx_asg rfl rfl ?_
   simp only [Act.put, pu]
   refine mx_end ?_
   intro w3 hkw hrw hnew hdis
   have n8 := hnew 7 rfl
   have zr8 : Row w3 (p 7) (natC X) 25 := hrw 15 (25, natC X) rfl
   have d3x8 := Nat.lt_of_lt_of_le r3.lt n8
   have d5x8 := Nat.lt_of_lt_of_le r5.lt n8
   have d6x8 := Nat.lt_of_lt_of_le r6.lt n8
   replace r3 := hkw.row r3 (by simp <;> omega)
   replace r5 := hkw.row r5 (by simp <;> omega)
   replace r6 := hkw.row r6 (by simp <;> omega)
   have b8 := Nat.le_trans sb.size n8
   replace sb := sb.trans (hkw.below w.heap.size sb.size (by simp <;> omega))
   clear hkw hrw hnew hdis n8
   generalize p 7 = g8 at *
   have r8 := zr8
   clear zr8
   (repeat ((fail_if_success with_reducible refine rg ?_); go_step))
   apply wp_region_mixp [] [_, _] trivial List.nodup_nil
   ·intro p
    refine mx_move rfl rfl ?_
    simp only [Act.put, pu]
    refine mx_val (.bool false) (exec_neq_i _ _ _ _ rfl 0 0 rfl rfl) ?_
    simp only [Act.put, pu]
    refine mx_end ?_
    intro w4 hkw hrw hnew hdis
    replace r3 := hkw.row r3 (by simp <;> omega)
    replace r5 := hkw.row r5 (by simp <;> omega)
    replace r6 := hkw.row r6 (by simp <;> omega)
    replace r8 := hkw.row r8 (by simp <;> omega)
    replace sb := sb.trans (hkw.below w.heap.size sb.size (by simp <;> omega))
    clear hkw hrw hnew hdis
    (repeat ((fail_if_success with_reducible refine rg ?_); go_step))
    apply wp_region_mixp [] [_, _, _, _, _, _, _, _, _] trivial List.nodup_nil
    ·intro p
     refine mx_load 25 _ rfl _ rfl r5 (by simp <;> omega) 4 _ Try.underlying25 size_nat ?_
     simp only [Act.put, pu]
     refine mx_load 25 _ rfl _ rfl r8 (by simp <;> omega) 4 _ Try.underlying25 size_nat ?_
     simp only [Act.put, pu]
     refine mx_call 87 _ _ rfl Try.func87 (by kernel_rfl) #[.agg (natC M), .agg (natC X)] rfl _ hsu ?_
     simp only [Act.put, pu]
     refine mx_move rfl rfl ?_
     simp only [Act.put, pu]
     refine mx_ext rfl rfl rfl ?_
     simp only [Act.put, pu]
     refine mx_ext rfl rfl rfl ?_
     simp only [Act.put, pu]
     refine mx_new 25 rfl _ zero_nat ?_
     simp only [Act.put, pu]
     refine mx_put 13 25 _ _ rfl rfl rfl (natC D) rfl (by exact size_nat) (by simp only [natC_size]) (natC_one _) ?_
     simp only [Act.put]
     refine mx_asg rfl rfl ?_
     simp only [Act.put, pu]
     refine mx_end ?_
     intro w5 hkw hrw hnew hdis
     have n10 := hnew 6 rfl
     have zr10 : Row w5 (p 6) (natC D) 25 := hrw 13 (25, natC D) rfl
     have d3x10 := Nat.lt_of_lt_of_le r3.lt n10
     have d5x10 := Nat.lt_of_lt_of_le r5.lt n10
     have d6x10 := Nat.lt_of_lt_of_le r6.lt n10
     replace r3 := hkw.row r3 (by simp <;> omega)
     replace r5 := hkw.row r5 (by simp <;> omega)
     replace r6 := hkw.row r6 (by simp <;> omega)
     have b10 := Nat.le_trans sb.size n10
     replace sb := sb.trans (hkw.below w.heap.size sb.size (by simp <;> omega))
     clear hkw hrw hnew hdis n10
     generalize p 6 = g10 at *
     have r10 := zr10
     clear zr10
     (repeat ((fail_if_success with_reducible refine rg ?_); go_step))
     apply wp_region_mixp [(g6, 25, natC 0)] [_, _, _, _, _, _, _, _] ⟨r6, trivial⟩ (by simp <;> omega)
     ·intro p
      refine mx_load 25 _ rfl _ rfl r3 (by simp <;> omega) 4 _ Try.underlying25 size_nat ?_
      simp only [Act.put, pu]
      refine mx_load 25 _ rfl _ rfl r10 (by simp <;> omega) 4 _ Try.underlying25 size_nat ?_
      simp only [Act.put, pu]
      refine mx_load 25 _ rfl _ rfl r5 (by simp <;> omega) 4 _ Try.underlying25 size_nat ?_
      simp only [Act.put, pu]
      refine mx_call 106 _ _ rfl Try.func106 (by kernel_rfl) #[.agg (natC A), .agg (natC D), .agg (natC M)] rfl _ had ?_
      simp only [Act.put, pu]
      refine mx_ext rfl rfl rfl ?_
      simp only [Act.put, pu]
      refine mx_ext rfl rfl rfl ?_
      simp only [Act.put, pu]
      refine mx_put 0 25 _ _ rfl rfl rfl (natC R) rfl (by exact size_nat) (by simp only [natC_size]) (natC_one _) ?_
      simp only [Act.put]
      refine mx_asg rfl rfl ?_
      simp only [Act.put, pu]
      refine mx_end ?_
      intro w6 hkw hrw hnew hdis
      have zr6 : Row w6 (g6) (natC R) 25 := hrw 0 (25, natC R) rfl
      replace sb := sb.trans (hkw.below w.heap.size sb.size (by simp <;> omega))
      clear hkw hrw hnew hdis r6
      have r6 := zr6
      clear zr6
      go_wp2
      exact ret_row2 rfl _ rfl r6 4 _ Try.underlying25 (by exact size_nat) rfl _ rfl ⟨rfl, sb⟩
     ·rfl
    ·rfl
   ·rfl
  ·rfl
 ·rfl
theorem rsubmod_any (A B M : Nat) (w : World) (hA : A < 2 ^ 256) (hB : B < 2 ^ 256) (hM : M < 2 ^ 256) :
  Calls Try.prog 90 #[.agg (natC A), .agg (natC B), .agg (natC M)] w fun e w' => e = .returned (.tuple #[.agg (natC (subZ A B M)), .int .i64 (errI M)]) ∧ Below w.heap.size w w' := by
 rcases Nat.eq_zero_or_pos M with h0 | h0
 ·unfold subZ errI
  rw [if_pos h0, if_pos h0]
  exact rsubmod_zero A B M w fun w' => rrem_zero B 0 M w' h0
 ·have hlt := Nat.mod_lt B h0
  refine rsubmod_more A B M (B % M) (M - B % M) _ (bN M (B % M) 256) _ w (fun w' => ?_) (fun w' => ?_) (fun w' => ?_)
  ·have := rrem_more B 0 M w' hB (by decide) h0 hM
   rw [Nat.mul_zero, Nat.add_zero] at this
   exact this
  ·have := rsub_any M (B % M) w' hM (by omega)
   rw [sub_far M (B % M) (by omega) hM] at this
   exact this
  ·have h1 : modZ (A + (M - B % M)) M = subZ A B M := by
    unfold modZ subZ
    rw [if_neg (by omega), if_neg (by omega), Nat.add_mod (A % M), Nat.mod_mod, ← Nat.add_mod]
   rw [← h1]
   exact raddmod_any A (M - B % M) M w' hA (by omega) hM
/-- What Euclid's way holds behind i steps. -/
def Eu (i x y : Nat) : Prop := i = 0 ∨ (y < x ∧ x * y * 2 ^ i < 2 * (2 ^ 256 * 2 ^ 256))
theorem eu_next (i x y : Nat) (hy : y < 2 ^ 256) (h0 : 0 < y) (h : Eu i x y) : Eu (i + 1) y (x % y) := by
 have hr := Nat.mod_lt x h0
 refine .inr ⟨hr, ?_⟩
 rcases h with rfl | ⟨h1, h2⟩
 ·have : y * (x % y) ≤ 2 ^ 256 * (2 ^ 256 - 1) := Nat.mul_le_mul (by omega) (by omega)
  omega
 ·have h3 : 1 ≤ x / y := (Nat.le_div_iff_mul_le h0).2 (by omega)
  have h4 := Nat.div_add_mod x y
  have h5 : y * 1 ≤ y * (x / y) := Nat.mul_le_mul_left _ h3
  have h6 : y * (x % y * 2) ≤ y * x := Nat.mul_le_mul_left _ (by omega)
  have h7 : y * (x % y) * 2 ^ (i + 1) ≤ x * y * 2 ^ i := by
   rw [Nat.pow_succ, Nat.mul_comm (2 ^ i) 2, ← Nat.mul_assoc, Nat.mul_assoc y, Nat.mul_comm x y]
   exact Nat.mul_le_mul_right _ h6
  omega
theorem eu_far (n m i x y : Nat) (hi : i = n + m) (h0 : 0 < i) (h : i = 0 ∨ (y < x ∧ x * y * 2 ^ i < 2 * (2 ^ n * 2 ^ m))) : y = 0 := by
 rcases h with h | ⟨h1, h2⟩
 ·omega
 ·rcases Nat.eq_zero_or_pos y with h3 | h3
  ·exact h3
  ·subst hi
   rw [← Nat.pow_add] at h2
   have h4 : 2 * 1 ≤ x * y := Nat.mul_le_mul (by omega) (by omega)
   have h5 : 2 * 2 ^ (n + m) ≤ x * y * 2 ^ (n + m) := Nat.mul_le_mul_right _ (by omega)
   omega
theorem eu_end (x y : Nat) (h : Eu 512 x y) : y = 0 := eu_far 256 256 512 x y rfl (by decide) h
/-- The rows that Gcd holds on to. -/
structure GcdH (wr w : World) (g4 g5 g6 x y : Nat) : Prop where
 z : Row wr g4 (natC 0) 25
 x : Row wr g5 (natC x) 25
 y : Row wr g6 (natC y) 25
 below : Below w.heap.size w wr
set_option maxRecDepth 100000 in
set_option maxHeartbeats 1000000 in
theorem rgcd_any (A B : Nat) (w : World) (hA : A < 2 ^ 256) (hB : B < 2 ^ 256) :
  Calls Try.prog 91 #[.agg (natC A), .agg (natC B)] w fun e w' => e = .returned (.agg (natC (Nat.gcd A B))) ∧ Below w.heap.size w w' := by
 have H : Hid (A < 2 ^ 256 ∧ B < 2 ^ 256) := ⟨hA, hB⟩
 clear hA hB
 go_enter Try.func91, Try.ntmps91
 (repeat ((fail_if_success with_reducible refine rg ?_); go_step))
 apply wp_region_mixp [] [_, _, _] trivial List.nodup_nil
 ·intro p
  refine mx_box 25 _ rfl _ rfl ?_
  simp only [Act.put, pu]
  refine mx_box 25 _ rfl _ rfl ?_
  simp only [Act.put, pu]
  refine mx_new 25 rfl _ zero_nat ?_
  simp only [Act.put, pu]
  refine mx_end ?_
  intro w2 hkw hrw hnew hdis
  have n2 := hnew 0 rfl
  have n3 := hnew 1 rfl
  have n4 := hnew 2 rfl
  have zr2 : Row w2 (p 0) (natC A) 25 := hrw 1 (25, natC A) rfl
  have zr3 : Row w2 (p 1) (natC B) 25 := hrw 3 (25, natC B) rfl
  have zr4 : Row w2 (p 2) (natC 0) 25 := hrw 5 (25, natC 0) rfl
  have d2x3 := hdis 0 1 (by omega) rfl rfl
  have d2x4 := hdis 0 2 (by omega) rfl rfl
  have d3x4 := hdis 1 2 (by omega) rfl rfl
  have sb := hkw.below w.heap.size (Nat.le_refl _) (by simp)
  have b2 : w.heap.size ≤ p 0 := n2
  have b3 : w.heap.size ≤ p 1 := n3
  have b4 : w.heap.size ≤ p 2 := n4
  clear hkw hrw hnew hdis n2 n3 n4
  generalize p 0 = g2 at *
  generalize p 1 = g3 at *
  generalize p 2 = g4 at *
  have r2 := zr2
  clear zr2
  have r3 := zr3
  clear zr3
  have r4 := zr4
  clear zr4
  (repeat ((fail_if_success with_reducible refine rg ?_); go_step))
  apply wp_region_mix (by kernel_rfl) [] [_, _, _, _, _, _] trivial List.nodup_nil
  ·intro p
   refine mx_load 25 _ rfl _ rfl r2 (by simp <;> omega) 4 _ Try.underlying25 size_nat ?_
   simp only [Act.put, pu]
   refine mx_load 25 _ rfl _ rfl r3 (by simp <;> omega) 4 _ Try.underlying25 size_nat ?_
   simp only [Act.put, pu]
   refine mx_new 25 rfl _ zero_nat ?_
   simp only [Act.put, pu]
   refine mx_new 25 rfl _ zero_nat ?_
   simp only [Act.put, pu]
   refine mx_put 5 25 _ _ rfl rfl rfl (natC A) rfl (by exact size_nat) (by simp only [natC_size]) (natC_one _) ?_
   simp only [Act.put]
   refine mx_put 7 25 _ _ rfl rfl rfl (natC B) rfl (by exact size_nat) (by simp only [natC_size]) (natC_one _) ?_
   simp only [Act.put]
   refine mx_end ?_
   intro w3 hkw hrw hnew hdis
   have n5 := hnew 2 rfl
   have n6 := hnew 3 rfl
   have zr5 : Row w3 (p 2) (natC A) 25 := hrw 5 (25, natC A) rfl
   have zr6 : Row w3 (p 3) (natC B) 25 := hrw 7 (25, natC B) rfl
   have d4x5 := Nat.lt_of_lt_of_le r4.lt n5
   have d4x6 := Nat.lt_of_lt_of_le r4.lt n6
   have d5x6 := hdis 2 3 (by omega) rfl rfl
   replace r4 := hkw.row r4 (by simp <;> omega)
   have b5 := Nat.le_trans sb.size n5
   have b6 := Nat.le_trans sb.size n6
   replace sb := sb.trans (hkw.below w.heap.size sb.size (by simp <;> omega))
   clear hkw hrw hnew hdis n5 n6
   generalize p 2 = g5 at *
   generalize p 3 = g6 at *
   have r5 := zr5
   clear zr5
   have r6 := zr6
   clear zr6
   have H0 : GcdH w3 w g4 g5 g6 A B := ⟨r4, r5, r6, sb⟩
   have HX : Hid (g4 ≠ g5 ∧ g4 ≠ g6 ∧ g5 ≠ g6 ∧ w.heap.size ≤ g4 ∧ w.heap.size ≤ g5 ∧ w.heap.size ≤ g6) := ⟨by omega, by omega, d5x6, b4, b5, b6⟩
   clear r4 r5 r6 sb d4x5 d4x6 d5x6 d2x3 d2x4 d3x4 b2 b3 b4 b5 b6
   go_wp2_with fail
   go_loopg [7] 512 (fun g s7 wr => ∃ i x y : Nat, i + g = 512 ∧ s7 = .int .i64 i ∧ x < 2 ^ 256 ∧ y < 2 ^ 256 ∧ Eu i x y ∧ Nat.gcd x y = Nat.gcd A B ∧ GcdH wr w g4 g5 g6 x y)
   case atStart => exact ⟨0, A, B, by omega, rfl, H.out.1, H.out.2, .inl rfl, rfl, H0⟩
   case round =>
    obtain ⟨i, x, y, hi, rfl, hx, hy, hE, hg, hH⟩ := hrel
    obtain ⟨x1, x2, x3, x4, x5, x6⟩ := HX.out
    clear H0 HX H
    have r4 := hH.z
    have r5 := hH.x
    have r6 := hH.y
    have sb := hH.below
    clear hH
    cases gk with
    | zero =>
     obtain rfl : i = 512 := by omega
     have hy0 := eu_end x y hE
     have HG : Hid (Nat.gcd A B = x) := by show _ = _; rw [← hg, hy0, Nat.gcd_zero_right]
     clear hi hx hy hE hg hy0
     have hx : ¬ ((512 : Int) < 512) := by omega
     go_wp2_with (first
      | refine wpList_loadR rfl 25 _ rfl _ rfl r5 4 _ Try.underlying25 (by exact size_nat) ?_
      | refine wpList_storeR rfl 25 _ _ rfl _ _ rfl rfl r4 (by exact size_nat) (by simp only [natC_size]) (natC_one _) ?_)
     exact ret_row rfl _ rfl (r4.setRow (natC x)) 4 _ Try.underlying25 (by exact size_nat) rfl ⟨by rw [HG.out], below_setRow sb x4 _⟩
    | succ g =>
     have hlt : (i : Int) < 512 := by omega
     rcases Nat.eq_zero_or_pos y with rfl | h0
     ·have HG : Hid (Nat.gcd A B = x) := by show _ = _; rw [← hg, Nat.gcd_zero_right]
      clear hi hx hy hE hg
      go_wp2_with (first
       | refine wpList_loadRg (by rfl) 25 _ rfl _ rfl r6 4 _ Try.underlying25 (by exact size_nat) ?_
       | refine wpList_valueg (by rfl) (.agg (natC 0)) (exec_build0 25 rfl _ built_nat _) ?_
       | refine wpList_valueg (by rfl) (.bool false) ((exec_neq_nat _ _ _ rfl 0 0 rfl rfl _).trans (by simp)) ?_
       | refine wpList_loadR rfl 25 _ rfl _ rfl r5 4 _ Try.underlying25 (by exact size_nat) ?_
       | refine wpList_storeR rfl 25 _ _ rfl _ _ rfl rfl r4 (by exact size_nat) (by simp only [natC_size]) (natC_one _) ?_)
      exact ret_row rfl _ rfl (r4.setRow (natC x)) 4 _ Try.underlying25 (by exact size_nat) rfl ⟨by rw [HG.out], below_setRow sb x4 _⟩
     ·have hdi := fun w' => rdiv_more x y w' hx h0 hy
      have hlt' := Nat.mod_lt x h0
      have HN : Hid (Eu (i + 1) y (x % y) ∧ x % y < 2 ^ 256 ∧ Nat.gcd y (x % y) = Nat.gcd A B) := ⟨eu_next i x y hy h0 hE, by omega, by rw [gcd_turn]; exact hg⟩
      have HV : Hid ((!decide (y % 2 ^ 256 = 0 % 2 ^ 256)) = true) := by
       show _ = _
       rw [eqz_false (by omega) hy]; rfl
      have HY : Hid (y < 2 ^ 256 ∧ i + (g + 1) = 512) := ⟨hy, hi⟩
      clear hi hx hy hE hg h0 hlt'
      generalize x % y = z at *
      generalize x / y = q at *
      (repeat ((fail_if_success with_reducible refine rg ?_); go_step))
      refine wp_region_qp ?_
      refine qw_move (by rfl) rfl rfl ?_
      simp only [Act.put, pu]
      refine qw_value (by rfl) (.bool true) (fun w' => (exec_lss_i _ _ _ _ rfl i 512 rfl rfl w').trans (by rw [decide_eq_true hlt])) ?_
      simp only [Act.put, pu]
      refine qw_move (by rfl) rfl rfl ?_
      simp only [Act.put, pu]
      refine qw_load (by rfl) 25 _ rfl _ rfl r6 4 _ Try.underlying25 size_nat ?_
      simp only [Act.put, pu]
      refine qw_value (by rfl) (.agg (natC 0)) (exec_build0 25 rfl _ built_nat) ?_
      simp only [Act.put, pu]
      refine qw_value (by rfl) (.bool true) (fun w' => (exec_neq_nat _ _ _ rfl y 0 rfl rfl w').trans (by rw [HV.out])) ?_
      simp only [Act.put, pu]
      refine qw_pick true (v := .bool true) (by rfl) rfl rfl rfl ?_
      simp only [Act.put, pu]
      refine qw_nil ?_
      intro w5 hqb
      replace r4 := r4.belowAll hqb
      replace r5 := r5.belowAll hqb
      replace r6 := r6.belowAll hqb
      replace sb := below_on sb (Nat.le_refl _) hqb
      clear hqb
      (repeat ((fail_if_success with_reducible refine rg ?_); go_step))
      apply wp_region_mixp [] [_, _, _, _, _, _, _, _, _, _, _, _] trivial List.nodup_nil
      ·intro p
       refine mx_load 25 _ rfl _ rfl r5 (by simp <;> omega) 4 _ Try.underlying25 size_nat ?_
       simp only [Act.put, pu]
       refine mx_load 25 _ rfl _ rfl r6 (by simp <;> omega) 4 _ Try.underlying25 size_nat ?_
       simp only [Act.put, pu]
       refine mx_call 88 _ _ rfl Try.func88 (by kernel_rfl) #[.agg (natC x), .agg (natC y)] rfl _ hdi ?_
       simp only [Act.put, pu]
       refine mx_move rfl rfl ?_
       simp only [Act.put, pu]
       refine mx_ext rfl rfl rfl ?_
       simp only [Act.put, pu]
       refine mx_ext rfl rfl rfl ?_
       simp only [Act.put, pu]
       refine mx_ext rfl rfl rfl ?_
       simp only [Act.put, pu]
       refine mx_new 25 rfl _ zero_nat ?_
       simp only [Act.put, pu]
       refine mx_new 25 rfl _ zero_nat ?_
       simp only [Act.put, pu]
       refine mx_put 15 25 _ _ rfl rfl rfl (natC q) rfl (by exact size_nat) (by simp only [natC_size]) (natC_one _) ?_
       simp only [Act.put]
       refine mx_put 17 25 _ _ rfl rfl rfl (natC z) rfl (by exact size_nat) (by simp only [natC_size]) (natC_one _) ?_
       simp only [Act.put]
       refine mx_asg rfl rfl ?_
       simp only [Act.put, pu]
       refine mx_end ?_
       intro w6 hkw hrw hnew hdis
       have n8 := hnew 7 rfl
       have n9 := hnew 8 rfl
       have zr8 : Row w6 (p 7) (natC q) 25 := hrw 15 (25, natC q) rfl
       have zr9 : Row w6 (p 8) (natC z) 25 := hrw 17 (25, natC z) rfl
       have d4x8 := Nat.lt_of_lt_of_le r4.lt n8
       have d4x9 := Nat.lt_of_lt_of_le r4.lt n9
       have d5x8 := Nat.lt_of_lt_of_le r5.lt n8
       have d5x9 := Nat.lt_of_lt_of_le r5.lt n9
       have d6x8 := Nat.lt_of_lt_of_le r6.lt n8
       have d6x9 := Nat.lt_of_lt_of_le r6.lt n9
       have d8x9 := hdis 7 8 (by omega) rfl rfl
       replace r4 := hkw.row r4 (by simp <;> omega)
       replace r5 := hkw.row r5 (by simp <;> omega)
       replace r6 := hkw.row r6 (by simp <;> omega)
       have b8 := Nat.le_trans sb.size n8
       have b9 := Nat.le_trans sb.size n9
       replace sb := sb.trans (hkw.below w.heap.size sb.size (by simp <;> omega))
       clear hkw hrw hnew hdis n8 n9
       generalize p 7 = g8 at *
       generalize p 8 = g9 at *
       have r8 := zr8
       clear zr8
       have r9 := zr9
       clear zr9
       (repeat ((fail_if_success with_reducible refine rg ?_); go_step))
       apply wp_region_mixp [(g5, 25, natC x)] [_, _] ⟨r5, trivial⟩ (by simp <;> omega)
       ·intro p
        refine mx_load 25 _ rfl _ rfl r6 (by simp <;> omega) 4 _ Try.underlying25 size_nat ?_
        simp only [Act.put, pu]
        refine mx_put 0 25 _ _ rfl rfl rfl (natC y) rfl (by exact size_nat) (by simp only [natC_size]) (natC_one _) ?_
        simp only [Act.put]
        refine mx_end ?_
        intro w7 hkw hrw hnew hdis
        have zr5 : Row w7 (g5) (natC y) 25 := hrw 0 (25, natC y) rfl
        replace r4 := hkw.row r4 (by simp <;> omega)
        replace r6 := hkw.row r6 (by simp <;> omega)
        replace r9 := hkw.row r9 (by simp <;> omega)
        replace sb := sb.trans (hkw.below w.heap.size sb.size (by simp <;> omega))
        clear hkw hrw hnew hdis r5
        have r5 := zr5
        clear zr5
        (repeat ((fail_if_success with_reducible refine rg ?_); go_step))
        apply wp_region_mixp [(g6, 25, natC y)] [_, _] ⟨r6, trivial⟩ (by simp <;> omega)
        ·intro p
         refine mx_load 25 _ rfl _ rfl r9 (by simp <;> omega) 4 _ Try.underlying25 size_nat ?_
         simp only [Act.put, pu]
         refine mx_put 0 25 _ _ rfl rfl rfl (natC z) rfl (by exact size_nat) (by simp only [natC_size]) (natC_one _) ?_
         simp only [Act.put]
         refine mx_end ?_
         intro w8 hkw hrw hnew hdis
         have zr6 : Row w8 (g6) (natC z) 25 := hrw 0 (25, natC z) rfl
         replace r4 := hkw.row r4 (by simp <;> omega)
         replace r5 := hkw.row r5 (by simp <;> omega)
         replace sb := sb.trans (hkw.below w.heap.size sb.size (by simp <;> omega))
         clear hkw hrw hnew hdis r6
         have r6 := zr6
         clear zr6
         have H9 : GcdH w8 w g4 g5 g6 y z := ⟨r4, r5, r6, sb⟩
         clear r4 r5 r6 sb
         go_wp2
         go_roundg g
         case measure => omega
         case rel =>
          obtain ⟨n1, n2, n3⟩ := HN.out
          obtain ⟨y1, y2⟩ := HY.out
          exact ⟨i + 1, y, z, by omega, by go_num, y1, n2, n1, n3, H9⟩
        ·rfl
       ·rfl
      ·rfl
  ·kernel_rfl
 ·rfl
end Go.Proofs.Ytbmkebdfaokmhaa
