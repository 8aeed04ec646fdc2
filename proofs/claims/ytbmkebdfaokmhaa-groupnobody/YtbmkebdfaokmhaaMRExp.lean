/- The document's Exp: a power by any natural. -/
import Derived.Test.YtbmkebdfaokmhaaMPow
namespace Go.Proofs.Ytbmkebdfaokmhaa
open Go.RowKit
theorem low_small (M : Nat) (h : M < 9223372036854775808) : lowI M = (M : Int) ∧ lowB M = true := by
 unfold lowI lowB
 rw [if_pos h, decide_eq_true h]
 exact ⟨rfl, rfl⟩
theorem low_great (M : Nat) (h : ¬ M < 9223372036854775808) : lowI M = 0 ∧ lowB M = false := by
 unfold lowI lowB
 rw [if_neg h, decide_eq_false h]
 exact ⟨rfl, rfl⟩
set_option maxRecDepth 100000 in
set_option maxHeartbeats 2000000 in
theorem rexp_low (A E M R Z : Nat) (er : Int) (w : World) (h0 : 0 < M) (hM : M < 4611686018427387904)
  (hlo : ∀ w', Calls Try.prog 60 #[.agg (natC M)] w' fun e w2 => e = .returned (.tuple #[.int .i64 M, .bool true]) ∧ Below w'.heap.size w' w2)
  (hre : ∀ w', Calls Try.prog 29 #[.agg (natC A), .agg (natC 0), .agg (natC M)] w' fun e w2 => e = .returned (.tuple #[.agg (natC R), .int .i64 er]) ∧ Below w'.heap.size w' w2)
  (hlr : ∀ w', Calls Try.prog 60 #[.agg (natC R)] w' fun e w2 => e = .returned (.tuple #[.int .i64 R, .bool true]) ∧ Below w'.heap.size w' w2)
  (hpo : ∀ w', Calls Try.prog 63 #[.int .i64 R, .agg (natC E), .int .i64 M] w' fun e w2 => e = .returned (.int .i64 Z) ∧ Below w'.heap.size w' w2)
  (hin : ∀ w', Calls Try.prog 31 #[.int .i64 Z] w' fun e w2 => e = .returned (.agg (natC Z)) ∧ Below w'.heap.size w' w2) :
  Calls Try.prog 45 #[.agg (natC A), .agg (natC E), .agg (natC M)] w fun e w' => e = .returned (.agg (natC Z)) ∧ Below w.heap.size w w' := by
 go_enter Try.func45, Try.ntmps45
 (repeat ((fail_if_success with_reducible refine rg ?_); go_step))
 apply wp_region_mixp [] [_, _, _, _] trivial List.nodup_nil
 ·intro p
  refine mx_box 25 _ rfl _ rfl ?_
  simp only [Act.put, pu]
  refine mx_box 25 _ rfl _ rfl ?_
  simp only [Act.put, pu]
  refine mx_box 25 _ rfl _ rfl ?_
  simp only [Act.put, pu]
  refine mx_new 25 rfl _ zero_nat ?_
  simp only [Act.put, pu]
  refine mx_end ?_
  intro w2 hkw hrw hnew hdis
  have n3 := hnew 0 rfl
  have n4 := hnew 1 rfl
  have n5 := hnew 2 rfl
  have n6 := hnew 3 rfl
  have zr3 : Row w2 (p 0) (natC A) 25 := hrw 1 (25, natC A) rfl
  have zr4 : Row w2 (p 1) (natC E) 25 := hrw 3 (25, natC E) rfl
  have zr5 : Row w2 (p 2) (natC M) 25 := hrw 5 (25, natC M) rfl
  have zr6 : Row w2 (p 3) (natC 0) 25 := hrw 7 (25, natC 0) rfl
  have d3x4 := hdis 0 1 (by omega) rfl rfl
  have d3x5 := hdis 0 2 (by omega) rfl rfl
  have d3x6 := hdis 0 3 (by omega) rfl rfl
  have d4x5 := hdis 1 2 (by omega) rfl rfl
  have d4x6 := hdis 1 3 (by omega) rfl rfl
  have d5x6 := hdis 2 3 (by omega) rfl rfl
  have sb := hkw.below w.heap.size (Nat.le_refl _) (by simp)
  have b3 : w.heap.size ≤ p 0 := n3
  have b4 : w.heap.size ≤ p 1 := n4
  have b5 : w.heap.size ≤ p 2 := n5
  have b6 : w.heap.size ≤ p 3 := n6
  clear hkw hrw hnew hdis n3 n4 n5 n6
  generalize p 0 = g3 at *
  generalize p 1 = g4 at *
  generalize p 2 = g5 at *
  generalize p 3 = g6 at *
  have r3 := zr3
  clear zr3
  have r4 := zr4
  clear zr4
  have r5 := zr5
  clear zr5
  have r6 := zr6
  clear zr6
  (repeat ((fail_if_success with_reducible refine rg ?_); go_step))
  apply wp_region_mixp [] [_, _, _, _, _, _, _] trivial List.nodup_nil
  ·intro p
   refine mx_load 25 _ rfl _ rfl r5 (by simp <;> omega) 4 _ Try.underlying25 size_nat ?_
   simp only [Act.put, pu]
   refine mx_call 60 _ _ rfl Try.func60 (by kernel_rfl) #[.agg (natC M)] rfl _ hlo ?_
   simp only [Act.put, pu]
   refine mx_move rfl rfl ?_
   simp only [Act.put, pu]
   refine mx_ext rfl rfl rfl ?_
   simp only [Act.put, pu]
   refine mx_ext rfl rfl rfl ?_
   simp only [Act.put, pu]
   refine mx_asg rfl rfl ?_
   simp only [Act.put, pu]
   refine mx_asg rfl rfl ?_
   simp only [Act.put, pu]
   refine mx_end ?_
   intro w3 hkw hrw hnew hdis
   replace r3 := hkw.row r3 (by simp <;> omega)
   replace r4 := hkw.row r4 (by simp <;> omega)
   replace r5 := hkw.row r5 (by simp <;> omega)
   replace r6 := hkw.row r6 (by simp <;> omega)
   replace sb := sb.trans (hkw.below w.heap.size sb.size (by simp <;> omega))
   clear hkw hrw hnew hdis
   (repeat ((fail_if_success with_reducible refine rg ?_); go_step))
   refine wp_region_qp ?_
   refine qw_move (by rfl) rfl rfl ?_
   simp only [Act.put, pu]
   refine qw_move (by rfl) rfl rfl ?_
   simp only [Act.put, pu]
   refine qw_move (by rfl) rfl rfl ?_
   simp only [Act.put, pu]
   refine qw_value (by rfl) (.bool true) (fun w' => (exec_lt_i _ _ _ _ rfl M 4611686018427387904 rfl rfl w').trans (by rw [decide_eq_true (by omega)])) ?_
   simp only [Act.put, pu]
   refine qw_pick true (v := .bool true) (by rfl) rfl rfl rfl ?_
   simp only [Act.put, pu]
   refine qw_move (by rfl) rfl rfl ?_
   simp only [Act.put, pu]
   refine qw_move (by rfl) rfl rfl ?_
   simp only [Act.put, pu]
   refine qw_value (by rfl) (.bool true) (exec_gt_i _ _ _ _ rfl M 0 rfl rfl true (decide_eq_true (by omega))) ?_
   simp only [Act.put, pu]
   refine qw_pick true (v := .bool true) (by rfl) rfl rfl rfl ?_
   simp only [Act.put, pu]
   refine qw_nil ?_
   intro w4 hqb
   replace r3 := r3.belowAll hqb
   replace r4 := r4.belowAll hqb
   replace r5 := r5.belowAll hqb
   replace r6 := r6.belowAll hqb
   replace sb := below_on sb (Nat.le_refl _) hqb
   clear hqb
   (repeat ((fail_if_success with_reducible refine rg ?_); go_step))
   apply wp_region_mixp [] [_, _, _, _, _, _, _, _, _, _] trivial List.nodup_nil
   ·intro p
    refine mx_load 25 _ rfl _ rfl r3 (by simp <;> omega) 4 _ Try.underlying25 size_nat ?_
    simp only [Act.put, pu]
    refine mx_val (.agg (natC 0)) (exec_build0 25 rfl _ built_nat) ?_
    simp only [Act.put, pu]
    refine mx_load 25 _ rfl _ rfl r5 (by simp <;> omega) 4 _ Try.underlying25 size_nat ?_
    simp only [Act.put, pu]
    refine mx_call 29 _ _ rfl Try.func29 (by kernel_rfl) #[.agg (natC A), .agg (natC 0), .agg (natC M)] rfl _ hre ?_
    simp only [Act.put, pu]
    refine mx_move rfl rfl ?_
    simp only [Act.put, pu]
    refine mx_ext rfl rfl rfl ?_
    simp only [Act.put, pu]
    refine mx_ext rfl rfl rfl ?_
    simp only [Act.put, pu]
    refine mx_new 25 rfl _ zero_nat ?_
    simp only [Act.put, pu]
    refine mx_put 15 25 _ _ rfl rfl rfl (natC R) rfl (by exact size_nat) (by simp only [natC_size]) (natC_one _) ?_
    simp only [Act.put]
    refine mx_asg rfl rfl ?_
    simp only [Act.put, pu]
    refine mx_end ?_
    intro w5 hkw hrw hnew hdis
    have n9 := hnew 7 rfl
    have zr9 : Row w5 (p 7) (natC R) 25 := hrw 15 (25, natC R) rfl
    replace r4 := hkw.row r4 (by simp <;> omega)
    replace r6 := hkw.row r6 (by simp <;> omega)
    replace sb := sb.trans (hkw.below w.heap.size sb.size (by simp <;> omega))
    clear hkw hrw hnew hdis n9
    generalize p 7 = g9 at *
    have r9 := zr9
    clear zr9
    (repeat ((fail_if_success with_reducible refine rg ?_); go_step))
    apply wp_region_mixp [] [_, _, _, _, _, _, _] trivial List.nodup_nil
    ·intro p
     refine mx_load 25 _ rfl _ rfl r9 (by simp <;> omega) 4 _ Try.underlying25 size_nat ?_
     simp only [Act.put, pu]
     refine mx_call 60 _ _ rfl Try.func60 (by kernel_rfl) #[.agg (natC R)] rfl _ hlr ?_
     simp only [Act.put, pu]
     refine mx_move rfl rfl ?_
     simp only [Act.put, pu]
     refine mx_ext rfl rfl rfl ?_
     simp only [Act.put, pu]
     refine mx_ext rfl rfl rfl ?_
     simp only [Act.put, pu]
     refine mx_asg rfl rfl ?_
     simp only [Act.put, pu]
     refine mx_asg rfl rfl ?_
     simp only [Act.put, pu]
     refine mx_end ?_
     intro w6 hkw hrw hnew hdis
     replace r4 := hkw.row r4 (by simp <;> omega)
     replace r6 := hkw.row r6 (by simp <;> omega)
     replace sb := sb.trans (hkw.below w.heap.size sb.size (by simp <;> omega))
     clear hkw hrw hnew hdis
     (repeat ((fail_if_success with_reducible refine rg ?_); go_step))
     apply wp_region_mixp [(g6, 25, natC 0)] [_, _, _, _, _, _] ⟨r6, trivial⟩ (by simp <;> omega)
     ·intro p
      refine mx_move rfl rfl ?_
      simp only [Act.put, pu]
      refine mx_load 25 _ rfl _ rfl r4 (by simp <;> omega) 4 _ Try.underlying25 size_nat ?_
      simp only [Act.put, pu]
      refine mx_move rfl rfl ?_
      simp only [Act.put, pu]
      refine mx_call 63 _ _ rfl Try.func63 (by kernel_rfl) #[.int .i64 R, .agg (natC E), .int .i64 M] rfl _ hpo ?_
      simp only [Act.put, pu]
      refine mx_call 31 _ _ rfl Try.func31 (by kernel_rfl) #[.int .i64 Z] rfl _ hin ?_
      simp only [Act.put, pu]
      refine mx_put 0 25 _ _ rfl rfl rfl (natC Z) rfl (by exact size_nat) (by simp only [natC_size]) (natC_one _) ?_
      simp only [Act.put]
      refine mx_end ?_
      intro w7 hkw hrw hnew hdis
      have zr6 : Row w7 (g6) (natC Z) 25 := hrw 0 (25, natC Z) rfl
      replace sb := sb.trans (hkw.below w.heap.size sb.size (by simp <;> omega))
      clear hkw hrw hnew hdis r6
      have r6 := zr6
      clear zr6
      go_wp2
      exact ret_row rfl _ rfl r6 4 _ Try.underlying25 (by exact size_nat) rfl ⟨rfl, sb⟩
     ·rfl
    ·rfl
   ·rfl
  ·rfl
 ·rfl
set_option maxRecDepth 100000 in
set_option maxHeartbeats 4000000 in
theorem rexp_mid (A E M : Nat) (w : World) (hA : A < 2 ^ 256) (hE : E < 2 ^ 256) (h0 : 0 < M) (hM : M < 2 ^ 256) (h1 : 4611686018427387904 ≤ M) (h2 : M < 9223372036854775808) :
  Calls Try.prog 45 #[.agg (natC A), .agg (natC E), .agg (natC M)] w fun e w' => e = .returned (.agg (natC (A ^ E % M))) ∧ Below w.heap.size w w' := by
 have hlo := fun w' => rlow_any M w' hM
 rw [(low_small M h2).1, (low_small M h2).2] at hlo
 have hle := fun w' => rlen_any E w' hE
 have hL := bitLen_to E 256 hE
 have o1 := fun w' => rint_any 1 w' (by decide)
 rw [show (1 : Int).toNat = 1 from rfl] at o1
 have hre := fun w' => rrem_any 1 0 M w' (by decide) (by decide) hM
 rw [show modZ (0 * 2 ^ 256 + 1) M = A ^ (E / 2 ^ bitLen E) % M by rw [← pw_start]; unfold modZ; rw [if_neg (by omega), Nat.zero_mul, Nat.zero_add]] at hre
 have HM : Hid (∀ z, z % M < 2 ^ 256) := fun z => Nat.lt_trans (Nat.mod_lt _ h0) hM
 have HA : Hid (A < 2 ^ 256) := hA
 have HT : Hid (∀ x y, x < 2 ^ 256 → y < 2 ^ 256 → ∀ w', Calls Try.prog 64 #[.agg (natC x), .agg (natC y), .agg (natC M)] w' fun e w2 => e = .returned (.tuple #[.agg (natC (x * y % M)), .int .i64 (errI M)]) ∧ Below w'.heap.size w' w2) := fun x y hx hy w' => by
  have := rmulmod_any x y M w' hx hy hM
  rw [show modZ (x * y) M = x * y % M by unfold modZ; rw [if_neg (by omega)]] at this
  exact this
 clear hE hA
 generalize bitLen E = BL at *
 go_enter Try.func45, Try.ntmps45
 (repeat ((fail_if_success with_reducible refine rg ?_); go_step))
 apply wp_region_mixp [] [_, _, _, _] trivial List.nodup_nil
 ·intro p
  refine mx_box 25 _ rfl _ rfl ?_
  simp only [Act.put, pu]
  refine mx_box 25 _ rfl _ rfl ?_
  simp only [Act.put, pu]
  refine mx_box 25 _ rfl _ rfl ?_
  simp only [Act.put, pu]
  refine mx_new 25 rfl _ zero_nat ?_
  simp only [Act.put, pu]
  refine mx_end ?_
  intro w2 hkw hrw hnew hdis
  have n3 := hnew 0 rfl
  have n4 := hnew 1 rfl
  have n5 := hnew 2 rfl
  have n6 := hnew 3 rfl
  have zr3 : Row w2 (p 0) (natC A) 25 := hrw 1 (25, natC A) rfl
  have zr4 : Row w2 (p 1) (natC E) 25 := hrw 3 (25, natC E) rfl
  have zr5 : Row w2 (p 2) (natC M) 25 := hrw 5 (25, natC M) rfl
  have zr6 : Row w2 (p 3) (natC 0) 25 := hrw 7 (25, natC 0) rfl
  have d3x4 := hdis 0 1 (by omega) rfl rfl
  have d3x5 := hdis 0 2 (by omega) rfl rfl
  have d3x6 := hdis 0 3 (by omega) rfl rfl
  have d4x5 := hdis 1 2 (by omega) rfl rfl
  have d4x6 := hdis 1 3 (by omega) rfl rfl
  have d5x6 := hdis 2 3 (by omega) rfl rfl
  have sb := hkw.below w.heap.size (Nat.le_refl _) (by simp)
  have b3 : w.heap.size ≤ p 0 := n3
  have b4 : w.heap.size ≤ p 1 := n4
  have b5 : w.heap.size ≤ p 2 := n5
  have b6 : w.heap.size ≤ p 3 := n6
  clear hkw hrw hnew hdis n3 n4 n5 n6
  generalize p 0 = g3 at *
  generalize p 1 = g4 at *
  generalize p 2 = g5 at *
  generalize p 3 = g6 at *
  have r3 := zr3
  clear zr3
  have r4 := zr4
  clear zr4
  have r5 := zr5
  clear zr5
  have r6 := zr6
  clear zr6
  (repeat ((fail_if_success with_reducible refine rg ?_); go_step))
  apply wp_region_mixp [] [_, _, _, _, _, _, _] trivial List.nodup_nil
  ·intro p
   refine mx_load 25 _ rfl _ rfl r5 (by simp <;> omega) 4 _ Try.underlying25 size_nat ?_
   simp only [Act.put, pu]
   refine mx_call 60 _ _ rfl Try.func60 (by kernel_rfl) #[.agg (natC M)] rfl _ hlo ?_
   simp only [Act.put, pu]
   refine mx_move rfl rfl ?_
   simp only [Act.put, pu]
   refine mx_ext rfl rfl rfl ?_
   simp only [Act.put, pu]
   refine mx_ext rfl rfl rfl ?_
   simp only [Act.put, pu]
   refine mx_asg rfl rfl ?_
   simp only [Act.put, pu]
   refine mx_asg rfl rfl ?_
   simp only [Act.put, pu]
   refine mx_end ?_
   intro w3 hkw hrw hnew hdis
   replace r3 := hkw.row r3 (by simp <;> omega)
   replace r4 := hkw.row r4 (by simp <;> omega)
   replace r5 := hkw.row r5 (by simp <;> omega)
   replace r6 := hkw.row r6 (by simp <;> omega)
   replace sb := sb.trans (hkw.below w.heap.size sb.size (by simp <;> omega))
   clear hkw hrw hnew hdis
   (repeat ((fail_if_success with_reducible refine rg ?_); go_step))
   refine wp_region_qp ?_
   refine qw_move (by rfl) rfl rfl ?_
   simp only [Act.put, pu]
   refine qw_move (by rfl) rfl rfl ?_
   simp only [Act.put, pu]
   refine qw_move (by rfl) rfl rfl ?_
   simp only [Act.put, pu]
   refine qw_value (by rfl) (.bool false) (fun w' => (exec_lt_i _ _ _ _ rfl M 4611686018427387904 rfl rfl w').trans (by rw [decide_eq_false (by omega)])) ?_
   simp only [Act.put, pu]
   refine qw_pick true (v := .bool false) (by rfl) rfl rfl rfl ?_
   simp only [Act.put, pu]
   refine qw_move (by rfl) rfl rfl ?_
   simp only [Act.put, pu]
   refine qw_skip (by rfl) ?_
   simp only [Act.put, pu]
   refine qw_skip (by rfl) ?_
   simp only [Act.put, pu]
   refine qw_pick false (v := .bool false) (by rfl) rfl rfl rfl ?_
   simp only [Act.put, pu]
   refine qw_nil ?_
   intro w4 hqb
   replace r3 := r3.belowAll hqb
   replace r4 := r4.belowAll hqb
   replace r5 := r5.belowAll hqb
   replace r6 := r6.belowAll hqb
   replace sb := below_on sb (Nat.le_refl _) hqb
   clear hqb
   (repeat ((fail_if_success with_reducible refine rg ?_); go_step))
   apply wp_region_mix (by kernel_rfl) [] [_, _, _, _, _, _, _, _, _, _] trivial List.nodup_nil
   ·intro p
    refine mx_call 31 _ _ rfl Try.func31 (by kernel_rfl) #[.int .i64 1] rfl _ o1 ?_
    simp only [Act.put, pu]
    refine mx_val (.agg (natC 0)) (exec_build0 25 rfl _ built_nat) ?_
    simp only [Act.put, pu]
    refine mx_load 25 _ rfl _ rfl r5 (by simp <;> omega) 4 _ Try.underlying25 size_nat ?_
    simp only [Act.put, pu]
    refine mx_call 29 _ _ rfl Try.func29 (by kernel_rfl) #[.agg (natC 1), .agg (natC 0), .agg (natC M)] rfl _ hre ?_
    simp only [Act.put, pu]
    refine mx_move rfl rfl ?_
    simp only [Act.put, pu]
    refine mx_ext rfl rfl rfl ?_
    simp only [Act.put, pu]
    refine mx_ext rfl rfl rfl ?_
    simp only [Act.put, pu]
    refine mx_new 25 rfl _ zero_nat ?_
    simp only [Act.put, pu]
    refine mx_put 15 25 _ _ rfl rfl rfl (natC (A ^ (E / 2 ^ BL) % M)) rfl (by exact size_nat) (by simp only [natC_size]) (natC_one _) ?_
    simp only [Act.put]
    refine mx_asg rfl rfl ?_
    simp only [Act.put, pu]
    refine mx_end ?_
    intro w5 hkw hrw hnew hdis
    have n13 := hnew 7 rfl
    have zr13 : Row w5 (p 7) (natC (A ^ (E / 2 ^ BL) % M)) 25 := hrw 15 (25, natC (A ^ (E / 2 ^ BL) % M)) rfl
    have d3x13 := Nat.lt_of_lt_of_le r3.lt n13
    have d4x13 := Nat.lt_of_lt_of_le r4.lt n13
    have d5x13 := Nat.lt_of_lt_of_le r5.lt n13
    have d6x13 := Nat.lt_of_lt_of_le r6.lt n13
    replace r3 := hkw.row r3 (by simp <;> omega)
    replace r4 := hkw.row r4 (by simp <;> omega)
    replace r5 := hkw.row r5 (by simp <;> omega)
    replace r6 := hkw.row r6 (by simp <;> omega)
    have b13 := Nat.le_trans sb.size n13
    replace sb := sb.trans (hkw.below w.heap.size sb.size (by simp <;> omega))
    clear hkw hrw hnew hdis n13
    generalize p 7 = g13 at *
    have r13 := zr13
    clear zr13
    (repeat ((fail_if_success with_reducible refine rg ?_); go_step))
    apply wp_region_mixp [] [_, _, _, _] trivial List.nodup_nil
    ·intro p
     refine mx_load 25 _ rfl _ rfl r4 (by simp <;> omega) 4 _ Try.underlying25 size_nat ?_
     simp only [Act.put, pu]
     refine mx_call 41 _ _ rfl Try.func41 (by kernel_rfl) #[.agg (natC E)] rfl _ hle ?_
     simp only [Act.put, pu]
     refine mx_val (.int .i64 ((BL : Int) - 1)) (exec_sub_ir _ _ _ _ rfl BL 1 _ rfl rfl (wrap_small _ (by omega) (by omega))) ?_
     simp only [Act.put, pu]
     refine mx_asg rfl rfl ?_
     simp only [Act.put, pu]
     refine mx_end ?_
     intro w6 hkw hrw hnew hdis
     replace r3 := hkw.row r3 (by simp <;> omega)
     replace r4 := hkw.row r4 (by simp <;> omega)
     replace r5 := hkw.row r5 (by simp <;> omega)
     replace r6 := hkw.row r6 (by simp <;> omega)
     replace r13 := hkw.row r13 (by simp <;> omega)
     replace sb := sb.trans (hkw.below w.heap.size sb.size (by simp <;> omega))
     clear hkw hrw hnew hdis
     clear hle hre o1 hlo
     go_wp2_with fail
     go_loopg [15] BL (fun g s15 wr => s15 = .int .i64 ((g : Int) - 1) ∧ g ≤ 256 ∧ Row wr g3 (natC A) 25 ∧ Row wr g4 (natC E) 25 ∧ Row wr g5 (natC M) 25 ∧ Row wr g6 (natC 0) 25 ∧ Row wr g13 (natC (A ^ (E / 2 ^ g) % M)) 25 ∧ Below w.heap.size w wr)
     case atStart => exact ⟨rfl, hL, r3, r4, r5, r6, r13, sb⟩
     case round =>
      clear r3 r4 r5 r6 r13 sb
      obtain ⟨rfl, hg, r3, r4, r5, r6, r13, sb⟩ := hrel
      cases gk with
      | zero =>
       rw [show A ^ (E / 2 ^ 0) % M = A ^ E % M by rw [Nat.pow_zero, Nat.div_one]] at r13
       (repeat ((fail_if_success with_reducible refine rg ?_); go_step))
       apply wp_region_mixp [] [_, _] trivial List.nodup_nil
       ·intro p
        refine mx_move rfl rfl ?_
        simp only [Act.put, pu]
        refine mx_val (.bool false) (exec_geq_i _ _ _ _ rfl ((0 : Nat) - 1 : Int) 0 rfl rfl false rfl) ?_
        simp only [Act.put, pu]
        refine mx_end ?_
        intro w7 hkw hrw hnew hdis
        replace r6 := hkw.row r6 (by simp <;> omega)
        replace r13 := hkw.row r13 (by simp <;> omega)
        replace sb := sb.trans (hkw.below w.heap.size sb.size (by simp <;> omega))
        clear hkw hrw hnew hdis
        (repeat ((fail_if_success with_reducible refine rg ?_); go_step))
        apply wp_region_mixp [(g6, 25, natC 0)] [_, _] ⟨r6, trivial⟩ (by simp <;> omega)
        ·intro p
         refine mx_load 25 _ rfl _ rfl r13 (by simp <;> omega) 4 _ Try.underlying25 size_nat ?_
         simp only [Act.put, pu]
         refine mx_put 0 25 _ _ rfl rfl rfl (natC (A ^ E % M)) rfl (by exact size_nat) (by simp only [natC_size]) (natC_one _) ?_
         simp only [Act.put]
         refine mx_end ?_
         intro w8 hkw hrw hnew hdis
         have zr6 : Row w8 (g6) (natC (A ^ E % M)) 25 := hrw 0 (25, natC (A ^ E % M)) rfl
         replace sb := sb.trans (hkw.below w.heap.size sb.size (by simp <;> omega))
         clear hkw hrw hnew hdis r6
         have r6 := zr6
         clear zr6
         go_wp2
         exact ret_row rfl _ rfl r6 4 _ Try.underlying25 (by exact size_nat) rfl ⟨rfl, sb⟩
        ·rfl
       ·rfl
      | succ g =>
       rw [show ((g + 1 : Nat) : Int) - 1 = (g : Int) by omega]
       have hsq := HT.out (A ^ (E / 2 ^ (g + 1)) % M) (A ^ (E / 2 ^ (g + 1)) % M) (HM.out _) (HM.out _)
       have hbi := fun w' => rbit_any E (g : Int) w'
       by_cases hb : E / 2 ^ g % 2 = 1
       ·rw [bitI_set E g (by omega) hb] at hbi
        have hta := HT.out (A ^ (E / 2 ^ (g + 1)) % M * (A ^ (E / 2 ^ (g + 1)) % M) % M) A (HM.out _) HA.out
        have HV : Hid (A ^ (E / 2 ^ (g + 1)) % M * (A ^ (E / 2 ^ (g + 1)) % M) % M * A % M = A ^ (E / 2 ^ g) % M) := pw_bit1 A E g M hb
        clear hb
        generalize A ^ (E / 2 ^ (g + 1)) % M = X at *
        generalize X * X % M = Y at *
        generalize Y * A % M = V at *
        (repeat ((fail_if_success with_reducible refine rg ?_); go_step))
        apply wp_region_mixp [] [_, _] trivial List.nodup_nil
        ·intro p
         refine mx_move rfl rfl ?_
         simp only [Act.put, pu]
         refine mx_val (.bool true) (exec_geq_i _ _ _ _ rfl g 0 rfl rfl true (decide_eq_true (by omega))) ?_
         simp only [Act.put, pu]
         refine mx_end ?_
         intro w9 hkw hrw hnew hdis
         replace r3 := hkw.row r3 (by simp <;> omega)
         replace r4 := hkw.row r4 (by simp <;> omega)
         replace r5 := hkw.row r5 (by simp <;> omega)
         replace r6 := hkw.row r6 (by simp <;> omega)
         replace r13 := hkw.row r13 (by simp <;> omega)
         replace sb := sb.trans (hkw.below w.heap.size sb.size (by simp <;> omega))
         clear hkw hrw hnew hdis
         (repeat ((fail_if_success with_reducible refine rg ?_); go_step))
         apply wp_region_mixp [] [_, _, _, _, _, _, _, _, _, _] trivial List.nodup_nil
         ·intro p
          refine mx_load 25 _ rfl _ rfl r13 (by simp <;> omega) 4 _ Try.underlying25 size_nat ?_
          simp only [Act.put, pu]
          refine mx_load 25 _ rfl _ rfl r13 (by simp <;> omega) 4 _ Try.underlying25 size_nat ?_
          simp only [Act.put, pu]
          refine mx_load 25 _ rfl _ rfl r5 (by simp <;> omega) 4 _ Try.underlying25 size_nat ?_
          simp only [Act.put, pu]
          refine mx_call 64 _ _ rfl Try.func64 (by kernel_rfl) #[.agg (natC X), .agg (natC X), .agg (natC M)] rfl _ hsq ?_
          simp only [Act.put, pu]
          refine mx_move rfl rfl ?_
          simp only [Act.put, pu]
          refine mx_ext rfl rfl rfl ?_
          simp only [Act.put, pu]
          refine mx_ext rfl rfl rfl ?_
          simp only [Act.put, pu]
          refine mx_new 25 rfl _ zero_nat ?_
          simp only [Act.put, pu]
          refine mx_put 15 25 _ _ rfl rfl rfl (natC Y) rfl (by exact size_nat) (by simp only [natC_size]) (natC_one _) ?_
          simp only [Act.put]
          refine mx_asg rfl rfl ?_
          simp only [Act.put, pu]
          refine mx_end ?_
          intro w10 hkw hrw hnew hdis
          have n16 := hnew 7 rfl
          have zr16 : Row w10 (p 7) (natC Y) 25 := hrw 15 (25, natC Y) rfl
          have d3x16 := Nat.lt_of_lt_of_le r3.lt n16
          have d4x16 := Nat.lt_of_lt_of_le r4.lt n16
          have d5x16 := Nat.lt_of_lt_of_le r5.lt n16
          have d6x16 := Nat.lt_of_lt_of_le r6.lt n16
          have d13x16 := Nat.lt_of_lt_of_le r13.lt n16
          replace r3 := hkw.row r3 (by simp <;> omega)
          replace r4 := hkw.row r4 (by simp <;> omega)
          replace r5 := hkw.row r5 (by simp <;> omega)
          replace r6 := hkw.row r6 (by simp <;> omega)
          replace r13 := hkw.row r13 (by simp <;> omega)
          have b16 := Nat.le_trans sb.size n16
          replace sb := sb.trans (hkw.below w.heap.size sb.size (by simp <;> omega))
          clear hkw hrw hnew hdis n16
          generalize p 7 = g16 at *
          have r16 := zr16
          clear zr16
          (repeat ((fail_if_success with_reducible refine rg ?_); go_step))
          apply wp_region_mixp [(g13, 25, natC X)] [_, _] ⟨r13, trivial⟩ (by simp <;> omega)
          ·intro p
           refine mx_load 25 _ rfl _ rfl r16 (by simp <;> omega) 4 _ Try.underlying25 size_nat ?_
           simp only [Act.put, pu]
           refine mx_put 0 25 _ _ rfl rfl rfl (natC Y) rfl (by exact size_nat) (by simp only [natC_size]) (natC_one _) ?_
           simp only [Act.put]
           refine mx_end ?_
           intro w11 hkw hrw hnew hdis
           have zr13 : Row w11 (g13) (natC Y) 25 := hrw 0 (25, natC Y) rfl
           replace r3 := hkw.row r3 (by simp <;> omega)
           replace r4 := hkw.row r4 (by simp <;> omega)
           replace r5 := hkw.row r5 (by simp <;> omega)
           replace r6 := hkw.row r6 (by simp <;> omega)
           replace sb := sb.trans (hkw.below w.heap.size sb.size (by simp <;> omega))
           clear hkw hrw hnew hdis r13
           have r13 := zr13
           clear zr13
           clear r16
           (repeat ((fail_if_success with_reducible refine rg ?_); go_step))
           apply wp_region_mixp [] [_, _, _, _] trivial List.nodup_nil
           ·intro p
            refine mx_load 25 _ rfl _ rfl r4 (by simp <;> omega) 4 _ Try.underlying25 size_nat ?_
            simp only [Act.put, pu]
            refine mx_move rfl rfl ?_
            simp only [Act.put, pu]
            refine mx_call 65 _ _ rfl Try.func65 (by kernel_rfl) #[.agg (natC E), .int .i64 (g : Nat)] rfl _ hbi ?_
            simp only [Act.put, pu]
            refine mx_val (.bool true) (exec_eql_k .i64 _ _ _ _ rfl 1 1 rfl rfl true rfl) ?_
            simp only [Act.put, pu]
            refine mx_end ?_
            intro w12 hkw hrw hnew hdis
            replace r3 := hkw.row r3 (by simp <;> omega)
            replace r4 := hkw.row r4 (by simp <;> omega)
            replace r5 := hkw.row r5 (by simp <;> omega)
            replace r6 := hkw.row r6 (by simp <;> omega)
            replace r13 := hkw.row r13 (by simp <;> omega)
            replace sb := sb.trans (hkw.below w.heap.size sb.size (by simp <;> omega))
            clear hkw hrw hnew hdis
            (repeat ((fail_if_success with_reducible refine rg ?_); go_step))
            apply wp_region_mixp [] [_, _, _, _, _, _, _, _, _, _] trivial List.nodup_nil
            ·intro p
             refine mx_load 25 _ rfl _ rfl r13 (by simp <;> omega) 4 _ Try.underlying25 size_nat ?_
             simp only [Act.put, pu]
             refine mx_load 25 _ rfl _ rfl r3 (by simp <;> omega) 4 _ Try.underlying25 size_nat ?_
             simp only [Act.put, pu]
             refine mx_load 25 _ rfl _ rfl r5 (by simp <;> omega) 4 _ Try.underlying25 size_nat ?_
             simp only [Act.put, pu]
             refine mx_call 64 _ _ rfl Try.func64 (by kernel_rfl) #[.agg (natC Y), .agg (natC A), .agg (natC M)] rfl _ hta ?_
             simp only [Act.put, pu]
             refine mx_move rfl rfl ?_
             simp only [Act.put, pu]
             refine mx_ext rfl rfl rfl ?_
             simp only [Act.put, pu]
             refine mx_ext rfl rfl rfl ?_
             simp only [Act.put, pu]
             refine mx_new 25 rfl _ zero_nat ?_
             simp only [Act.put, pu]
             refine mx_put 15 25 _ _ rfl rfl rfl (natC V) rfl (by exact size_nat) (by simp only [natC_size]) (natC_one _) ?_
             simp only [Act.put]
             refine mx_asg rfl rfl ?_
             simp only [Act.put, pu]
             refine mx_end ?_
             intro w13 hkw hrw hnew hdis
             have n18 := hnew 7 rfl
             have zr18 : Row w13 (p 7) (natC V) 25 := hrw 15 (25, natC V) rfl
             have d3x18 := Nat.lt_of_lt_of_le r3.lt n18
             have d4x18 := Nat.lt_of_lt_of_le r4.lt n18
             have d5x18 := Nat.lt_of_lt_of_le r5.lt n18
             have d6x18 := Nat.lt_of_lt_of_le r6.lt n18
             have d13x18 := Nat.lt_of_lt_of_le r13.lt n18
             replace r3 := hkw.row r3 (by simp <;> omega)
             replace r4 := hkw.row r4 (by simp <;> omega)
             replace r5 := hkw.row r5 (by simp <;> omega)
             replace r6 := hkw.row r6 (by simp <;> omega)
             replace r13 := hkw.row r13 (by simp <;> omega)
             have b18 := Nat.le_trans sb.size n18
             replace sb := sb.trans (hkw.below w.heap.size sb.size (by simp <;> omega))
             clear hkw hrw hnew hdis n18
             generalize p 7 = g18 at *
             have r18 := zr18
             clear zr18
             (repeat ((fail_if_success with_reducible refine rg ?_); go_step))
             apply wp_region_mixp [(g13, 25, natC Y)] [_, _] ⟨r13, trivial⟩ (by simp <;> omega)
             ·intro p
              refine mx_load 25 _ rfl _ rfl r18 (by simp <;> omega) 4 _ Try.underlying25 size_nat ?_
              simp only [Act.put, pu]
              refine mx_put 0 25 _ _ rfl rfl rfl (natC V) rfl (by exact size_nat) (by simp only [natC_size]) (natC_one _) ?_
              simp only [Act.put]
              refine mx_end ?_
              intro w14 hkw hrw hnew hdis
              have zr13 : Row w14 (g13) (natC V) 25 := hrw 0 (25, natC V) rfl
              replace r3 := hkw.row r3 (by simp <;> omega)
              replace r4 := hkw.row r4 (by simp <;> omega)
              replace r5 := hkw.row r5 (by simp <;> omega)
              replace r6 := hkw.row r6 (by simp <;> omega)
              replace sb := sb.trans (hkw.below w.heap.size sb.size (by simp <;> omega))
              clear hkw hrw hnew hdis r13
              have r13 := zr13
              clear zr13
              clear r18
              (repeat ((fail_if_success with_reducible refine rg ?_); go_step))
              apply wp_region_mixp [] [_, _, _] trivial List.nodup_nil
              ·intro p
               refine mx_move rfl rfl ?_
               simp only [Act.put, pu]
               refine mx_val (.int .i64 ((g : Int) - 1)) (exec_sub_ir _ _ _ _ rfl g 1 _ rfl rfl (wrap_small _ (by omega) (by omega))) ?_
               simp only [Act.put, pu]
               refine mx_asg rfl rfl ?_
               simp only [Act.put, pu]
               refine mx_end ?_
               intro w20 hkw hrw hnew hdis
               replace r3 := hkw.row r3 (by simp <;> omega)
               replace r4 := hkw.row r4 (by simp <;> omega)
               replace r5 := hkw.row r5 (by simp <;> omega)
               replace r6 := hkw.row r6 (by simp <;> omega)
               replace r13 := hkw.row r13 (by simp <;> omega)
               replace sb := sb.trans (hkw.below w.heap.size sb.size (by simp <;> omega))
               clear hkw hrw hnew hdis
               go_wp2
               go_roundg g
               case measure => omega
               case rel => exact ⟨rfl, by omega, r3, r4, r5, r6, by rw [← HV.out]; exact r13, sb⟩
              ·rfl
             ·rfl
            ·rfl
           ·rfl
          ·rfl
         ·rfl
        ·rfl
       ·rw [bitI_not E g hb] at hbi
        have HV : Hid (A ^ (E / 2 ^ (g + 1)) % M * (A ^ (E / 2 ^ (g + 1)) % M) % M = A ^ (E / 2 ^ g) % M) := pw_bit0 A E g M hb
        clear hb
        generalize A ^ (E / 2 ^ (g + 1)) % M = X at *
        generalize X * X % M = Y at *
        (repeat ((fail_if_success with_reducible refine rg ?_); go_step))
        apply wp_region_mixp [] [_, _] trivial List.nodup_nil
        ·intro p
         refine mx_move rfl rfl ?_
         simp only [Act.put, pu]
         refine mx_val (.bool true) (exec_geq_i _ _ _ _ rfl g 0 rfl rfl true (decide_eq_true (by omega))) ?_
         simp only [Act.put, pu]
         refine mx_end ?_
         intro w9 hkw hrw hnew hdis
         replace r3 := hkw.row r3 (by simp <;> omega)
         replace r4 := hkw.row r4 (by simp <;> omega)
         replace r5 := hkw.row r5 (by simp <;> omega)
         replace r6 := hkw.row r6 (by simp <;> omega)
         replace r13 := hkw.row r13 (by simp <;> omega)
         replace sb := sb.trans (hkw.below w.heap.size sb.size (by simp <;> omega))
         clear hkw hrw hnew hdis
         (repeat ((fail_if_success with_reducible refine rg ?_); go_step))
         apply wp_region_mixp [] [_, _, _, _, _, _, _, _, _, _] trivial List.nodup_nil
         ·intro p
          refine mx_load 25 _ rfl _ rfl r13 (by simp <;> omega) 4 _ Try.underlying25 size_nat ?_
          simp only [Act.put, pu]
          refine mx_load 25 _ rfl _ rfl r13 (by simp <;> omega) 4 _ Try.underlying25 size_nat ?_
          simp only [Act.put, pu]
          refine mx_load 25 _ rfl _ rfl r5 (by simp <;> omega) 4 _ Try.underlying25 size_nat ?_
          simp only [Act.put, pu]
          refine mx_call 64 _ _ rfl Try.func64 (by kernel_rfl) #[.agg (natC X), .agg (natC X), .agg (natC M)] rfl _ hsq ?_
          simp only [Act.put, pu]
          refine mx_move rfl rfl ?_
          simp only [Act.put, pu]
          refine mx_ext rfl rfl rfl ?_
          simp only [Act.put, pu]
          refine mx_ext rfl rfl rfl ?_
          simp only [Act.put, pu]
          refine mx_new 25 rfl _ zero_nat ?_
          simp only [Act.put, pu]
          refine mx_put 15 25 _ _ rfl rfl rfl (natC Y) rfl (by exact size_nat) (by simp only [natC_size]) (natC_one _) ?_
          simp only [Act.put]
          refine mx_asg rfl rfl ?_
          simp only [Act.put, pu]
          refine mx_end ?_
          intro w10 hkw hrw hnew hdis
          have n16 := hnew 7 rfl
          have zr16 : Row w10 (p 7) (natC Y) 25 := hrw 15 (25, natC Y) rfl
          have d3x16 := Nat.lt_of_lt_of_le r3.lt n16
          have d4x16 := Nat.lt_of_lt_of_le r4.lt n16
          have d5x16 := Nat.lt_of_lt_of_le r5.lt n16
          have d6x16 := Nat.lt_of_lt_of_le r6.lt n16
          have d13x16 := Nat.lt_of_lt_of_le r13.lt n16
          replace r3 := hkw.row r3 (by simp <;> omega)
          replace r4 := hkw.row r4 (by simp <;> omega)
          replace r5 := hkw.row r5 (by simp <;> omega)
          replace r6 := hkw.row r6 (by simp <;> omega)
          replace r13 := hkw.row r13 (by simp <;> omega)
          have b16 := Nat.le_trans sb.size n16
          replace sb := sb.trans (hkw.below w.heap.size sb.size (by simp <;> omega))
          clear hkw hrw hnew hdis n16
          generalize p 7 = g16 at *
          have r16 := zr16
          clear zr16
          (repeat ((fail_if_success with_reducible refine rg ?_); go_step))
          apply wp_region_mixp [(g13, 25, natC X)] [_, _] ⟨r13, trivial⟩ (by simp <;> omega)
          ·intro p
           refine mx_load 25 _ rfl _ rfl r16 (by simp <;> omega) 4 _ Try.underlying25 size_nat ?_
           simp only [Act.put, pu]
           refine mx_put 0 25 _ _ rfl rfl rfl (natC Y) rfl (by exact size_nat) (by simp only [natC_size]) (natC_one _) ?_
           simp only [Act.put]
           refine mx_end ?_
           intro w11 hkw hrw hnew hdis
           have zr13 : Row w11 (g13) (natC Y) 25 := hrw 0 (25, natC Y) rfl
           replace r3 := hkw.row r3 (by simp <;> omega)
           replace r4 := hkw.row r4 (by simp <;> omega)
           replace r5 := hkw.row r5 (by simp <;> omega)
           replace r6 := hkw.row r6 (by simp <;> omega)
           replace sb := sb.trans (hkw.below w.heap.size sb.size (by simp <;> omega))
           clear hkw hrw hnew hdis r13
           have r13 := zr13
           clear zr13
           clear r16
           (repeat ((fail_if_success with_reducible refine rg ?_); go_step))
           apply wp_region_mixp [] [_, _, _, _] trivial List.nodup_nil
           ·intro p
            refine mx_load 25 _ rfl _ rfl r4 (by simp <;> omega) 4 _ Try.underlying25 size_nat ?_
            simp only [Act.put, pu]
            refine mx_move rfl rfl ?_
            simp only [Act.put, pu]
            refine mx_call 65 _ _ rfl Try.func65 (by kernel_rfl) #[.agg (natC E), .int .i64 (g : Nat)] rfl _ hbi ?_
            simp only [Act.put, pu]
            refine mx_val (.bool false) (exec_eql_k .i64 _ _ _ _ rfl 0 1 rfl rfl false rfl) ?_
            simp only [Act.put, pu]
            refine mx_end ?_
            intro w12 hkw hrw hnew hdis
            replace r3 := hkw.row r3 (by simp <;> omega)
            replace r4 := hkw.row r4 (by simp <;> omega)
            replace r5 := hkw.row r5 (by simp <;> omega)
            replace r6 := hkw.row r6 (by simp <;> omega)
            replace r13 := hkw.row r13 (by simp <;> omega)
            replace sb := sb.trans (hkw.below w.heap.size sb.size (by simp <;> omega))
            clear hkw hrw hnew hdis
            (repeat ((fail_if_success with_reducible refine rg ?_); go_step))
            apply wp_region_mixp [] [_, _, _] trivial List.nodup_nil
            ·intro p
             refine mx_move rfl rfl ?_
             simp only [Act.put, pu]
             refine mx_val (.int .i64 ((g : Int) - 1)) (exec_sub_ir _ _ _ _ rfl g 1 _ rfl rfl (wrap_small _ (by omega) (by omega))) ?_
             simp only [Act.put, pu]
             refine mx_asg rfl rfl ?_
             simp only [Act.put, pu]
             refine mx_end ?_
             intro w20 hkw hrw hnew hdis
             replace r3 := hkw.row r3 (by simp <;> omega)
             replace r4 := hkw.row r4 (by simp <;> omega)
             replace r5 := hkw.row r5 (by simp <;> omega)
             replace r6 := hkw.row r6 (by simp <;> omega)
             replace r13 := hkw.row r13 (by simp <;> omega)
             replace sb := sb.trans (hkw.below w.heap.size sb.size (by simp <;> omega))
             clear hkw hrw hnew hdis
             go_wp2
             go_roundg g
             case measure => omega
             case rel => exact ⟨rfl, by omega, r3, r4, r5, r6, by rw [← HV.out]; exact r13, sb⟩
            ·rfl
           ·rfl
          ·rfl
         ·rfl
        ·rfl
    ·rfl
   ·kernel_rfl
  ·rfl
 ·rfl
set_option maxRecDepth 100000 in
set_option maxHeartbeats 4000000 in
theorem rexp_high (A E M : Nat) (w : World) (hA : A < 2 ^ 256) (hE : E < 2 ^ 256) (h0 : 0 < M) (hM : M < 2 ^ 256) (h2 : ¬ M < 9223372036854775808) :
  Calls Try.prog 45 #[.agg (natC A), .agg (natC E), .agg (natC M)] w fun e w' => e = .returned (.agg (natC (A ^ E % M))) ∧ Below w.heap.size w w' := by
 have hlo := fun w' => rlow_any M w' hM
 rw [(low_great M h2).1, (low_great M h2).2] at hlo
 have hle := fun w' => rlen_any E w' hE
 have hL := bitLen_to E 256 hE
 have o1 := fun w' => rint_any 1 w' (by decide)
 rw [show (1 : Int).toNat = 1 from rfl] at o1
 have hre := fun w' => rrem_any 1 0 M w' (by decide) (by decide) hM
 rw [show modZ (0 * 2 ^ 256 + 1) M = A ^ (E / 2 ^ bitLen E) % M by rw [← pw_start]; unfold modZ; rw [if_neg (by omega), Nat.zero_mul, Nat.zero_add]] at hre
 have HM : Hid (∀ z, z % M < 2 ^ 256) := fun z => Nat.lt_trans (Nat.mod_lt _ h0) hM
 have HA : Hid (A < 2 ^ 256) := hA
 have HT : Hid (∀ x y, x < 2 ^ 256 → y < 2 ^ 256 → ∀ w', Calls Try.prog 64 #[.agg (natC x), .agg (natC y), .agg (natC M)] w' fun e w2 => e = .returned (.tuple #[.agg (natC (x * y % M)), .int .i64 (errI M)]) ∧ Below w'.heap.size w' w2) := fun x y hx hy w' => by
  have := rmulmod_any x y M w' hx hy hM
  rw [show modZ (x * y) M = x * y % M by unfold modZ; rw [if_neg (by omega)]] at this
  exact this
 clear hE hA
 generalize bitLen E = BL at *
 go_enter Try.func45, Try.ntmps45
 (repeat ((fail_if_success with_reducible refine rg ?_); go_step))
 apply wp_region_mixp [] [_, _, _, _] trivial List.nodup_nil
 ·intro p
  refine mx_box 25 _ rfl _ rfl ?_
  simp only [Act.put, pu]
  refine mx_box 25 _ rfl _ rfl ?_
  simp only [Act.put, pu]
  refine mx_box 25 _ rfl _ rfl ?_
  simp only [Act.put, pu]
  refine mx_new 25 rfl _ zero_nat ?_
  simp only [Act.put, pu]
  refine mx_end ?_
  intro w2 hkw hrw hnew hdis
  have n3 := hnew 0 rfl
  have n4 := hnew 1 rfl
  have n5 := hnew 2 rfl
  have n6 := hnew 3 rfl
  have zr3 : Row w2 (p 0) (natC A) 25 := hrw 1 (25, natC A) rfl
  have zr4 : Row w2 (p 1) (natC E) 25 := hrw 3 (25, natC E) rfl
  have zr5 : Row w2 (p 2) (natC M) 25 := hrw 5 (25, natC M) rfl
  have zr6 : Row w2 (p 3) (natC 0) 25 := hrw 7 (25, natC 0) rfl
  have d3x4 := hdis 0 1 (by omega) rfl rfl
  have d3x5 := hdis 0 2 (by omega) rfl rfl
  have d3x6 := hdis 0 3 (by omega) rfl rfl
  have d4x5 := hdis 1 2 (by omega) rfl rfl
  have d4x6 := hdis 1 3 (by omega) rfl rfl
  have d5x6 := hdis 2 3 (by omega) rfl rfl
  have sb := hkw.below w.heap.size (Nat.le_refl _) (by simp)
  have b3 : w.heap.size ≤ p 0 := n3
  have b4 : w.heap.size ≤ p 1 := n4
  have b5 : w.heap.size ≤ p 2 := n5
  have b6 : w.heap.size ≤ p 3 := n6
  clear hkw hrw hnew hdis n3 n4 n5 n6
  generalize p 0 = g3 at *
  generalize p 1 = g4 at *
  generalize p 2 = g5 at *
  generalize p 3 = g6 at *
  have r3 := zr3
  clear zr3
  have r4 := zr4
  clear zr4
  have r5 := zr5
  clear zr5
  have r6 := zr6
  clear zr6
  (repeat ((fail_if_success with_reducible refine rg ?_); go_step))
  apply wp_region_mixp [] [_, _, _, _, _, _, _] trivial List.nodup_nil
  ·intro p
   refine mx_load 25 _ rfl _ rfl r5 (by simp <;> omega) 4 _ Try.underlying25 size_nat ?_
   simp only [Act.put, pu]
   refine mx_call 60 _ _ rfl Try.func60 (by kernel_rfl) #[.agg (natC M)] rfl _ hlo ?_
   simp only [Act.put, pu]
   refine mx_move rfl rfl ?_
   simp only [Act.put, pu]
   refine mx_ext rfl rfl rfl ?_
   simp only [Act.put, pu]
   refine mx_ext rfl rfl rfl ?_
   simp only [Act.put, pu]
   refine mx_asg rfl rfl ?_
   simp only [Act.put, pu]
   refine mx_asg rfl rfl ?_
   simp only [Act.put, pu]
   refine mx_end ?_
   intro w3 hkw hrw hnew hdis
   replace r3 := hkw.row r3 (by simp <;> omega)
   replace r4 := hkw.row r4 (by simp <;> omega)
   replace r5 := hkw.row r5 (by simp <;> omega)
   replace r6 := hkw.row r6 (by simp <;> omega)
   replace sb := sb.trans (hkw.below w.heap.size sb.size (by simp <;> omega))
   clear hkw hrw hnew hdis
   (repeat ((fail_if_success with_reducible refine rg ?_); go_step))
   refine wp_region_qp ?_
   refine qw_move (by rfl) rfl rfl ?_
   simp only [Act.put, pu]
   refine qw_move (by rfl) rfl rfl ?_
   simp only [Act.put, pu]
   refine qw_skip (by rfl) ?_
   simp only [Act.put, pu]
   refine qw_skip (by rfl) ?_
   simp only [Act.put, pu]
   refine qw_pick false (v := .bool false) (by rfl) rfl rfl rfl ?_
   simp only [Act.put, pu]
   refine qw_move (by rfl) rfl rfl ?_
   simp only [Act.put, pu]
   refine qw_skip (by rfl) ?_
   simp only [Act.put, pu]
   refine qw_skip (by rfl) ?_
   simp only [Act.put, pu]
   refine qw_pick false (v := .bool false) (by rfl) rfl rfl rfl ?_
   simp only [Act.put, pu]
   refine qw_nil ?_
   intro w4 hqb
   replace r3 := r3.belowAll hqb
   replace r4 := r4.belowAll hqb
   replace r5 := r5.belowAll hqb
   replace r6 := r6.belowAll hqb
   replace sb := below_on sb (Nat.le_refl _) hqb
   clear hqb
   (repeat ((fail_if_success with_reducible refine rg ?_); go_step))
   apply wp_region_mix (by kernel_rfl) [] [_, _, _, _, _, _, _, _, _, _] trivial List.nodup_nil
   ·intro p
    refine mx_call 31 _ _ rfl Try.func31 (by kernel_rfl) #[.int .i64 1] rfl _ o1 ?_
    simp only [Act.put, pu]
    refine mx_val (.agg (natC 0)) (exec_build0 25 rfl _ built_nat) ?_
    simp only [Act.put, pu]
    refine mx_load 25 _ rfl _ rfl r5 (by simp <;> omega) 4 _ Try.underlying25 size_nat ?_
    simp only [Act.put, pu]
    refine mx_call 29 _ _ rfl Try.func29 (by kernel_rfl) #[.agg (natC 1), .agg (natC 0), .agg (natC M)] rfl _ hre ?_
    simp only [Act.put, pu]
    refine mx_move rfl rfl ?_
    simp only [Act.put, pu]
    refine mx_ext rfl rfl rfl ?_
    simp only [Act.put, pu]
    refine mx_ext rfl rfl rfl ?_
    simp only [Act.put, pu]
    refine mx_new 25 rfl _ zero_nat ?_
    simp only [Act.put, pu]
    refine mx_put 15 25 _ _ rfl rfl rfl (natC (A ^ (E / 2 ^ BL) % M)) rfl (by exact size_nat) (by simp only [natC_size]) (natC_one _) ?_
    simp only [Act.put]
    refine mx_asg rfl rfl ?_
    simp only [Act.put, pu]
    refine mx_end ?_
    intro w5 hkw hrw hnew hdis
    have n13 := hnew 7 rfl
    have zr13 : Row w5 (p 7) (natC (A ^ (E / 2 ^ BL) % M)) 25 := hrw 15 (25, natC (A ^ (E / 2 ^ BL) % M)) rfl
    have d3x13 := Nat.lt_of_lt_of_le r3.lt n13
    have d4x13 := Nat.lt_of_lt_of_le r4.lt n13
    have d5x13 := Nat.lt_of_lt_of_le r5.lt n13
    have d6x13 := Nat.lt_of_lt_of_le r6.lt n13
    replace r3 := hkw.row r3 (by simp <;> omega)
    replace r4 := hkw.row r4 (by simp <;> omega)
    replace r5 := hkw.row r5 (by simp <;> omega)
    replace r6 := hkw.row r6 (by simp <;> omega)
    have b13 := Nat.le_trans sb.size n13
    replace sb := sb.trans (hkw.below w.heap.size sb.size (by simp <;> omega))
    clear hkw hrw hnew hdis n13
    generalize p 7 = g13 at *
    have r13 := zr13
    clear zr13
    (repeat ((fail_if_success with_reducible refine rg ?_); go_step))
    apply wp_region_mixp [] [_, _, _, _] trivial List.nodup_nil
    ·intro p
     refine mx_load 25 _ rfl _ rfl r4 (by simp <;> omega) 4 _ Try.underlying25 size_nat ?_
     simp only [Act.put, pu]
     refine mx_call 41 _ _ rfl Try.func41 (by kernel_rfl) #[.agg (natC E)] rfl _ hle ?_
     simp only [Act.put, pu]
     refine mx_val (.int .i64 ((BL : Int) - 1)) (exec_sub_ir _ _ _ _ rfl BL 1 _ rfl rfl (wrap_small _ (by omega) (by omega))) ?_
     simp only [Act.put, pu]
     refine mx_asg rfl rfl ?_
     simp only [Act.put, pu]
     refine mx_end ?_
     intro w6 hkw hrw hnew hdis
     replace r3 := hkw.row r3 (by simp <;> omega)
     replace r4 := hkw.row r4 (by simp <;> omega)
     replace r5 := hkw.row r5 (by simp <;> omega)
     replace r6 := hkw.row r6 (by simp <;> omega)
     replace r13 := hkw.row r13 (by simp <;> omega)
     replace sb := sb.trans (hkw.below w.heap.size sb.size (by simp <;> omega))
     clear hkw hrw hnew hdis
     clear hle hre o1 hlo
     go_wp2_with fail
     go_loopg [15] BL (fun g s15 wr => s15 = .int .i64 ((g : Int) - 1) ∧ g ≤ 256 ∧ Row wr g3 (natC A) 25 ∧ Row wr g4 (natC E) 25 ∧ Row wr g5 (natC M) 25 ∧ Row wr g6 (natC 0) 25 ∧ Row wr g13 (natC (A ^ (E / 2 ^ g) % M)) 25 ∧ Below w.heap.size w wr)
     case atStart => exact ⟨rfl, hL, r3, r4, r5, r6, r13, sb⟩
     case round =>
      clear r3 r4 r5 r6 r13 sb
      obtain ⟨rfl, hg, r3, r4, r5, r6, r13, sb⟩ := hrel
      cases gk with
      | zero =>
       rw [show A ^ (E / 2 ^ 0) % M = A ^ E % M by rw [Nat.pow_zero, Nat.div_one]] at r13
       (repeat ((fail_if_success with_reducible refine rg ?_); go_step))
       apply wp_region_mixp [] [_, _] trivial List.nodup_nil
       ·intro p
        refine mx_move rfl rfl ?_
        simp only [Act.put, pu]
        refine mx_val (.bool false) (exec_geq_i _ _ _ _ rfl ((0 : Nat) - 1 : Int) 0 rfl rfl false rfl) ?_
        simp only [Act.put, pu]
        refine mx_end ?_
        intro w7 hkw hrw hnew hdis
        replace r6 := hkw.row r6 (by simp <;> omega)
        replace r13 := hkw.row r13 (by simp <;> omega)
        replace sb := sb.trans (hkw.below w.heap.size sb.size (by simp <;> omega))
        clear hkw hrw hnew hdis
        (repeat ((fail_if_success with_reducible refine rg ?_); go_step))
        apply wp_region_mixp [(g6, 25, natC 0)] [_, _] ⟨r6, trivial⟩ (by simp <;> omega)
        ·intro p
         refine mx_load 25 _ rfl _ rfl r13 (by simp <;> omega) 4 _ Try.underlying25 size_nat ?_
         simp only [Act.put, pu]
         refine mx_put 0 25 _ _ rfl rfl rfl (natC (A ^ E % M)) rfl (by exact size_nat) (by simp only [natC_size]) (natC_one _) ?_
         simp only [Act.put]
         refine mx_end ?_
         intro w8 hkw hrw hnew hdis
         have zr6 : Row w8 (g6) (natC (A ^ E % M)) 25 := hrw 0 (25, natC (A ^ E % M)) rfl
         replace sb := sb.trans (hkw.below w.heap.size sb.size (by simp <;> omega))
         clear hkw hrw hnew hdis r6
         have r6 := zr6
         clear zr6
         go_wp2
         exact ret_row rfl _ rfl r6 4 _ Try.underlying25 (by exact size_nat) rfl ⟨rfl, sb⟩
        ·rfl
       ·rfl
      | succ g =>
       rw [show ((g + 1 : Nat) : Int) - 1 = (g : Int) by omega]
       have hsq := HT.out (A ^ (E / 2 ^ (g + 1)) % M) (A ^ (E / 2 ^ (g + 1)) % M) (HM.out _) (HM.out _)
       have hbi := fun w' => rbit_any E (g : Int) w'
       by_cases hb : E / 2 ^ g % 2 = 1
       ·rw [bitI_set E g (by omega) hb] at hbi
        have hta := HT.out (A ^ (E / 2 ^ (g + 1)) % M * (A ^ (E / 2 ^ (g + 1)) % M) % M) A (HM.out _) HA.out
        have HV : Hid (A ^ (E / 2 ^ (g + 1)) % M * (A ^ (E / 2 ^ (g + 1)) % M) % M * A % M = A ^ (E / 2 ^ g) % M) := pw_bit1 A E g M hb
        clear hb
        generalize A ^ (E / 2 ^ (g + 1)) % M = X at *
        generalize X * X % M = Y at *
        generalize Y * A % M = V at *
        (repeat ((fail_if_success with_reducible refine rg ?_); go_step))
        apply wp_region_mixp [] [_, _] trivial List.nodup_nil
        ·intro p
         refine mx_move rfl rfl ?_
         simp only [Act.put, pu]
         refine mx_val (.bool true) (exec_geq_i _ _ _ _ rfl g 0 rfl rfl true (decide_eq_true (by omega))) ?_
         simp only [Act.put, pu]
         refine mx_end ?_
         intro w9 hkw hrw hnew hdis
         replace r3 := hkw.row r3 (by simp <;> omega)
         replace r4 := hkw.row r4 (by simp <;> omega)
         replace r5 := hkw.row r5 (by simp <;> omega)
         replace r6 := hkw.row r6 (by simp <;> omega)
         replace r13 := hkw.row r13 (by simp <;> omega)
         replace sb := sb.trans (hkw.below w.heap.size sb.size (by simp <;> omega))
         clear hkw hrw hnew hdis
         (repeat ((fail_if_success with_reducible refine rg ?_); go_step))
         apply wp_region_mixp [] [_, _, _, _, _, _, _, _, _, _] trivial List.nodup_nil
         ·intro p
          refine mx_load 25 _ rfl _ rfl r13 (by simp <;> omega) 4 _ Try.underlying25 size_nat ?_
          simp only [Act.put, pu]
          refine mx_load 25 _ rfl _ rfl r13 (by simp <;> omega) 4 _ Try.underlying25 size_nat ?_
          simp only [Act.put, pu]
          refine mx_load 25 _ rfl _ rfl r5 (by simp <;> omega) 4 _ Try.underlying25 size_nat ?_
          simp only [Act.put, pu]
          refine mx_call 64 _ _ rfl Try.func64 (by kernel_rfl) #[.agg (natC X), .agg (natC X), .agg (natC M)] rfl _ hsq ?_
          simp only [Act.put, pu]
          refine mx_move rfl rfl ?_
          simp only [Act.put, pu]
          refine mx_ext rfl rfl rfl ?_
          simp only [Act.put, pu]
          refine mx_ext rfl rfl rfl ?_
          simp only [Act.put, pu]
          refine mx_new 25 rfl _ zero_nat ?_
          simp only [Act.put, pu]
          refine mx_put 15 25 _ _ rfl rfl rfl (natC Y) rfl (by exact size_nat) (by simp only [natC_size]) (natC_one _) ?_
          simp only [Act.put]
          refine mx_asg rfl rfl ?_
          simp only [Act.put, pu]
          refine mx_end ?_
          intro w10 hkw hrw hnew hdis
          have n16 := hnew 7 rfl
          have zr16 : Row w10 (p 7) (natC Y) 25 := hrw 15 (25, natC Y) rfl
          have d3x16 := Nat.lt_of_lt_of_le r3.lt n16
          have d4x16 := Nat.lt_of_lt_of_le r4.lt n16
          have d5x16 := Nat.lt_of_lt_of_le r5.lt n16
          have d6x16 := Nat.lt_of_lt_of_le r6.lt n16
          have d13x16 := Nat.lt_of_lt_of_le r13.lt n16
          replace r3 := hkw.row r3 (by simp <;> omega)
          replace r4 := hkw.row r4 (by simp <;> omega)
          replace r5 := hkw.row r5 (by simp <;> omega)
          replace r6 := hkw.row r6 (by simp <;> omega)
          replace r13 := hkw.row r13 (by simp <;> omega)
          have b16 := Nat.le_trans sb.size n16
          replace sb := sb.trans (hkw.below w.heap.size sb.size (by simp <;> omega))
          clear hkw hrw hnew hdis n16
          generalize p 7 = g16 at *
          have r16 := zr16
          clear zr16
          (repeat ((fail_if_success with_reducible refine rg ?_); go_step))
          apply wp_region_mixp [(g13, 25, natC X)] [_, _] ⟨r13, trivial⟩ (by simp <;> omega)
          ·intro p
           refine mx_load 25 _ rfl _ rfl r16 (by simp <;> omega) 4 _ Try.underlying25 size_nat ?_
           simp only [Act.put, pu]
           refine mx_put 0 25 _ _ rfl rfl rfl (natC Y) rfl (by exact size_nat) (by simp only [natC_size]) (natC_one _) ?_
           simp only [Act.put]
           refine mx_end ?_
           intro w11 hkw hrw hnew hdis
           have zr13 : Row w11 (g13) (natC Y) 25 := hrw 0 (25, natC Y) rfl
           replace r3 := hkw.row r3 (by simp <;> omega)
           replace r4 := hkw.row r4 (by simp <;> omega)
           replace r5 := hkw.row r5 (by simp <;> omega)
           replace r6 := hkw.row r6 (by simp <;> omega)
           replace sb := sb.trans (hkw.below w.heap.size sb.size (by simp <;> omega))
           clear hkw hrw hnew hdis r13
           have r13 := zr13
           clear zr13
           clear r16
           (repeat ((fail_if_success with_reducible refine rg ?_); go_step))
           apply wp_region_mixp [] [_, _, _, _] trivial List.nodup_nil
           ·intro p
            refine mx_load 25 _ rfl _ rfl r4 (by simp <;> omega) 4 _ Try.underlying25 size_nat ?_
            simp only [Act.put, pu]
            refine mx_move rfl rfl ?_
            simp only [Act.put, pu]
            refine mx_call 65 _ _ rfl Try.func65 (by kernel_rfl) #[.agg (natC E), .int .i64 (g : Nat)] rfl _ hbi ?_
            simp only [Act.put, pu]
            refine mx_val (.bool true) (exec_eql_k .i64 _ _ _ _ rfl 1 1 rfl rfl true rfl) ?_
            simp only [Act.put, pu]
            refine mx_end ?_
            intro w12 hkw hrw hnew hdis
            replace r3 := hkw.row r3 (by simp <;> omega)
            replace r4 := hkw.row r4 (by simp <;> omega)
            replace r5 := hkw.row r5 (by simp <;> omega)
            replace r6 := hkw.row r6 (by simp <;> omega)
            replace r13 := hkw.row r13 (by simp <;> omega)
            replace sb := sb.trans (hkw.below w.heap.size sb.size (by simp <;> omega))
            clear hkw hrw hnew hdis
            (repeat ((fail_if_success with_reducible refine rg ?_); go_step))
            apply wp_region_mixp [] [_, _, _, _, _, _, _, _, _, _] trivial List.nodup_nil
            ·intro p
             refine mx_load 25 _ rfl _ rfl r13 (by simp <;> omega) 4 _ Try.underlying25 size_nat ?_
             simp only [Act.put, pu]
             refine mx_load 25 _ rfl _ rfl r3 (by simp <;> omega) 4 _ Try.underlying25 size_nat ?_
             simp only [Act.put, pu]
             refine mx_load 25 _ rfl _ rfl r5 (by simp <;> omega) 4 _ Try.underlying25 size_nat ?_
             simp only [Act.put, pu]
             refine mx_call 64 _ _ rfl Try.func64 (by kernel_rfl) #[.agg (natC Y), .agg (natC A), .agg (natC M)] rfl _ hta ?_
             simp only [Act.put, pu]
             refine mx_move rfl rfl ?_
             simp only [Act.put, pu]
             refine mx_ext rfl rfl rfl ?_
             simp only [Act.put, pu]
             refine mx_ext rfl rfl rfl ?_
             simp only [Act.put, pu]
             refine mx_new 25 rfl _ zero_nat ?_
             simp only [Act.put, pu]
             refine mx_put 15 25 _ _ rfl rfl rfl (natC V) rfl (by exact size_nat) (by simp only [natC_size]) (natC_one _) ?_
             simp only [Act.put]
             refine mx_asg rfl rfl ?_
             simp only [Act.put, pu]
             refine mx_end ?_
             intro w13 hkw hrw hnew hdis
             have n18 := hnew 7 rfl
             have zr18 : Row w13 (p 7) (natC V) 25 := hrw 15 (25, natC V) rfl
             have d3x18 := Nat.lt_of_lt_of_le r3.lt n18
             have d4x18 := Nat.lt_of_lt_of_le r4.lt n18
             have d5x18 := Nat.lt_of_lt_of_le r5.lt n18
             have d6x18 := Nat.lt_of_lt_of_le r6.lt n18
             have d13x18 := Nat.lt_of_lt_of_le r13.lt n18
             replace r3 := hkw.row r3 (by simp <;> omega)
             replace r4 := hkw.row r4 (by simp <;> omega)
             replace r5 := hkw.row r5 (by simp <;> omega)
             replace r6 := hkw.row r6 (by simp <;> omega)
             replace r13 := hkw.row r13 (by simp <;> omega)
             have b18 := Nat.le_trans sb.size n18
             replace sb := sb.trans (hkw.below w.heap.size sb.size (by simp <;> omega))
             clear hkw hrw hnew hdis n18
             generalize p 7 = g18 at *
             have r18 := zr18
             clear zr18
             (repeat ((fail_if_success with_reducible refine rg ?_); go_step))
             apply wp_region_mixp [(g13, 25, natC Y)] [_, _] ⟨r13, trivial⟩ (by simp <;> omega)
             ·intro p
              refine mx_load 25 _ rfl _ rfl r18 (by simp <;> omega) 4 _ Try.underlying25 size_nat ?_
              simp only [Act.put, pu]
              refine mx_put 0 25 _ _ rfl rfl rfl (natC V) rfl (by exact size_nat) (by simp only [natC_size]) (natC_one _) ?_
              simp only [Act.put]
              refine mx_end ?_
              intro w14 hkw hrw hnew hdis
              have zr13 : Row w14 (g13) (natC V) 25 := hrw 0 (25, natC V) rfl
              replace r3 := hkw.row r3 (by simp <;> omega)
              replace r4 := hkw.row r4 (by simp <;> omega)
              replace r5 := hkw.row r5 (by simp <;> omega)
              replace r6 := hkw.row r6 (by simp <;> omega)
              replace sb := sb.trans (hkw.below w.heap.size sb.size (by simp <;> omega))
              clear hkw hrw hnew hdis r13
              have r13 := zr13
              clear zr13
              clear r18
              (repeat ((fail_if_success with_reducible refine rg ?_); go_step))
              apply wp_region_mixp [] [_, _, _] trivial List.nodup_nil
              ·intro p
               refine mx_move rfl rfl ?_
               simp only [Act.put, pu]
               refine mx_val (.int .i64 ((g : Int) - 1)) (exec_sub_ir _ _ _ _ rfl g 1 _ rfl rfl (wrap_small _ (by omega) (by omega))) ?_
               simp only [Act.put, pu]
               refine mx_asg rfl rfl ?_
               simp only [Act.put, pu]
               refine mx_end ?_
               intro w20 hkw hrw hnew hdis
               replace r3 := hkw.row r3 (by simp <;> omega)
               replace r4 := hkw.row r4 (by simp <;> omega)
               replace r5 := hkw.row r5 (by simp <;> omega)
               replace r6 := hkw.row r6 (by simp <;> omega)
               replace r13 := hkw.row r13 (by simp <;> omega)
               replace sb := sb.trans (hkw.below w.heap.size sb.size (by simp <;> omega))
               clear hkw hrw hnew hdis
               go_wp2
               go_roundg g
               case measure => omega
               case rel => exact ⟨rfl, by omega, r3, r4, r5, r6, by rw [← HV.out]; exact r13, sb⟩
              ·rfl
             ·rfl
            ·rfl
           ·rfl
          ·rfl
         ·rfl
        ·rfl
       ·rw [bitI_not E g hb] at hbi
        have HV : Hid (A ^ (E / 2 ^ (g + 1)) % M * (A ^ (E / 2 ^ (g + 1)) % M) % M = A ^ (E / 2 ^ g) % M) := pw_bit0 A E g M hb
        clear hb
        generalize A ^ (E / 2 ^ (g + 1)) % M = X at *
        generalize X * X % M = Y at *
        (repeat ((fail_if_success with_reducible refine rg ?_); go_step))
        apply wp_region_mixp [] [_, _] trivial List.nodup_nil
        ·intro p
         refine mx_move rfl rfl ?_
         simp only [Act.put, pu]
         refine mx_val (.bool true) (exec_geq_i _ _ _ _ rfl g 0 rfl rfl true (decide_eq_true (by omega))) ?_
         simp only [Act.put, pu]
         refine mx_end ?_
         intro w9 hkw hrw hnew hdis
         replace r3 := hkw.row r3 (by simp <;> omega)
         replace r4 := hkw.row r4 (by simp <;> omega)
         replace r5 := hkw.row r5 (by simp <;> omega)
         replace r6 := hkw.row r6 (by simp <;> omega)
         replace r13 := hkw.row r13 (by simp <;> omega)
         replace sb := sb.trans (hkw.below w.heap.size sb.size (by simp <;> omega))
         clear hkw hrw hnew hdis
         (repeat ((fail_if_success with_reducible refine rg ?_); go_step))
         apply wp_region_mixp [] [_, _, _, _, _, _, _, _, _, _] trivial List.nodup_nil
         ·intro p
          refine mx_load 25 _ rfl _ rfl r13 (by simp <;> omega) 4 _ Try.underlying25 size_nat ?_
          simp only [Act.put, pu]
          refine mx_load 25 _ rfl _ rfl r13 (by simp <;> omega) 4 _ Try.underlying25 size_nat ?_
          simp only [Act.put, pu]
          refine mx_load 25 _ rfl _ rfl r5 (by simp <;> omega) 4 _ Try.underlying25 size_nat ?_
          simp only [Act.put, pu]
          refine mx_call 64 _ _ rfl Try.func64 (by kernel_rfl) #[.agg (natC X), .agg (natC X), .agg (natC M)] rfl _ hsq ?_
          simp only [Act.put, pu]
          refine mx_move rfl rfl ?_
          simp only [Act.put, pu]
          refine mx_ext rfl rfl rfl ?_
          simp only [Act.put, pu]
          refine mx_ext rfl rfl rfl ?_
          simp only [Act.put, pu]
          refine mx_new 25 rfl _ zero_nat ?_
          simp only [Act.put, pu]
          refine mx_put 15 25 _ _ rfl rfl rfl (natC Y) rfl (by exact size_nat) (by simp only [natC_size]) (natC_one _) ?_
          simp only [Act.put]
          refine mx_asg rfl rfl ?_
          simp only [Act.put, pu]
          refine mx_end ?_
          intro w10 hkw hrw hnew hdis
          have n16 := hnew 7 rfl
          have zr16 : Row w10 (p 7) (natC Y) 25 := hrw 15 (25, natC Y) rfl
          have d3x16 := Nat.lt_of_lt_of_le r3.lt n16
          have d4x16 := Nat.lt_of_lt_of_le r4.lt n16
          have d5x16 := Nat.lt_of_lt_of_le r5.lt n16
          have d6x16 := Nat.lt_of_lt_of_le r6.lt n16
          have d13x16 := Nat.lt_of_lt_of_le r13.lt n16
          replace r3 := hkw.row r3 (by simp <;> omega)
          replace r4 := hkw.row r4 (by simp <;> omega)
          replace r5 := hkw.row r5 (by simp <;> omega)
          replace r6 := hkw.row r6 (by simp <;> omega)
          replace r13 := hkw.row r13 (by simp <;> omega)
          have b16 := Nat.le_trans sb.size n16
          replace sb := sb.trans (hkw.below w.heap.size sb.size (by simp <;> omega))
          clear hkw hrw hnew hdis n16
          generalize p 7 = g16 at *
          have r16 := zr16
          clear zr16
          (repeat ((fail_if_success with_reducible refine rg ?_); go_step))
          apply wp_region_mixp [(g13, 25, natC X)] [_, _] ⟨r13, trivial⟩ (by simp <;> omega)
          ·intro p
           refine mx_load 25 _ rfl _ rfl r16 (by simp <;> omega) 4 _ Try.underlying25 size_nat ?_
           simp only [Act.put, pu]
           refine mx_put 0 25 _ _ rfl rfl rfl (natC Y) rfl (by exact size_nat) (by simp only [natC_size]) (natC_one _) ?_
           simp only [Act.put]
           refine mx_end ?_
           intro w11 hkw hrw hnew hdis
           have zr13 : Row w11 (g13) (natC Y) 25 := hrw 0 (25, natC Y) rfl
           replace r3 := hkw.row r3 (by simp <;> omega)
           replace r4 := hkw.row r4 (by simp <;> omega)
           replace r5 := hkw.row r5 (by simp <;> omega)
           replace r6 := hkw.row r6 (by simp <;> omega)
           replace sb := sb.trans (hkw.below w.heap.size sb.size (by simp <;> omega))
           clear hkw hrw hnew hdis r13
           have r13 := zr13
           clear zr13
           clear r16
           (repeat ((fail_if_success with_reducible refine rg ?_); go_step))
           apply wp_region_mixp [] [_, _, _, _] trivial List.nodup_nil
           ·intro p
            refine mx_load 25 _ rfl _ rfl r4 (by simp <;> omega) 4 _ Try.underlying25 size_nat ?_
            simp only [Act.put, pu]
            refine mx_move rfl rfl ?_
            simp only [Act.put, pu]
            refine mx_call 65 _ _ rfl Try.func65 (by kernel_rfl) #[.agg (natC E), .int .i64 (g : Nat)] rfl _ hbi ?_
            simp only [Act.put, pu]
            refine mx_val (.bool false) (exec_eql_k .i64 _ _ _ _ rfl 0 1 rfl rfl false rfl) ?_
            simp only [Act.put, pu]
            refine mx_end ?_
            intro w12 hkw hrw hnew hdis
            replace r3 := hkw.row r3 (by simp <;> omega)
            replace r4 := hkw.row r4 (by simp <;> omega)
            replace r5 := hkw.row r5 (by simp <;> omega)
            replace r6 := hkw.row r6 (by simp <;> omega)
            replace r13 := hkw.row r13 (by simp <;> omega)
            replace sb := sb.trans (hkw.below w.heap.size sb.size (by simp <;> omega))
            clear hkw hrw hnew hdis
            (repeat ((fail_if_success with_reducible refine rg ?_); go_step))
            apply wp_region_mixp [] [_, _, _] trivial List.nodup_nil
            ·intro p
             refine mx_move rfl rfl ?_
             simp only [Act.put, pu]
             refine mx_val (.int .i64 ((g : Int) - 1)) (exec_sub_ir _ _ _ _ rfl g 1 _ rfl rfl (wrap_small _ (by omega) (by omega))) ?_
             simp only [Act.put, pu]
             refine mx_asg rfl rfl ?_
             simp only [Act.put, pu]
             refine mx_end ?_
             intro w20 hkw hrw hnew hdis
             replace r3 := hkw.row r3 (by simp <;> omega)
             replace r4 := hkw.row r4 (by simp <;> omega)
             replace r5 := hkw.row r5 (by simp <;> omega)
             replace r6 := hkw.row r6 (by simp <;> omega)
             replace r13 := hkw.row r13 (by simp <;> omega)
             replace sb := sb.trans (hkw.below w.heap.size sb.size (by simp <;> omega))
             clear hkw hrw hnew hdis
             go_wp2
             go_roundg g
             case measure => omega
             case rel => exact ⟨rfl, by omega, r3, r4, r5, r6, by rw [← HV.out]; exact r13, sb⟩
            ·rfl
           ·rfl
          ·rfl
         ·rfl
        ·rfl
    ·rfl
   ·kernel_rfl
  ·rfl
 ·rfl
/-- A power by any natural but 0. -/
theorem rexp_any (A E M : Nat) (w : World) (hA : A < 2 ^ 256) (hE : E < 2 ^ 256) (h0 : 0 < M) (hM : M < 2 ^ 256) :
  Calls Try.prog 45 #[.agg (natC A), .agg (natC E), .agg (natC M)] w fun e w' => e = .returned (.agg (natC (A ^ E % M))) ∧ Below w.heap.size w w' := by
 by_cases h2 : M < 9223372036854775808
 ·by_cases h1 : 4611686018427387904 ≤ M
  ·exact rexp_mid A E M w hA hE h0 hM h1 h2
  have hr := Nat.mod_lt A h0
  have hz := Nat.mod_lt (A ^ E) h0
  rw [Nat.pow_mod] at hz ⊢
  refine rexp_low A E M (A % M) ((A % M) ^ E % M) (errI M) w h0 (by omega) (fun w' => ?_) (fun w' => ?_) (fun w' => ?_) (fun w' => rpower_any (A % M) E M w' hE h0 (by omega)) (fun w' => ?_)
  ·have := rlow_any M w' hM
   rw [(low_small M h2).1, (low_small M h2).2] at this
   exact this
  ·have := rrem_any A 0 M w' hA (by decide) hM
   rw [show modZ (0 * 2 ^ 256 + A) M = A % M by unfold modZ; rw [if_neg (by omega), Nat.zero_mul, Nat.zero_add]] at this
   exact this
  ·have := rlow_any (A % M) w' (by omega)
   rw [(low_small _ (by omega)).1, (low_small _ (by omega)).2] at this
   exact this
  ·have := rint_any (((A % M) ^ E % M : Nat) : Int) w' (by omega)
   rw [Int.toNat_natCast] at this
   exact this
 ·exact rexp_high A E M w hA hE h0 hM h2
end Go.Proofs.Ytbmkebdfaokmhaa
