/- The document's Step and Check, of naturals below 2^62. -/
import Derived.Test.YtbmkebdfaokmhaaPRef
import Derived.Test.YtbmkebdfaokmhaaPCheck
namespace Go.Proofs.Ytbmkebdfaokmhaa
open Go.RowKit
set_option maxRecDepth 100000 in
set_option maxHeartbeats 2000000 in
theorem rS_less (N F : Nat) (z : Int) (w : World) (h : z < 2) :
  Calls Try.prog 62 #[.agg (natC N), .agg (natC F), .int .i64 z] w fun e w' => e = .returned (.bool false) ∧ Below w.heap.size w w' := by
 go_enter Try.func62, Try.ntmps62
 (repeat ((fail_if_success with_reducible refine rg ?_); go_step))
 apply wp_region_mixp [] [_, _, _] trivial List.nodup_nil
 ·intro p
  refine mx_box 25 _ rfl _ rfl ?_
  simp only [Act.put, pu]
  refine mx_box 25 _ rfl _ rfl ?_
  simp only [Act.put, pu]
  refine mx_val (.bool false) (fun _ => rfl) ?_
  simp only [Act.put, pu]
  refine mx_end ?_
  intro w2 hkw hrw hnew hdis
  have n3 := hnew 0 rfl
  have n4 := hnew 1 rfl
  have zr3 : Row w2 (p 0) (natC N) 25 := hrw 1 (25, natC N) rfl
  have zr4 : Row w2 (p 1) (natC F) 25 := hrw 3 (25, natC F) rfl
  have d3x4 := hdis 0 1 (by omega) rfl rfl
  have sb := hkw.below w.heap.size (Nat.le_refl _) (by simp)
  have b3 : w.heap.size ≤ p 0 := n3
  have b4 : w.heap.size ≤ p 1 := n4
  clear hkw hrw hnew hdis n3 n4
  generalize p 0 = g3 at *
  generalize p 1 = g4 at *
  have r3 := zr3
  clear zr3
  have r4 := zr4
  clear zr4
  (repeat ((fail_if_success with_reducible refine rg ?_); go_step))
  refine wp_region_qw (by kernel_rfl) (by kernel_rfl) ?_
  refine qw_move (by rfl) rfl rfl ?_
  simp only [Act.put, pu]
  refine qw_value (by rfl) (.bool true) (exec_lt_b _ _ _ _ rfl z 2 rfl rfl true (decide_eq_true h)) ?_
  simp only [Act.put, pu]
  refine qw_move (by rfl) rfl rfl ?_
  simp only [Act.put, pu]
  refine qw_skip (by rfl) ?_
  simp only [Act.put, pu]
  refine qw_skip (by rfl) ?_
  simp only [Act.put, pu]
  refine qw_pick true (v := .bool true) (by rfl) rfl rfl rfl ?_
  simp only [Act.put, pu]
  refine qw_move (by rfl) rfl rfl ?_
  simp only [Act.put, pu]
  refine qw_skip (by rfl) ?_
  simp only [Act.put, pu]
  refine qw_skip (by rfl) ?_
  simp only [Act.put, pu]
  refine qw_skip (by rfl) ?_
  simp only [Act.put, pu]
  refine qw_pick true (v := .bool true) (by rfl) rfl rfl rfl ?_
  simp only [Act.put, pu]
  refine qw_move (by rfl) rfl rfl ?_
  simp only [Act.put, pu]
  refine qw_skip (by rfl) ?_
  simp only [Act.put, pu]
  refine qw_skip (by rfl) ?_
  simp only [Act.put, pu]
  refine qw_skip (by rfl) ?_
  simp only [Act.put, pu]
  refine qw_skip (by rfl) ?_
  simp only [Act.put, pu]
  refine qw_pick true (v := .bool true) (by rfl) rfl rfl rfl ?_
  simp only [Act.put, pu]
  refine qw_move (by rfl) rfl rfl ?_
  simp only [Act.put, pu]
  refine qw_skip (by rfl) ?_
  simp only [Act.put, pu]
  refine qw_skip (by rfl) ?_
  simp only [Act.put, pu]
  refine qw_skip (by rfl) ?_
  simp only [Act.put, pu]
  refine qw_pick true (v := .bool true) (by rfl) rfl rfl rfl ?_
  simp only [Act.put, pu]
  refine qw_nil ?_
  intro w3 hqb
  replace sb := below_on sb (Nat.le_refl _) hqb
  clear hqb
  go_wp2
  go_ret
  exact ⟨rfl, sb⟩
 ·rfl
set_option maxRecDepth 100000 in
set_option maxHeartbeats 2000000 in
theorem rS_great (N F : Nat) (z : Int) (w : World) (h : 65536 ≤ z) :
  Calls Try.prog 62 #[.agg (natC N), .agg (natC F), .int .i64 z] w fun e w' => e = .returned (.bool false) ∧ Below w.heap.size w w' := by
 go_enter Try.func62, Try.ntmps62
 (repeat ((fail_if_success with_reducible refine rg ?_); go_step))
 apply wp_region_mixp [] [_, _, _] trivial List.nodup_nil
 ·intro p
  refine mx_box 25 _ rfl _ rfl ?_
  simp only [Act.put, pu]
  refine mx_box 25 _ rfl _ rfl ?_
  simp only [Act.put, pu]
  refine mx_val (.bool false) (fun _ => rfl) ?_
  simp only [Act.put, pu]
  refine mx_end ?_
  intro w2 hkw hrw hnew hdis
  have n3 := hnew 0 rfl
  have n4 := hnew 1 rfl
  have zr3 : Row w2 (p 0) (natC N) 25 := hrw 1 (25, natC N) rfl
  have zr4 : Row w2 (p 1) (natC F) 25 := hrw 3 (25, natC F) rfl
  have d3x4 := hdis 0 1 (by omega) rfl rfl
  have sb := hkw.below w.heap.size (Nat.le_refl _) (by simp)
  have b3 : w.heap.size ≤ p 0 := n3
  have b4 : w.heap.size ≤ p 1 := n4
  clear hkw hrw hnew hdis n3 n4
  generalize p 0 = g3 at *
  generalize p 1 = g4 at *
  have r3 := zr3
  clear zr3
  have r4 := zr4
  clear zr4
  (repeat ((fail_if_success with_reducible refine rg ?_); go_step))
  refine wp_region_qw (by kernel_rfl) (by kernel_rfl) ?_
  refine qw_move (by rfl) rfl rfl ?_
  simp only [Act.put, pu]
  refine qw_value (by rfl) (.bool false) (exec_lt_b _ _ _ _ rfl z 2 rfl rfl false (decide_eq_false (by omega))) ?_
  simp only [Act.put, pu]
  refine qw_move (by rfl) rfl rfl ?_
  simp only [Act.put, pu]
  refine qw_move (by rfl) rfl rfl ?_
  simp only [Act.put, pu]
  refine qw_value (by rfl) (.bool true) (exec_geq_i _ _ _ _ rfl z 65536 rfl rfl true (decide_eq_true h)) ?_
  simp only [Act.put, pu]
  refine qw_pick false (v := .bool true) (by rfl) rfl rfl rfl ?_
  simp only [Act.put, pu]
  refine qw_move (by rfl) rfl rfl ?_
  simp only [Act.put, pu]
  refine qw_skip (by rfl) ?_
  simp only [Act.put, pu]
  refine qw_skip (by rfl) ?_
  simp only [Act.put, pu]
  refine qw_skip (by rfl) ?_
  simp only [Act.put, pu]
  refine qw_pick true (v := .bool true) (by rfl) rfl rfl rfl ?_
  simp only [Act.put, pu]
  refine qw_move (by rfl) rfl rfl ?_
  simp only [Act.put, pu]
  refine qw_skip (by rfl) ?_
  simp only [Act.put, pu]
  refine qw_skip (by rfl) ?_
  simp only [Act.put, pu]
  refine qw_skip (by rfl) ?_
  simp only [Act.put, pu]
  refine qw_skip (by rfl) ?_
  simp only [Act.put, pu]
  refine qw_pick true (v := .bool true) (by rfl) rfl rfl rfl ?_
  simp only [Act.put, pu]
  refine qw_move (by rfl) rfl rfl ?_
  simp only [Act.put, pu]
  refine qw_skip (by rfl) ?_
  simp only [Act.put, pu]
  refine qw_skip (by rfl) ?_
  simp only [Act.put, pu]
  refine qw_skip (by rfl) ?_
  simp only [Act.put, pu]
  refine qw_pick true (v := .bool true) (by rfl) rfl rfl rfl ?_
  simp only [Act.put, pu]
  refine qw_nil ?_
  intro w3 hqb
  replace sb := below_on sb (Nat.le_refl _) hqb
  clear hqb
  go_wp2
  go_ret
  exact ⟨rfl, sb⟩
 ·rfl
set_option maxRecDepth 100000 in
set_option maxHeartbeats 2000000 in
theorem rS_may (N F : Nat) (z : Int) (w : World) (h1 : 2 ≤ z) (h2 : z < 65536)
  (hmay : ∀ w', Calls Try.prog 85 #[.agg (natC N)] w' fun e w2 => e = .returned (.bool false) ∧ Below w'.heap.size w' w2) :
  Calls Try.prog 62 #[.agg (natC N), .agg (natC F), .int .i64 z] w fun e w' => e = .returned (.bool false) ∧ Below w.heap.size w w' := by
 go_enter Try.func62, Try.ntmps62
 (repeat ((fail_if_success with_reducible refine rg ?_); go_step))
 apply wp_region_mixp [] [_, _, _] trivial List.nodup_nil
 ·intro p
  refine mx_box 25 _ rfl _ rfl ?_
  simp only [Act.put, pu]
  refine mx_box 25 _ rfl _ rfl ?_
  simp only [Act.put, pu]
  refine mx_val (.bool false) (fun _ => rfl) ?_
  simp only [Act.put, pu]
  refine mx_end ?_
  intro w2 hkw hrw hnew hdis
  have n3 := hnew 0 rfl
  have n4 := hnew 1 rfl
  have zr3 : Row w2 (p 0) (natC N) 25 := hrw 1 (25, natC N) rfl
  have zr4 : Row w2 (p 1) (natC F) 25 := hrw 3 (25, natC F) rfl
  have d3x4 := hdis 0 1 (by omega) rfl rfl
  have sb := hkw.below w.heap.size (Nat.le_refl _) (by simp)
  have b3 : w.heap.size ≤ p 0 := n3
  have b4 : w.heap.size ≤ p 1 := n4
  clear hkw hrw hnew hdis n3 n4
  generalize p 0 = g3 at *
  generalize p 1 = g4 at *
  have r3 := zr3
  clear zr3
  have r4 := zr4
  clear zr4
  (repeat ((fail_if_success with_reducible refine rg ?_); go_step))
  refine wp_region_qw (by kernel_rfl) (by kernel_rfl) ?_
  refine qw_move (by rfl) rfl rfl ?_
  simp only [Act.put, pu]
  refine qw_value (by rfl) (.bool false) (exec_lt_b _ _ _ _ rfl z 2 rfl rfl false (decide_eq_false (by omega))) ?_
  simp only [Act.put, pu]
  refine qw_move (by rfl) rfl rfl ?_
  simp only [Act.put, pu]
  refine qw_move (by rfl) rfl rfl ?_
  simp only [Act.put, pu]
  refine qw_value (by rfl) (.bool false) (exec_geq_i _ _ _ _ rfl z 65536 rfl rfl false (decide_eq_false (by omega))) ?_
  simp only [Act.put, pu]
  refine qw_pick false (v := .bool false) (by rfl) rfl rfl rfl ?_
  simp only [Act.put, pu]
  refine qw_move (by rfl) rfl rfl ?_
  simp only [Act.put, pu]
  refine qw_load (by rfl) 25 _ rfl _ rfl r3 4 _ Try.underlying25 size_nat ?_
  simp only [Act.put, pu]
  refine qw_call (by rfl) 85 _ _ rfl Try.func85 (by kernel_rfl) #[.agg (natC N)] rfl _ hmay ?_
  simp only [Act.put, pu]
  refine qw_value (by rfl) (.bool true) (exec_not _ _ rfl false rfl) ?_
  simp only [Act.put, pu]
  refine qw_pick false (v := .bool true) (by rfl) rfl rfl rfl ?_
  simp only [Act.put, pu]
  refine qw_move (by rfl) rfl rfl ?_
  simp only [Act.put, pu]
  refine qw_skip (by rfl) ?_
  simp only [Act.put, pu]
  refine qw_skip (by rfl) ?_
  simp only [Act.put, pu]
  refine qw_skip (by rfl) ?_
  simp only [Act.put, pu]
  refine qw_skip (by rfl) ?_
  simp only [Act.put, pu]
  refine qw_pick true (v := .bool true) (by rfl) rfl rfl rfl ?_
  simp only [Act.put, pu]
  refine qw_move (by rfl) rfl rfl ?_
  simp only [Act.put, pu]
  refine qw_skip (by rfl) ?_
  simp only [Act.put, pu]
  refine qw_skip (by rfl) ?_
  simp only [Act.put, pu]
  refine qw_skip (by rfl) ?_
  simp only [Act.put, pu]
  refine qw_pick true (v := .bool true) (by rfl) rfl rfl rfl ?_
  simp only [Act.put, pu]
  refine qw_nil ?_
  intro w3 hqb
  replace sb := below_on sb (Nat.le_refl _) hqb
  clear hqb
  go_wp2
  go_ret
  exact ⟨rfl, sb⟩
 ·rfl
set_option maxRecDepth 100000 in
set_option maxHeartbeats 2000000 in
theorem rS_zero (N F : Nat) (z : Int) (w : World) (h1 : 2 ≤ z) (h2 : z < 65536) (hF : F = 0)
  (hmay : ∀ w', Calls Try.prog 85 #[.agg (natC N)] w' fun e w2 => e = .returned (.bool true) ∧ Below w'.heap.size w' w2)
  (hi2 : ∀ w', Calls Try.prog 31 #[.int .i64 2] w' fun e w2 => e = .returned (.agg (natC 2)) ∧ Below w'.heap.size w' w2)
  (hcm : ∀ w', Calls Try.prog 44 #[.agg (natC N), .agg (natC 2)] w' fun e w2 => e = .returned (.int .i64 1) ∧ Below w'.heap.size w' w2) :
  Calls Try.prog 62 #[.agg (natC N), .agg (natC F), .int .i64 z] w fun e w' => e = .returned (.bool false) ∧ Below w.heap.size w w' := by
 go_enter Try.func62, Try.ntmps62
 (repeat ((fail_if_success with_reducible refine rg ?_); go_step))
 apply wp_region_mixp [] [_, _, _] trivial List.nodup_nil
 ·intro p
  refine mx_box 25 _ rfl _ rfl ?_
  simp only [Act.put, pu]
  refine mx_box 25 _ rfl _ rfl ?_
  simp only [Act.put, pu]
  refine mx_val (.bool false) (fun _ => rfl) ?_
  simp only [Act.put, pu]
  refine mx_end ?_
  intro w2 hkw hrw hnew hdis
  have n3 := hnew 0 rfl
  have n4 := hnew 1 rfl
  have zr3 : Row w2 (p 0) (natC N) 25 := hrw 1 (25, natC N) rfl
  have zr4 : Row w2 (p 1) (natC F) 25 := hrw 3 (25, natC F) rfl
  have d3x4 := hdis 0 1 (by omega) rfl rfl
  have sb := hkw.below w.heap.size (Nat.le_refl _) (by simp)
  have b3 : w.heap.size ≤ p 0 := n3
  have b4 : w.heap.size ≤ p 1 := n4
  clear hkw hrw hnew hdis n3 n4
  generalize p 0 = g3 at *
  generalize p 1 = g4 at *
  have r3 := zr3
  clear zr3
  have r4 := zr4
  clear zr4
  (repeat ((fail_if_success with_reducible refine rg ?_); go_step))
  refine wp_region_qw (by kernel_rfl) (by kernel_rfl) ?_
  refine qw_move (by rfl) rfl rfl ?_
  simp only [Act.put, pu]
  refine qw_value (by rfl) (.bool false) (exec_lt_b _ _ _ _ rfl z 2 rfl rfl false (decide_eq_false (by omega))) ?_
  simp only [Act.put, pu]
  refine qw_move (by rfl) rfl rfl ?_
  simp only [Act.put, pu]
  refine qw_move (by rfl) rfl rfl ?_
  simp only [Act.put, pu]
  refine qw_value (by rfl) (.bool false) (exec_geq_i _ _ _ _ rfl z 65536 rfl rfl false (decide_eq_false (by omega))) ?_
  simp only [Act.put, pu]
  refine qw_pick false (v := .bool false) (by rfl) rfl rfl rfl ?_
  simp only [Act.put, pu]
  refine qw_move (by rfl) rfl rfl ?_
  simp only [Act.put, pu]
  refine qw_load (by rfl) 25 _ rfl _ rfl r3 4 _ Try.underlying25 size_nat ?_
  simp only [Act.put, pu]
  refine qw_call (by rfl) 85 _ _ rfl Try.func85 (by kernel_rfl) #[.agg (natC N)] rfl _ hmay ?_
  simp only [Act.put, pu]
  refine qw_value (by rfl) (.bool false) (exec_not _ _ rfl true rfl) ?_
  simp only [Act.put, pu]
  refine qw_pick false (v := .bool false) (by rfl) rfl rfl rfl ?_
  simp only [Act.put, pu]
  refine qw_move (by rfl) rfl rfl ?_
  simp only [Act.put, pu]
  refine qw_load (by rfl) 25 _ rfl _ rfl r3 4 _ Try.underlying25 size_nat ?_
  simp only [Act.put, pu]
  refine qw_call (by rfl) 31 _ _ rfl Try.func31 (by kernel_rfl) #[.int .i64 2] rfl _ hi2 ?_
  simp only [Act.put, pu]
  refine qw_call (by rfl) 44 _ _ rfl Try.func44 (by kernel_rfl) #[.agg (natC N), .agg (natC 2)] rfl _ hcm ?_
  simp only [Act.put, pu]
  refine qw_value (by rfl) (.bool false) (exec_leq_i _ _ _ _ rfl 1 0 rfl rfl false rfl) ?_
  simp only [Act.put, pu]
  refine qw_pick false (v := .bool false) (by rfl) rfl rfl rfl ?_
  simp only [Act.put, pu]
  refine qw_move (by rfl) rfl rfl ?_
  simp only [Act.put, pu]
  refine qw_load (by rfl) 25 _ rfl _ rfl r4 4 _ Try.underlying25 size_nat ?_
  simp only [Act.put, pu]
  refine qw_value (by rfl) (.agg (natC 0)) (exec_build0 25 rfl _ built_nat) ?_
  simp only [Act.put, pu]
  refine qw_value (by rfl) (.bool true) (fun w' => (exec_eql_nat _ _ _ rfl F 0 rfl rfl w').trans (by rw [hF, decide_eq_true rfl])) ?_
  simp only [Act.put, pu]
  refine qw_pick false (v := .bool true) (by rfl) rfl rfl rfl ?_
  simp only [Act.put, pu]
  refine qw_nil ?_
  intro w3 hqb
  replace sb := below_on sb (Nat.le_refl _) hqb
  clear hqb
  go_wp2
  go_ret
  exact ⟨rfl, sb⟩
 ·rfl
set_option maxRecDepth 100000 in
set_option maxHeartbeats 2000000 in
theorem rS_small (N F : Nat) (z : Int) (B : Bool) (w : World) (h1 : 2 ≤ z) (h2 : z < 65536) (hF : (decide (F % 2 ^ 256 = 0 % 2 ^ 256)) = false) (hN : N < 2147483648)
  (hmay : ∀ w', Calls Try.prog 85 #[.agg (natC N)] w' fun e w2 => e = .returned (.bool true) ∧ Below w'.heap.size w' w2)
  (hi2 : ∀ w', Calls Try.prog 31 #[.int .i64 2] w' fun e w2 => e = .returned (.agg (natC 2)) ∧ Below w'.heap.size w' w2)
  (hcm : ∀ w', Calls Try.prog 44 #[.agg (natC N), .agg (natC 2)] w' fun e w2 => e = .returned (.int .i64 1) ∧ Below w'.heap.size w' w2)
  (hlo : ∀ w', Calls Try.prog 60 #[.agg (natC N)] w' fun e w2 => e = .returned (.tuple #[.int .i64 N, .bool true]) ∧ Below w'.heap.size w' w2)
  (hlf : ∀ w', Calls Try.prog 60 #[.agg (natC F)] w' fun e w2 => e = .returned (.tuple #[.int .i64 F, .bool true]) ∧ Below w'.heap.size w' w2)
  (hst : ∀ w', Calls Try.prog 86 #[.int .i64 N, .int .i64 F, .int .i64 z] w' fun e w2 => e = .returned (.bool B) ∧ Below w'.heap.size w' w2) :
  Calls Try.prog 62 #[.agg (natC N), .agg (natC F), .int .i64 z] w fun e w' => e = .returned (.bool B) ∧ Below w.heap.size w w' := by
 go_enter Try.func62, Try.ntmps62
 (repeat ((fail_if_success with_reducible refine rg ?_); go_step))
 apply wp_region_mixp [] [_, _, _] trivial List.nodup_nil
 ·intro p
  refine mx_box 25 _ rfl _ rfl ?_
  simp only [Act.put, pu]
  refine mx_box 25 _ rfl _ rfl ?_
  simp only [Act.put, pu]
  refine mx_val (.bool false) (fun _ => rfl) ?_
  simp only [Act.put, pu]
  refine mx_end ?_
  intro w2 hkw hrw hnew hdis
  have n3 := hnew 0 rfl
  have n4 := hnew 1 rfl
  have zr3 : Row w2 (p 0) (natC N) 25 := hrw 1 (25, natC N) rfl
  have zr4 : Row w2 (p 1) (natC F) 25 := hrw 3 (25, natC F) rfl
  have d3x4 := hdis 0 1 (by omega) rfl rfl
  have sb := hkw.below w.heap.size (Nat.le_refl _) (by simp)
  have b3 : w.heap.size ≤ p 0 := n3
  have b4 : w.heap.size ≤ p 1 := n4
  clear hkw hrw hnew hdis n3 n4
  generalize p 0 = g3 at *
  generalize p 1 = g4 at *
  have r3 := zr3
  clear zr3
  have r4 := zr4
  clear zr4
  (repeat ((fail_if_success with_reducible refine rg ?_); go_step))
  refine wp_region_qw (by kernel_rfl) (by kernel_rfl) ?_
  refine qw_move (by rfl) rfl rfl ?_
  simp only [Act.put, pu]
  refine qw_value (by rfl) (.bool false) (exec_lt_b _ _ _ _ rfl z 2 rfl rfl false (decide_eq_false (by omega))) ?_
  simp only [Act.put, pu]
  refine qw_move (by rfl) rfl rfl ?_
  simp only [Act.put, pu]
  refine qw_move (by rfl) rfl rfl ?_
  simp only [Act.put, pu]
  refine qw_value (by rfl) (.bool false) (exec_geq_i _ _ _ _ rfl z 65536 rfl rfl false (decide_eq_false (by omega))) ?_
  simp only [Act.put, pu]
  refine qw_pick false (v := .bool false) (by rfl) rfl rfl rfl ?_
  simp only [Act.put, pu]
  refine qw_move (by rfl) rfl rfl ?_
  simp only [Act.put, pu]
  refine qw_load (by rfl) 25 _ rfl _ rfl r3 4 _ Try.underlying25 size_nat ?_
  simp only [Act.put, pu]
  refine qw_call (by rfl) 85 _ _ rfl Try.func85 (by kernel_rfl) #[.agg (natC N)] rfl _ hmay ?_
  simp only [Act.put, pu]
  refine qw_value (by rfl) (.bool false) (exec_not _ _ rfl true rfl) ?_
  simp only [Act.put, pu]
  refine qw_pick false (v := .bool false) (by rfl) rfl rfl rfl ?_
  simp only [Act.put, pu]
  refine qw_move (by rfl) rfl rfl ?_
  simp only [Act.put, pu]
  refine qw_load (by rfl) 25 _ rfl _ rfl r3 4 _ Try.underlying25 size_nat ?_
  simp only [Act.put, pu]
  refine qw_call (by rfl) 31 _ _ rfl Try.func31 (by kernel_rfl) #[.int .i64 2] rfl _ hi2 ?_
  simp only [Act.put, pu]
  refine qw_call (by rfl) 44 _ _ rfl Try.func44 (by kernel_rfl) #[.agg (natC N), .agg (natC 2)] rfl _ hcm ?_
  simp only [Act.put, pu]
  refine qw_value (by rfl) (.bool false) (exec_leq_i _ _ _ _ rfl 1 0 rfl rfl false rfl) ?_
  simp only [Act.put, pu]
  refine qw_pick false (v := .bool false) (by rfl) rfl rfl rfl ?_
  simp only [Act.put, pu]
  refine qw_move (by rfl) rfl rfl ?_
  simp only [Act.put, pu]
  refine qw_load (by rfl) 25 _ rfl _ rfl r4 4 _ Try.underlying25 size_nat ?_
  simp only [Act.put, pu]
  refine qw_value (by rfl) (.agg (natC 0)) (exec_build0 25 rfl _ built_nat) ?_
  simp only [Act.put, pu]
  refine qw_value (by rfl) (.bool false) (fun w' => (exec_eql_nat _ _ _ rfl F 0 rfl rfl w').trans (by rw [hF])) ?_
  simp only [Act.put, pu]
  refine qw_pick false (v := .bool false) (by rfl) rfl rfl rfl ?_
  simp only [Act.put, pu]
  refine qw_nil ?_
  intro w3 hqb
  replace r3 := r3.belowAll hqb
  replace r4 := r4.belowAll hqb
  replace sb := below_on sb (Nat.le_refl _) hqb
  clear hqb
  clear hmay hi2 hcm
  (repeat ((fail_if_success with_reducible refine rg ?_); go_step))
  apply wp_region_mixp [] [_, _, _, _, _, _, _] trivial List.nodup_nil
  ·intro p
   refine mx_load 25 _ rfl _ rfl r3 (by simp <;> omega) 4 _ Try.underlying25 size_nat ?_
   simp only [Act.put, pu]
   refine mx_call 60 _ _ rfl Try.func60 (by kernel_rfl) #[.agg (natC N)] rfl _ hlo ?_
   simp only [Act.put, pu]
   refine mx_move rfl rfl ?_
   simp only [Act.put, pu]
   refine mx_ext rfl rfl rfl ?_
   simp only [Act.put, pu]
   refine mx_ext rfl rfl rfl ?_
   simp only [Act.put, pu]
   refine mx_asg rfl rfl ?_
   simp only [Act.put, pu]
   refine mx_asg rfl rfl ?_
   simp only [Act.put, pu]
   refine mx_end ?_
   intro w4 hkw hrw hnew hdis
   replace r3 := hkw.row r3 (by simp <;> omega)
   replace r4 := hkw.row r4 (by simp <;> omega)
   replace sb := sb.trans (hkw.below w.heap.size sb.size (by simp <;> omega))
   clear hkw hrw hnew hdis
   (repeat ((fail_if_success with_reducible refine rg ?_); go_step))
   refine wp_region_qp ?_
   refine qw_move (by rfl) rfl rfl ?_
   simp only [Act.put, pu]
   refine qw_move (by rfl) rfl rfl ?_
   simp only [Act.put, pu]
   refine qw_move (by rfl) rfl rfl ?_
   simp only [Act.put, pu]
   refine qw_value (by rfl) (.bool true) (exec_lt_b _ _ _ _ rfl N 2147483648 rfl rfl true (decide_eq_true (by omega))) ?_
   simp only [Act.put, pu]
   refine qw_pick true (v := .bool true) (by rfl) rfl rfl rfl ?_
   simp only [Act.put, pu]
   refine qw_nil ?_
   intro w5 hqb
   replace r4 := r4.belowAll hqb
   replace sb := below_on sb (Nat.le_refl _) hqb
   clear hqb
   (repeat ((fail_if_success with_reducible refine rg ?_); go_step))
   apply wp_region_mixp [] [_, _, _, _, _, _, _] trivial List.nodup_nil
   ·intro p
    refine mx_load 25 _ rfl _ rfl r4 (by simp <;> omega) 4 _ Try.underlying25 size_nat ?_
    simp only [Act.put, pu]
    refine mx_call 60 _ _ rfl Try.func60 (by kernel_rfl) #[.agg (natC F)] rfl _ hlf ?_
    simp only [Act.put, pu]
    refine mx_move rfl rfl ?_
    simp only [Act.put, pu]
    refine mx_ext rfl rfl rfl ?_
    simp only [Act.put, pu]
    refine mx_ext rfl rfl rfl ?_
    simp only [Act.put, pu]
    refine mx_asg rfl rfl ?_
    simp only [Act.put, pu]
    refine mx_asg rfl rfl ?_
    simp only [Act.put, pu]
    refine mx_end ?_
    intro w6 hkw hrw hnew hdis
    replace sb := sb.trans (hkw.below w.heap.size sb.size (by simp <;> omega))
    clear hkw hrw hnew hdis
    (repeat ((fail_if_success with_reducible refine rg ?_); go_step))
    refine wp_region_qp ?_
    refine qw_move (by rfl) rfl rfl ?_
    simp only [Act.put, pu]
    refine qw_move (by rfl) rfl rfl ?_
    simp only [Act.put, pu]
    refine qw_move (by rfl) rfl rfl ?_
    simp only [Act.put, pu]
    refine qw_move (by rfl) rfl rfl ?_
    simp only [Act.put, pu]
    refine qw_move (by rfl) rfl rfl ?_
    simp only [Act.put, pu]
    refine qw_call (by rfl) 86 _ _ rfl Try.func86 (by kernel_rfl) #[.int .i64 N, .int .i64 F, .int .i64 z] rfl _ hst ?_
    simp only [Act.put, pu]
    refine qw_pick true (v := .bool B) (by rfl) rfl rfl rfl ?_
    simp only [Act.put, pu]
    refine qw_asg (by rfl) rfl rfl ?_
    simp only [Act.put, pu]
    refine qw_nil ?_
    intro w7 hqb
    replace sb := below_on sb (Nat.le_refl _) hqb
    clear hqb
    go_wp2
    go_ret
    exact ⟨rfl, sb⟩
   ·rfl
  ·rfl
 ·rfl
set_option maxRecDepth 100000 in
set_option maxHeartbeats 2000000 in
theorem rS_rest (N F : Nat) (z : Int) (L K R D : Nat) (lz er : Int) (w : World) (h1 : 2 ≤ z) (h2 : z < 65536) (hF : (decide (F % 2 ^ 256 = 0 % 2 ^ 256)) = false) (hN : ¬ N < 2147483648) (hR : (!decide (R % 2 ^ 256 = 0 % 2 ^ 256)) = true)
  (hmay : ∀ w', Calls Try.prog 85 #[.agg (natC N)] w' fun e w2 => e = .returned (.bool true) ∧ Below w'.heap.size w' w2)
  (hi2 : ∀ w', Calls Try.prog 31 #[.int .i64 2] w' fun e w2 => e = .returned (.agg (natC 2)) ∧ Below w'.heap.size w' w2)
  (hcm : ∀ w', Calls Try.prog 44 #[.agg (natC N), .agg (natC 2)] w' fun e w2 => e = .returned (.int .i64 1) ∧ Below w'.heap.size w' w2)
  (hlo : ∀ w', Calls Try.prog 60 #[.agg (natC N)] w' fun e w2 => e = .returned (.tuple #[.int .i64 N, .bool true]) ∧ Below w'.heap.size w' w2)
  (hi1 : ∀ w', Calls Try.prog 31 #[.int .i64 1] w' fun e w2 => e = .returned (.agg (natC 1)) ∧ Below w'.heap.size w' w2)
  (hsu : ∀ w', Calls Try.prog 87 #[.agg (natC N), .agg (natC 1)] w' fun e w2 => e = .returned (.tuple #[.agg (natC L), .int .i64 lz]) ∧ Below w'.heap.size w' w2)
  (hdi : ∀ w', Calls Try.prog 88 #[.agg (natC L), .agg (natC F)] w' fun e w2 => e = .returned (.tuple #[.agg (natC K), .agg (natC R), .int .i64 er]) ∧ Below w'.heap.size w' w2)
  (hmu : ∀ w', Calls Try.prog 89 #[.agg (natC F), .agg (natC F)] w' fun e w2 => e = .returned (.tuple #[.agg (natC D), .agg (natC 0)]) ∧ Below w'.heap.size w' w2) :
  Calls Try.prog 62 #[.agg (natC N), .agg (natC F), .int .i64 z] w fun e w' => e = .returned (.bool false) ∧ Below w.heap.size w w' := by
 go_enter Try.func62, Try.ntmps62
 (repeat ((fail_if_success with_reducible refine rg ?_); go_step))
 apply wp_region_mixp [] [_, _, _] trivial List.nodup_nil
 ·intro p
  refine mx_box 25 _ rfl _ rfl ?_
  simp only [Act.put, pu]
  refine mx_box 25 _ rfl _ rfl ?_
  simp only [Act.put, pu]
  refine mx_val (.bool false) (fun _ => rfl) ?_
  simp only [Act.put, pu]
  refine mx_end ?_
  intro w2 hkw hrw hnew hdis
  have n3 := hnew 0 rfl
  have n4 := hnew 1 rfl
  have zr3 : Row w2 (p 0) (natC N) 25 := hrw 1 (25, natC N) rfl
  have zr4 : Row w2 (p 1) (natC F) 25 := hrw 3 (25, natC F) rfl
  have d3x4 := hdis 0 1 (by omega) rfl rfl
  have sb := hkw.below w.heap.size (Nat.le_refl _) (by simp)
  have b3 : w.heap.size ≤ p 0 := n3
  have b4 : w.heap.size ≤ p 1 := n4
  clear hkw hrw hnew hdis n3 n4
  generalize p 0 = g3 at *
  generalize p 1 = g4 at *
  have r3 := zr3
  clear zr3
  have r4 := zr4
  clear zr4
  (repeat ((fail_if_success with_reducible refine rg ?_); go_step))
  refine wp_region_qw (by kernel_rfl) (by kernel_rfl) ?_
  refine qw_move (by rfl) rfl rfl ?_
  simp only [Act.put, pu]
  refine qw_value (by rfl) (.bool false) (exec_lt_b _ _ _ _ rfl z 2 rfl rfl false (decide_eq_false (by omega))) ?_
  simp only [Act.put, pu]
  refine qw_move (by rfl) rfl rfl ?_
  simp only [Act.put, pu]
  refine qw_move (by rfl) rfl rfl ?_
  simp only [Act.put, pu]
  refine qw_value (by rfl) (.bool false) (exec_geq_i _ _ _ _ rfl z 65536 rfl rfl false (decide_eq_false (by omega))) ?_
  simp only [Act.put, pu]
  refine qw_pick false (v := .bool false) (by rfl) rfl rfl rfl ?_
  simp only [Act.put, pu]
  refine qw_move (by rfl) rfl rfl ?_
  simp only [Act.put, pu]
  refine qw_load (by rfl) 25 _ rfl _ rfl r3 4 _ Try.underlying25 size_nat ?_
  simp only [Act.put, pu]
  refine qw_call (by rfl) 85 _ _ rfl Try.func85 (by kernel_rfl) #[.agg (natC N)] rfl _ hmay ?_
  simp only [Act.put, pu]
  refine qw_value (by rfl) (.bool false) (exec_not _ _ rfl true rfl) ?_
  simp only [Act.put, pu]
  refine qw_pick false (v := .bool false) (by rfl) rfl rfl rfl ?_
  simp only [Act.put, pu]
  refine qw_move (by rfl) rfl rfl ?_
  simp only [Act.put, pu]
  refine qw_load (by rfl) 25 _ rfl _ rfl r3 4 _ Try.underlying25 size_nat ?_
  simp only [Act.put, pu]
  refine qw_call (by rfl) 31 _ _ rfl Try.func31 (by kernel_rfl) #[.int .i64 2] rfl _ hi2 ?_
  simp only [Act.put, pu]
  refine qw_call (by rfl) 44 _ _ rfl Try.func44 (by kernel_rfl) #[.agg (natC N), .agg (natC 2)] rfl _ hcm ?_
  simp only [Act.put, pu]
  refine qw_value (by rfl) (.bool false) (exec_leq_i _ _ _ _ rfl 1 0 rfl rfl false rfl) ?_
  simp only [Act.put, pu]
  refine qw_pick false (v := .bool false) (by rfl) rfl rfl rfl ?_
  simp only [Act.put, pu]
  refine qw_move (by rfl) rfl rfl ?_
  simp only [Act.put, pu]
  refine qw_load (by rfl) 25 _ rfl _ rfl r4 4 _ Try.underlying25 size_nat ?_
  simp only [Act.put, pu]
  refine qw_value (by rfl) (.agg (natC 0)) (exec_build0 25 rfl _ built_nat) ?_
  simp only [Act.put, pu]
  refine qw_value (by rfl) (.bool false) (fun w' => (exec_eql_nat _ _ _ rfl F 0 rfl rfl w').trans (by rw [hF])) ?_
  simp only [Act.put, pu]
  refine qw_pick false (v := .bool false) (by rfl) rfl rfl rfl ?_
  simp only [Act.put, pu]
  refine qw_nil ?_
  intro w3 hqb
  replace r3 := r3.belowAll hqb
  replace r4 := r4.belowAll hqb
  replace sb := below_on sb (Nat.le_refl _) hqb
  clear hqb
  clear hmay hi2 hcm
  (repeat ((fail_if_success with_reducible refine rg ?_); go_step))
  apply wp_region_mixp [] [_, _, _, _, _, _, _] trivial List.nodup_nil
  ·intro p
   refine mx_load 25 _ rfl _ rfl r3 (by simp <;> omega) 4 _ Try.underlying25 size_nat ?_
   simp only [Act.put, pu]
   refine mx_call 60 _ _ rfl Try.func60 (by kernel_rfl) #[.agg (natC N)] rfl _ hlo ?_
   simp only [Act.put, pu]
   refine mx_move rfl rfl ?_
   simp only [Act.put, pu]
   refine mx_ext rfl rfl rfl ?_
   simp only [Act.put, pu]
   refine mx_ext rfl rfl rfl ?_
   simp only [Act.put, pu]
   refine mx_asg rfl rfl ?_
   simp only [Act.put, pu]
   refine mx_asg rfl rfl ?_
   simp only [Act.put, pu]
   refine mx_end ?_
   intro w4 hkw hrw hnew hdis
   replace r3 := hkw.row r3 (by simp <;> omega)
   replace r4 := hkw.row r4 (by simp <;> omega)
   replace sb := sb.trans (hkw.below w.heap.size sb.size (by simp <;> omega))
   clear hkw hrw hnew hdis
   (repeat ((fail_if_success with_reducible refine rg ?_); go_step))
   refine wp_region_qp ?_
   refine qw_move (by rfl) rfl rfl ?_
   simp only [Act.put, pu]
   refine qw_move (by rfl) rfl rfl ?_
   simp only [Act.put, pu]
   refine qw_move (by rfl) rfl rfl ?_
   simp only [Act.put, pu]
   refine qw_value (by rfl) (.bool false) (exec_lt_b _ _ _ _ rfl N 2147483648 rfl rfl false (decide_eq_false (by omega))) ?_
   simp only [Act.put, pu]
   refine qw_pick true (v := .bool false) (by rfl) rfl rfl rfl ?_
   simp only [Act.put, pu]
   refine qw_nil ?_
   intro w5 hqb
   replace r3 := r3.belowAll hqb
   replace r4 := r4.belowAll hqb
   replace sb := below_on sb (Nat.le_refl _) hqb
   clear hqb
   (repeat ((fail_if_success with_reducible refine rg ?_); go_step))
   apply wp_region_mix (by kernel_rfl) [] [_, _, _, _, _, _, _, _, _] trivial List.nodup_nil
   ·intro p
    refine mx_load 25 _ rfl _ rfl r3 (by simp <;> omega) 4 _ Try.underlying25 size_nat ?_
    simp only [Act.put, pu]
    refine mx_call 31 _ _ rfl Try.func31 (by kernel_rfl) #[.int .i64 1] rfl _ hi1 ?_
    simp only [Act.put, pu]
    refine mx_call 87 _ _ rfl Try.func87 (by kernel_rfl) #[.agg (natC N), .agg (natC 1)] rfl _ hsu ?_
    simp only [Act.put, pu]
    refine mx_move rfl rfl ?_
    simp only [Act.put, pu]
    refine mx_ext rfl rfl rfl ?_
    simp only [Act.put, pu]
    refine mx_ext rfl rfl rfl ?_
    simp only [Act.put, pu]
    refine mx_new 25 rfl _ zero_nat ?_
    simp only [Act.put, pu]
    refine mx_put 13 25 _ _ rfl rfl rfl (natC L) rfl (by exact size_nat) (by simp only [natC_size]) (natC_one _) ?_
    simp only [Act.put]
    refine mx_asg rfl rfl ?_
    simp only [Act.put, pu]
    refine mx_end ?_
    intro w6 hkw hrw hnew hdis
    have n11 := hnew 6 rfl
    have zr11 : Row w6 (p 6) (natC L) 25 := hrw 13 (25, natC L) rfl
    replace r3 := hkw.row r3 (by simp <;> omega)
    replace r4 := hkw.row r4 (by simp <;> omega)
    replace sb := sb.trans (hkw.below w.heap.size sb.size (by simp <;> omega))
    clear hkw hrw hnew hdis n11
    generalize p 6 = g11 at *
    have r11 := zr11
    clear zr11
    (repeat ((fail_if_success with_reducible refine rg ?_); go_step))
    apply wp_region_mixp [] [_, _, _, _, _, _, _, _, _, _, _, _] trivial List.nodup_nil
    ·intro p
     refine mx_load 25 _ rfl _ rfl r11 (by simp <;> omega) 4 _ Try.underlying25 size_nat ?_
     simp only [Act.put, pu]
     refine mx_load 25 _ rfl _ rfl r4 (by simp <;> omega) 4 _ Try.underlying25 size_nat ?_
     simp only [Act.put, pu]
     refine mx_call 88 _ _ rfl Try.func88 (by kernel_rfl) #[.agg (natC L), .agg (natC F)] rfl _ hdi ?_
     simp only [Act.put, pu]
     refine mx_move rfl rfl ?_
     simp only [Act.put, pu]
     refine mx_ext rfl rfl rfl ?_
     simp only [Act.put, pu]
     refine mx_ext rfl rfl rfl ?_
     simp only [Act.put, pu]
     refine mx_ext rfl rfl rfl ?_
     simp only [Act.put, pu]
     refine mx_new 25 rfl _ zero_nat ?_
     simp only [Act.put, pu]
     refine mx_new 25 rfl _ zero_nat ?_
     simp only [Act.put, pu]
     refine mx_put 15 25 _ _ rfl rfl rfl (natC K) rfl (by exact size_nat) (by simp only [natC_size]) (natC_one _) ?_
     simp only [Act.put]
     refine mx_put 17 25 _ _ rfl rfl rfl (natC R) rfl (by exact size_nat) (by simp only [natC_size]) (natC_one _) ?_
     simp only [Act.put]
     refine mx_asg rfl rfl ?_
     simp only [Act.put, pu]
     refine mx_end ?_
     intro w7 hkw hrw hnew hdis
     have n13 := hnew 7 rfl
     have n14 := hnew 8 rfl
     have zr13 : Row w7 (p 7) (natC K) 25 := hrw 15 (25, natC K) rfl
     have zr14 : Row w7 (p 8) (natC R) 25 := hrw 17 (25, natC R) rfl
     replace r3 := hkw.row r3 (by simp <;> omega)
     replace r4 := hkw.row r4 (by simp <;> omega)
     replace r11 := hkw.row r11 (by simp <;> omega)
     replace sb := sb.trans (hkw.below w.heap.size sb.size (by simp <;> omega))
     clear hkw hrw hnew hdis n13 n14
     generalize p 7 = g13 at *
     generalize p 8 = g14 at *
     have r13 := zr13
     clear zr13
     have r14 := zr14
     clear zr14
     (repeat ((fail_if_success with_reducible refine rg ?_); go_step))
     apply wp_region_mixp [] [_, _, _, _, _, _, _, _, _, _] trivial List.nodup_nil
     ·intro p
      refine mx_load 25 _ rfl _ rfl r4 (by simp <;> omega) 4 _ Try.underlying25 size_nat ?_
      simp only [Act.put, pu]
      refine mx_load 25 _ rfl _ rfl r4 (by simp <;> omega) 4 _ Try.underlying25 size_nat ?_
      simp only [Act.put, pu]
      refine mx_call 89 _ _ rfl Try.func89 (by kernel_rfl) #[.agg (natC F), .agg (natC F)] rfl _ hmu ?_
      simp only [Act.put, pu]
      refine mx_move rfl rfl ?_
      simp only [Act.put, pu]
      refine mx_ext rfl rfl rfl ?_
      simp only [Act.put, pu]
      refine mx_ext rfl rfl rfl ?_
      simp only [Act.put, pu]
      refine mx_new 25 rfl _ zero_nat ?_
      simp only [Act.put, pu]
      refine mx_new 25 rfl _ zero_nat ?_
      simp only [Act.put, pu]
      refine mx_put 13 25 _ _ rfl rfl rfl (natC D) rfl (by exact size_nat) (by simp only [natC_size]) (natC_one _) ?_
      simp only [Act.put]
      refine mx_put 15 25 _ _ rfl rfl rfl (natC 0) rfl (by exact size_nat) (by simp only [natC_size]) (natC_one _) ?_
      simp only [Act.put]
      refine mx_end ?_
      intro w8 hkw hrw hnew hdis
      have n16 := hnew 6 rfl
      have n17 := hnew 7 rfl
      have zr16 : Row w8 (p 6) (natC D) 25 := hrw 13 (25, natC D) rfl
      have zr17 : Row w8 (p 7) (natC 0) 25 := hrw 15 (25, natC 0) rfl
      replace r3 := hkw.row r3 (by simp <;> omega)
      replace r11 := hkw.row r11 (by simp <;> omega)
      replace r13 := hkw.row r13 (by simp <;> omega)
      replace r14 := hkw.row r14 (by simp <;> omega)
      replace sb := sb.trans (hkw.below w.heap.size sb.size (by simp <;> omega))
      clear hkw hrw hnew hdis n16 n17
      generalize p 6 = g16 at *
      generalize p 7 = g17 at *
      have r16 := zr16
      clear zr16
      have r17 := zr17
      clear zr17
      (repeat ((fail_if_success with_reducible refine rg ?_); go_step))
      refine wp_region_qp ?_
      refine qw_load (by rfl) 25 _ rfl _ rfl r14 4 _ Try.underlying25 size_nat ?_
      simp only [Act.put, pu]
      refine qw_value (by rfl) (.agg (natC 0)) (exec_build0 25 rfl _ built_nat) ?_
      simp only [Act.put, pu]
      refine qw_value (by rfl) (.bool true) (fun w' => (exec_neq_nat _ _ _ rfl R 0 rfl rfl w').trans (by rw [hR])) ?_
      simp only [Act.put, pu]
      refine qw_move (by rfl) rfl rfl ?_
      simp only [Act.put, pu]
      refine qw_skip (by rfl) ?_
      simp only [Act.put, pu]
      refine qw_skip (by rfl) ?_
      simp only [Act.put, pu]
      refine qw_skip (by rfl) ?_
      simp only [Act.put, pu]
      refine qw_skip (by rfl) ?_
      simp only [Act.put, pu]
      refine qw_skip (by rfl) ?_
      simp only [Act.put, pu]
      refine qw_skip (by rfl) ?_
      simp only [Act.put, pu]
      refine qw_skip (by rfl) ?_
      simp only [Act.put, pu]
      refine qw_skip (by rfl) ?_
      simp only [Act.put, pu]
      refine qw_skip (by rfl) ?_
      simp only [Act.put, pu]
      refine qw_pick true (v := .bool true) (by rfl) rfl rfl rfl ?_
      simp only [Act.put, pu]
      refine qw_nil ?_
      intro w9 hqb
      replace sb := below_on sb (Nat.le_refl _) hqb
      clear hqb
      go_wp2
      go_ret
      exact ⟨rfl, sb⟩
     ·rfl
    ·rfl
   ·kernel_rfl
  ·rfl
 ·rfl
set_option maxRecDepth 100000 in
set_option maxHeartbeats 2000000 in
theorem rS_low (N F : Nat) (z : Int) (L K R D : Nat) (lz er cd : Int) (w : World) (h1 : 2 ≤ z) (h2 : z < 65536) (hF : (decide (F % 2 ^ 256 = 0 % 2 ^ 256)) = false) (hN : ¬ N < 2147483648) (hR : (!decide (R % 2 ^ 256 = 0 % 2 ^ 256)) = false) (hc : cd ≤ 0)
  (hmay : ∀ w', Calls Try.prog 85 #[.agg (natC N)] w' fun e w2 => e = .returned (.bool true) ∧ Below w'.heap.size w' w2)
  (hi2 : ∀ w', Calls Try.prog 31 #[.int .i64 2] w' fun e w2 => e = .returned (.agg (natC 2)) ∧ Below w'.heap.size w' w2)
  (hcm : ∀ w', Calls Try.prog 44 #[.agg (natC N), .agg (natC 2)] w' fun e w2 => e = .returned (.int .i64 1) ∧ Below w'.heap.size w' w2)
  (hlo : ∀ w', Calls Try.prog 60 #[.agg (natC N)] w' fun e w2 => e = .returned (.tuple #[.int .i64 N, .bool true]) ∧ Below w'.heap.size w' w2)
  (hi1 : ∀ w', Calls Try.prog 31 #[.int .i64 1] w' fun e w2 => e = .returned (.agg (natC 1)) ∧ Below w'.heap.size w' w2)
  (hsu : ∀ w', Calls Try.prog 87 #[.agg (natC N), .agg (natC 1)] w' fun e w2 => e = .returned (.tuple #[.agg (natC L), .int .i64 lz]) ∧ Below w'.heap.size w' w2)
  (hdi : ∀ w', Calls Try.prog 88 #[.agg (natC L), .agg (natC F)] w' fun e w2 => e = .returned (.tuple #[.agg (natC K), .agg (natC R), .int .i64 er]) ∧ Below w'.heap.size w' w2)
  (hmu : ∀ w', Calls Try.prog 89 #[.agg (natC F), .agg (natC F)] w' fun e w2 => e = .returned (.tuple #[.agg (natC D), .agg (natC 0)]) ∧ Below w'.heap.size w' w2)
  (hcd : ∀ w', Calls Try.prog 44 #[.agg (natC D), .agg (natC N)] w' fun e w2 => e = .returned (.int .i64 cd) ∧ Below w'.heap.size w' w2) :
  Calls Try.prog 62 #[.agg (natC N), .agg (natC F), .int .i64 z] w fun e w' => e = .returned (.bool false) ∧ Below w.heap.size w w' := by
 go_enter Try.func62, Try.ntmps62
 (repeat ((fail_if_success with_reducible refine rg ?_); go_step))
 apply wp_region_mixp [] [_, _, _] trivial List.nodup_nil
 ·intro p
  refine mx_box 25 _ rfl _ rfl ?_
  simp only [Act.put, pu]
  refine mx_box 25 _ rfl _ rfl ?_
  simp only [Act.put, pu]
  refine mx_val (.bool false) (fun _ => rfl) ?_
  simp only [Act.put, pu]
  refine mx_end ?_
  intro w2 hkw hrw hnew hdis
  have n3 := hnew 0 rfl
  have n4 := hnew 1 rfl
  have zr3 : Row w2 (p 0) (natC N) 25 := hrw 1 (25, natC N) rfl
  have zr4 : Row w2 (p 1) (natC F) 25 := hrw 3 (25, natC F) rfl
  have d3x4 := hdis 0 1 (by omega) rfl rfl
  have sb := hkw.below w.heap.size (Nat.le_refl _) (by simp)
  have b3 : w.heap.size ≤ p 0 := n3
  have b4 : w.heap.size ≤ p 1 := n4
  clear hkw hrw hnew hdis n3 n4
  generalize p 0 = g3 at *
  generalize p 1 = g4 at *
  have r3 := zr3
  clear zr3
  have r4 := zr4
  clear zr4
  (repeat ((fail_if_success with_reducible refine rg ?_); go_step))
  refine wp_region_qw (by kernel_rfl) (by kernel_rfl) ?_
  refine qw_move (by rfl) rfl rfl ?_
  simp only [Act.put, pu]
  refine qw_value (by rfl) (.bool false) (exec_lt_b _ _ _ _ rfl z 2 rfl rfl false (decide_eq_false (by omega))) ?_
  simp only [Act.put, pu]
  refine qw_move (by rfl) rfl rfl ?_
  simp only [Act.put, pu]
  refine qw_move (by rfl) rfl rfl ?_
  simp only [Act.put, pu]
  refine qw_value (by rfl) (.bool false) (exec_geq_i _ _ _ _ rfl z 65536 rfl rfl false (decide_eq_false (by omega))) ?_
  simp only [Act.put, pu]
  refine qw_pick false (v := .bool false) (by rfl) rfl rfl rfl ?_
  simp only [Act.put, pu]
  refine qw_move (by rfl) rfl rfl ?_
  simp only [Act.put, pu]
  refine qw_load (by rfl) 25 _ rfl _ rfl r3 4 _ Try.underlying25 size_nat ?_
  simp only [Act.put, pu]
  refine qw_call (by rfl) 85 _ _ rfl Try.func85 (by kernel_rfl) #[.agg (natC N)] rfl _ hmay ?_
  simp only [Act.put, pu]
  refine qw_value (by rfl) (.bool false) (exec_not _ _ rfl true rfl) ?_
  simp only [Act.put, pu]
  refine qw_pick false (v := .bool false) (by rfl) rfl rfl rfl ?_
  simp only [Act.put, pu]
  refine qw_move (by rfl) rfl rfl ?_
  simp only [Act.put, pu]
  refine qw_load (by rfl) 25 _ rfl _ rfl r3 4 _ Try.underlying25 size_nat ?_
  simp only [Act.put, pu]
  refine qw_call (by rfl) 31 _ _ rfl Try.func31 (by kernel_rfl) #[.int .i64 2] rfl _ hi2 ?_
  simp only [Act.put, pu]
  refine qw_call (by rfl) 44 _ _ rfl Try.func44 (by kernel_rfl) #[.agg (natC N), .agg (natC 2)] rfl _ hcm ?_
  simp only [Act.put, pu]
  refine qw_value (by rfl) (.bool false) (exec_leq_i _ _ _ _ rfl 1 0 rfl rfl false rfl) ?_
  simp only [Act.put, pu]
  refine qw_pick false (v := .bool false) (by rfl) rfl rfl rfl ?_
  simp only [Act.put, pu]
  refine qw_move (by rfl) rfl rfl ?_
  simp only [Act.put, pu]
  refine qw_load (by rfl) 25 _ rfl _ rfl r4 4 _ Try.underlying25 size_nat ?_
  simp only [Act.put, pu]
  refine qw_value (by rfl) (.agg (natC 0)) (exec_build0 25 rfl _ built_nat) ?_
  simp only [Act.put, pu]
  refine qw_value (by rfl) (.bool false) (fun w' => (exec_eql_nat _ _ _ rfl F 0 rfl rfl w').trans (by rw [hF])) ?_
  simp only [Act.put, pu]
  refine qw_pick false (v := .bool false) (by rfl) rfl rfl rfl ?_
  simp only [Act.put, pu]
  refine qw_nil ?_
  intro w3 hqb
  replace r3 := r3.belowAll hqb
  replace r4 := r4.belowAll hqb
  replace sb := below_on sb (Nat.le_refl _) hqb
  clear hqb
  clear hmay hi2 hcm
  (repeat ((fail_if_success with_reducible refine rg ?_); go_step))
  apply wp_region_mixp [] [_, _, _, _, _, _, _] trivial List.nodup_nil
  ·intro p
   refine mx_load 25 _ rfl _ rfl r3 (by simp <;> omega) 4 _ Try.underlying25 size_nat ?_
   simp only [Act.put, pu]
   refine mx_call 60 _ _ rfl Try.func60 (by kernel_rfl) #[.agg (natC N)] rfl _ hlo ?_
   simp only [Act.put, pu]
   refine mx_move rfl rfl ?_
   simp only [Act.put, pu]
   refine mx_ext rfl rfl rfl ?_
   simp only [Act.put, pu]
   refine mx_ext rfl rfl rfl ?_
   simp only [Act.put, pu]
   refine mx_asg rfl rfl ?_
   simp only [Act.put, pu]
   refine mx_asg rfl rfl ?_
   simp only [Act.put, pu]
   refine mx_end ?_
   intro w4 hkw hrw hnew hdis
   replace r3 := hkw.row r3 (by simp <;> omega)
   replace r4 := hkw.row r4 (by simp <;> omega)
   replace sb := sb.trans (hkw.below w.heap.size sb.size (by simp <;> omega))
   clear hkw hrw hnew hdis
   (repeat ((fail_if_success with_reducible refine rg ?_); go_step))
   refine wp_region_qp ?_
   refine qw_move (by rfl) rfl rfl ?_
   simp only [Act.put, pu]
   refine qw_move (by rfl) rfl rfl ?_
   simp only [Act.put, pu]
   refine qw_move (by rfl) rfl rfl ?_
   simp only [Act.put, pu]
   refine qw_value (by rfl) (.bool false) (exec_lt_b _ _ _ _ rfl N 2147483648 rfl rfl false (decide_eq_false (by omega))) ?_
   simp only [Act.put, pu]
   refine qw_pick true (v := .bool false) (by rfl) rfl rfl rfl ?_
   simp only [Act.put, pu]
   refine qw_nil ?_
   intro w5 hqb
   replace r3 := r3.belowAll hqb
   replace r4 := r4.belowAll hqb
   replace sb := below_on sb (Nat.le_refl _) hqb
   clear hqb
   (repeat ((fail_if_success with_reducible refine rg ?_); go_step))
   apply wp_region_mix (by kernel_rfl) [] [_, _, _, _, _, _, _, _, _] trivial List.nodup_nil
   ·intro p
    refine mx_load 25 _ rfl _ rfl r3 (by simp <;> omega) 4 _ Try.underlying25 size_nat ?_
    simp only [Act.put, pu]
    refine mx_call 31 _ _ rfl Try.func31 (by kernel_rfl) #[.int .i64 1] rfl _ hi1 ?_
    simp only [Act.put, pu]
    refine mx_call 87 _ _ rfl Try.func87 (by kernel_rfl) #[.agg (natC N), .agg (natC 1)] rfl _ hsu ?_
    simp only [Act.put, pu]
    refine mx_move rfl rfl ?_
    simp only [Act.put, pu]
    refine mx_ext rfl rfl rfl ?_
    simp only [Act.put, pu]
    refine mx_ext rfl rfl rfl ?_
    simp only [Act.put, pu]
    refine mx_new 25 rfl _ zero_nat ?_
    simp only [Act.put, pu]
    refine mx_put 13 25 _ _ rfl rfl rfl (natC L) rfl (by exact size_nat) (by simp only [natC_size]) (natC_one _) ?_
    simp only [Act.put]
    refine mx_asg rfl rfl ?_
    simp only [Act.put, pu]
    refine mx_end ?_
    intro w6 hkw hrw hnew hdis
    have n11 := hnew 6 rfl
    have zr11 : Row w6 (p 6) (natC L) 25 := hrw 13 (25, natC L) rfl
    replace r3 := hkw.row r3 (by simp <;> omega)
    replace r4 := hkw.row r4 (by simp <;> omega)
    replace sb := sb.trans (hkw.below w.heap.size sb.size (by simp <;> omega))
    clear hkw hrw hnew hdis n11
    generalize p 6 = g11 at *
    have r11 := zr11
    clear zr11
    (repeat ((fail_if_success with_reducible refine rg ?_); go_step))
    apply wp_region_mixp [] [_, _, _, _, _, _, _, _, _, _, _, _] trivial List.nodup_nil
    ·intro p
     refine mx_load 25 _ rfl _ rfl r11 (by simp <;> omega) 4 _ Try.underlying25 size_nat ?_
     simp only [Act.put, pu]
     refine mx_load 25 _ rfl _ rfl r4 (by simp <;> omega) 4 _ Try.underlying25 size_nat ?_
     simp only [Act.put, pu]
     refine mx_call 88 _ _ rfl Try.func88 (by kernel_rfl) #[.agg (natC L), .agg (natC F)] rfl _ hdi ?_
     simp only [Act.put, pu]
     refine mx_move rfl rfl ?_
     simp only [Act.put, pu]
     refine mx_ext rfl rfl rfl ?_
     simp only [Act.put, pu]
     refine mx_ext rfl rfl rfl ?_
     simp only [Act.put, pu]
     refine mx_ext rfl rfl rfl ?_
     simp only [Act.put, pu]
     refine mx_new 25 rfl _ zero_nat ?_
     simp only [Act.put, pu]
     refine mx_new 25 rfl _ zero_nat ?_
     simp only [Act.put, pu]
     refine mx_put 15 25 _ _ rfl rfl rfl (natC K) rfl (by exact size_nat) (by simp only [natC_size]) (natC_one _) ?_
     simp only [Act.put]
     refine mx_put 17 25 _ _ rfl rfl rfl (natC R) rfl (by exact size_nat) (by simp only [natC_size]) (natC_one _) ?_
     simp only [Act.put]
     refine mx_asg rfl rfl ?_
     simp only [Act.put, pu]
     refine mx_end ?_
     intro w7 hkw hrw hnew hdis
     have n13 := hnew 7 rfl
     have n14 := hnew 8 rfl
     have zr13 : Row w7 (p 7) (natC K) 25 := hrw 15 (25, natC K) rfl
     have zr14 : Row w7 (p 8) (natC R) 25 := hrw 17 (25, natC R) rfl
     replace r3 := hkw.row r3 (by simp <;> omega)
     replace r4 := hkw.row r4 (by simp <;> omega)
     replace r11 := hkw.row r11 (by simp <;> omega)
     replace sb := sb.trans (hkw.below w.heap.size sb.size (by simp <;> omega))
     clear hkw hrw hnew hdis n13 n14
     generalize p 7 = g13 at *
     generalize p 8 = g14 at *
     have r13 := zr13
     clear zr13
     have r14 := zr14
     clear zr14
     (repeat ((fail_if_success with_reducible refine rg ?_); go_step))
     apply wp_region_mixp [] [_, _, _, _, _, _, _, _, _, _] trivial List.nodup_nil
     ·intro p
      refine mx_load 25 _ rfl _ rfl r4 (by simp <;> omega) 4 _ Try.underlying25 size_nat ?_
      simp only [Act.put, pu]
      refine mx_load 25 _ rfl _ rfl r4 (by simp <;> omega) 4 _ Try.underlying25 size_nat ?_
      simp only [Act.put, pu]
      refine mx_call 89 _ _ rfl Try.func89 (by kernel_rfl) #[.agg (natC F), .agg (natC F)] rfl _ hmu ?_
      simp only [Act.put, pu]
      refine mx_move rfl rfl ?_
      simp only [Act.put, pu]
      refine mx_ext rfl rfl rfl ?_
      simp only [Act.put, pu]
      refine mx_ext rfl rfl rfl ?_
      simp only [Act.put, pu]
      refine mx_new 25 rfl _ zero_nat ?_
      simp only [Act.put, pu]
      refine mx_new 25 rfl _ zero_nat ?_
      simp only [Act.put, pu]
      refine mx_put 13 25 _ _ rfl rfl rfl (natC D) rfl (by exact size_nat) (by simp only [natC_size]) (natC_one _) ?_
      simp only [Act.put]
      refine mx_put 15 25 _ _ rfl rfl rfl (natC 0) rfl (by exact size_nat) (by simp only [natC_size]) (natC_one _) ?_
      simp only [Act.put]
      refine mx_end ?_
      intro w8 hkw hrw hnew hdis
      have n16 := hnew 6 rfl
      have n17 := hnew 7 rfl
      have zr16 : Row w8 (p 6) (natC D) 25 := hrw 13 (25, natC D) rfl
      have zr17 : Row w8 (p 7) (natC 0) 25 := hrw 15 (25, natC 0) rfl
      replace r3 := hkw.row r3 (by simp <;> omega)
      replace r11 := hkw.row r11 (by simp <;> omega)
      replace r13 := hkw.row r13 (by simp <;> omega)
      replace r14 := hkw.row r14 (by simp <;> omega)
      replace sb := sb.trans (hkw.below w.heap.size sb.size (by simp <;> omega))
      clear hkw hrw hnew hdis n16 n17
      generalize p 6 = g16 at *
      generalize p 7 = g17 at *
      have r16 := zr16
      clear zr16
      have r17 := zr17
      clear zr17
      (repeat ((fail_if_success with_reducible refine rg ?_); go_step))
      refine wp_region_qp ?_
      refine qw_load (by rfl) 25 _ rfl _ rfl r14 4 _ Try.underlying25 size_nat ?_
      simp only [Act.put, pu]
      refine qw_value (by rfl) (.agg (natC 0)) (exec_build0 25 rfl _ built_nat) ?_
      simp only [Act.put, pu]
      refine qw_value (by rfl) (.bool false) (fun w' => (exec_neq_nat _ _ _ rfl R 0 rfl rfl w').trans (by rw [hR])) ?_
      simp only [Act.put, pu]
      refine qw_move (by rfl) rfl rfl ?_
      simp only [Act.put, pu]
      refine qw_load (by rfl) 25 _ rfl _ rfl r17 4 _ Try.underlying25 size_nat ?_
      simp only [Act.put, pu]
      refine qw_value (by rfl) (.agg (natC 0)) (exec_build0 25 rfl _ built_nat) ?_
      simp only [Act.put, pu]
      refine qw_value (by rfl) (.bool true) (fun w' => (exec_eql_nat _ _ _ rfl 0 0 rfl rfl w').trans (by rw [decide_eq_true rfl])) ?_
      simp only [Act.put, pu]
      refine qw_move (by rfl) rfl rfl ?_
      simp only [Act.put, pu]
      refine qw_load (by rfl) 25 _ rfl _ rfl r16 4 _ Try.underlying25 size_nat ?_
      simp only [Act.put, pu]
      refine qw_load (by rfl) 25 _ rfl _ rfl r3 4 _ Try.underlying25 size_nat ?_
      simp only [Act.put, pu]
      refine qw_call (by rfl) 44 _ _ rfl Try.func44 (by kernel_rfl) #[.agg (natC D), .agg (natC N)] rfl _ hcd ?_
      simp only [Act.put, pu]
      refine qw_value (by rfl) (.bool true) (exec_leq_i _ _ _ _ rfl cd 0 rfl rfl true (decide_eq_true hc)) ?_
      simp only [Act.put, pu]
      refine qw_pick true (v := .bool true) (by rfl) rfl rfl rfl ?_
      simp only [Act.put, pu]
      refine qw_pick false (v := .bool true) (by rfl) rfl rfl rfl ?_
      simp only [Act.put, pu]
      refine qw_nil ?_
      intro w9 hqb
      replace sb := below_on sb (Nat.le_refl _) hqb
      clear hqb
      go_wp2
      go_ret
      exact ⟨rfl, sb⟩
     ·rfl
    ·rfl
   ·kernel_rfl
  ·rfl
 ·rfl
set_option maxRecDepth 100000 in
set_option maxHeartbeats 2000000 in
theorem rS_not (N F : Nat) (z : Int) (L K R D a Y : Nat) (lz er cd : Int) (w : World) (h1 : 2 ≤ z) (h2 : z < 65536) (hF : (decide (F % 2 ^ 256 = 0 % 2 ^ 256)) = false) (hN : ¬ N < 2147483648) (hR : (!decide (R % 2 ^ 256 = 0 % 2 ^ 256)) = false) (hc : ¬ cd ≤ 0) (hY : (!decide (Y % 2 ^ 256 = 1 % 2 ^ 256)) = true)
  (hmay : ∀ w', Calls Try.prog 85 #[.agg (natC N)] w' fun e w2 => e = .returned (.bool true) ∧ Below w'.heap.size w' w2)
  (hi2 : ∀ w', Calls Try.prog 31 #[.int .i64 2] w' fun e w2 => e = .returned (.agg (natC 2)) ∧ Below w'.heap.size w' w2)
  (hcm : ∀ w', Calls Try.prog 44 #[.agg (natC N), .agg (natC 2)] w' fun e w2 => e = .returned (.int .i64 1) ∧ Below w'.heap.size w' w2)
  (hlo : ∀ w', Calls Try.prog 60 #[.agg (natC N)] w' fun e w2 => e = .returned (.tuple #[.int .i64 N, .bool true]) ∧ Below w'.heap.size w' w2)
  (hi1 : ∀ w', Calls Try.prog 31 #[.int .i64 1] w' fun e w2 => e = .returned (.agg (natC 1)) ∧ Below w'.heap.size w' w2)
  (hsu : ∀ w', Calls Try.prog 87 #[.agg (natC N), .agg (natC 1)] w' fun e w2 => e = .returned (.tuple #[.agg (natC L), .int .i64 lz]) ∧ Below w'.heap.size w' w2)
  (hdi : ∀ w', Calls Try.prog 88 #[.agg (natC L), .agg (natC F)] w' fun e w2 => e = .returned (.tuple #[.agg (natC K), .agg (natC R), .int .i64 er]) ∧ Below w'.heap.size w' w2)
  (hmu : ∀ w', Calls Try.prog 89 #[.agg (natC F), .agg (natC F)] w' fun e w2 => e = .returned (.tuple #[.agg (natC D), .agg (natC 0)]) ∧ Below w'.heap.size w' w2)
  (hcd : ∀ w', Calls Try.prog 44 #[.agg (natC D), .agg (natC N)] w' fun e w2 => e = .returned (.int .i64 cd) ∧ Below w'.heap.size w' w2)
  (hiz : ∀ w', Calls Try.prog 31 #[.int .i64 z] w' fun e w2 => e = .returned (.agg (natC a)) ∧ Below w'.heap.size w' w2)
  (hx1 : ∀ w', Calls Try.prog 45 #[.agg (natC a), .agg (natC L), .agg (natC N)] w' fun e w2 => e = .returned (.agg (natC Y)) ∧ Below w'.heap.size w' w2) :
  Calls Try.prog 62 #[.agg (natC N), .agg (natC F), .int .i64 z] w fun e w' => e = .returned (.bool false) ∧ Below w.heap.size w w' := by
 go_enter Try.func62, Try.ntmps62
 (repeat ((fail_if_success with_reducible refine rg ?_); go_step))
 apply wp_region_mixp [] [_, _, _] trivial List.nodup_nil
 ·intro p
  refine mx_box 25 _ rfl _ rfl ?_
  simp only [Act.put, pu]
  refine mx_box 25 _ rfl _ rfl ?_
  simp only [Act.put, pu]
  refine mx_val (.bool false) (fun _ => rfl) ?_
  simp only [Act.put, pu]
  refine mx_end ?_
  intro w2 hkw hrw hnew hdis
  have n3 := hnew 0 rfl
  have n4 := hnew 1 rfl
  have zr3 : Row w2 (p 0) (natC N) 25 := hrw 1 (25, natC N) rfl
  have zr4 : Row w2 (p 1) (natC F) 25 := hrw 3 (25, natC F) rfl
  have d3x4 := hdis 0 1 (by omega) rfl rfl
  have sb := hkw.below w.heap.size (Nat.le_refl _) (by simp)
  have b3 : w.heap.size ≤ p 0 := n3
  have b4 : w.heap.size ≤ p 1 := n4
  clear hkw hrw hnew hdis n3 n4
  generalize p 0 = g3 at *
  generalize p 1 = g4 at *
  have r3 := zr3
  clear zr3
  have r4 := zr4
  clear zr4
  (repeat ((fail_if_success with_reducible refine rg ?_); go_step))
  refine wp_region_qw (by kernel_rfl) (by kernel_rfl) ?_
  refine qw_move (by rfl) rfl rfl ?_
  simp only [Act.put, pu]
  refine qw_value (by rfl) (.bool false) (exec_lt_b _ _ _ _ rfl z 2 rfl rfl false (decide_eq_false (by omega))) ?_
  simp only [Act.put, pu]
  refine qw_move (by rfl) rfl rfl ?_
  simp only [Act.put, pu]
  refine qw_move (by rfl) rfl rfl ?_
  simp only [Act.put, pu]
  refine qw_value (by rfl) (.bool false) (exec_geq_i _ _ _ _ rfl z 65536 rfl rfl false (decide_eq_false (by omega))) ?_
  simp only [Act.put, pu]
  refine qw_pick false (v := .bool false) (by rfl) rfl rfl rfl ?_
  simp only [Act.put, pu]
  refine qw_move (by rfl) rfl rfl ?_
  simp only [Act.put, pu]
  refine qw_load (by rfl) 25 _ rfl _ rfl r3 4 _ Try.underlying25 size_nat ?_
  simp only [Act.put, pu]
  refine qw_call (by rfl) 85 _ _ rfl Try.func85 (by kernel_rfl) #[.agg (natC N)] rfl _ hmay ?_
  simp only [Act.put, pu]
  refine qw_value (by rfl) (.bool false) (exec_not _ _ rfl true rfl) ?_
  simp only [Act.put, pu]
  refine qw_pick false (v := .bool false) (by rfl) rfl rfl rfl ?_
  simp only [Act.put, pu]
  refine qw_move (by rfl) rfl rfl ?_
  simp only [Act.put, pu]
  refine qw_load (by rfl) 25 _ rfl _ rfl r3 4 _ Try.underlying25 size_nat ?_
  simp only [Act.put, pu]
  refine qw_call (by rfl) 31 _ _ rfl Try.func31 (by kernel_rfl) #[.int .i64 2] rfl _ hi2 ?_
  simp only [Act.put, pu]
  refine qw_call (by rfl) 44 _ _ rfl Try.func44 (by kernel_rfl) #[.agg (natC N), .agg (natC 2)] rfl _ hcm ?_
  simp only [Act.put, pu]
  refine qw_value (by rfl) (.bool false) (exec_leq_i _ _ _ _ rfl 1 0 rfl rfl false rfl) ?_
  simp only [Act.put, pu]
  refine qw_pick false (v := .bool false) (by rfl) rfl rfl rfl ?_
  simp only [Act.put, pu]
  refine qw_move (by rfl) rfl rfl ?_
  simp only [Act.put, pu]
  refine qw_load (by rfl) 25 _ rfl _ rfl r4 4 _ Try.underlying25 size_nat ?_
  simp only [Act.put, pu]
  refine qw_value (by rfl) (.agg (natC 0)) (exec_build0 25 rfl _ built_nat) ?_
  simp only [Act.put, pu]
  refine qw_value (by rfl) (.bool false) (fun w' => (exec_eql_nat _ _ _ rfl F 0 rfl rfl w').trans (by rw [hF])) ?_
  simp only [Act.put, pu]
  refine qw_pick false (v := .bool false) (by rfl) rfl rfl rfl ?_
  simp only [Act.put, pu]
  refine qw_nil ?_
  intro w3 hqb
  replace r3 := r3.belowAll hqb
  replace r4 := r4.belowAll hqb
  replace sb := below_on sb (Nat.le_refl _) hqb
  clear hqb
  clear hmay hi2 hcm
  (repeat ((fail_if_success with_reducible refine rg ?_); go_step))
  apply wp_region_mixp [] [_, _, _, _, _, _, _] trivial List.nodup_nil
  ·intro p
   refine mx_load 25 _ rfl _ rfl r3 (by simp <;> omega) 4 _ Try.underlying25 size_nat ?_
   simp only [Act.put, pu]
   refine mx_call 60 _ _ rfl Try.func60 (by kernel_rfl) #[.agg (natC N)] rfl _ hlo ?_
   simp only [Act.put, pu]
   refine mx_move rfl rfl ?_
   simp only [Act.put, pu]
   refine mx_ext rfl rfl rfl ?_
   simp only [Act.put, pu]
   refine mx_ext rfl rfl rfl ?_
   simp only [Act.put, pu]
   refine mx_asg rfl rfl ?_
   simp only [Act.put, pu]
   refine mx_asg rfl rfl ?_
   simp only [Act.put, pu]
   refine mx_end ?_
   intro w4 hkw hrw hnew hdis
   replace r3 := hkw.row r3 (by simp <;> omega)
   replace r4 := hkw.row r4 (by simp <;> omega)
   replace sb := sb.trans (hkw.below w.heap.size sb.size (by simp <;> omega))
   clear hkw hrw hnew hdis
   (repeat ((fail_if_success with_reducible refine rg ?_); go_step))
   refine wp_region_qp ?_
   refine qw_move (by rfl) rfl rfl ?_
   simp only [Act.put, pu]
   refine qw_move (by rfl) rfl rfl ?_
   simp only [Act.put, pu]
   refine qw_move (by rfl) rfl rfl ?_
   simp only [Act.put, pu]
   refine qw_value (by rfl) (.bool false) (exec_lt_b _ _ _ _ rfl N 2147483648 rfl rfl false (decide_eq_false (by omega))) ?_
   simp only [Act.put, pu]
   refine qw_pick true (v := .bool false) (by rfl) rfl rfl rfl ?_
   simp only [Act.put, pu]
   refine qw_nil ?_
   intro w5 hqb
   replace r3 := r3.belowAll hqb
   replace r4 := r4.belowAll hqb
   replace sb := below_on sb (Nat.le_refl _) hqb
   clear hqb
   (repeat ((fail_if_success with_reducible refine rg ?_); go_step))
   apply wp_region_mix (by kernel_rfl) [] [_, _, _, _, _, _, _, _, _] trivial List.nodup_nil
   ·intro p
    refine mx_load 25 _ rfl _ rfl r3 (by simp <;> omega) 4 _ Try.underlying25 size_nat ?_
    simp only [Act.put, pu]
    refine mx_call 31 _ _ rfl Try.func31 (by kernel_rfl) #[.int .i64 1] rfl _ hi1 ?_
    simp only [Act.put, pu]
    refine mx_call 87 _ _ rfl Try.func87 (by kernel_rfl) #[.agg (natC N), .agg (natC 1)] rfl _ hsu ?_
    simp only [Act.put, pu]
    refine mx_move rfl rfl ?_
    simp only [Act.put, pu]
    refine mx_ext rfl rfl rfl ?_
    simp only [Act.put, pu]
    refine mx_ext rfl rfl rfl ?_
    simp only [Act.put, pu]
    refine mx_new 25 rfl _ zero_nat ?_
    simp only [Act.put, pu]
    refine mx_put 13 25 _ _ rfl rfl rfl (natC L) rfl (by exact size_nat) (by simp only [natC_size]) (natC_one _) ?_
    simp only [Act.put]
    refine mx_asg rfl rfl ?_
    simp only [Act.put, pu]
    refine mx_end ?_
    intro w6 hkw hrw hnew hdis
    have n11 := hnew 6 rfl
    have zr11 : Row w6 (p 6) (natC L) 25 := hrw 13 (25, natC L) rfl
    replace r3 := hkw.row r3 (by simp <;> omega)
    replace r4 := hkw.row r4 (by simp <;> omega)
    replace sb := sb.trans (hkw.below w.heap.size sb.size (by simp <;> omega))
    clear hkw hrw hnew hdis n11
    generalize p 6 = g11 at *
    have r11 := zr11
    clear zr11
    (repeat ((fail_if_success with_reducible refine rg ?_); go_step))
    apply wp_region_mixp [] [_, _, _, _, _, _, _, _, _, _, _, _] trivial List.nodup_nil
    ·intro p
     refine mx_load 25 _ rfl _ rfl r11 (by simp <;> omega) 4 _ Try.underlying25 size_nat ?_
     simp only [Act.put, pu]
     refine mx_load 25 _ rfl _ rfl r4 (by simp <;> omega) 4 _ Try.underlying25 size_nat ?_
     simp only [Act.put, pu]
     refine mx_call 88 _ _ rfl Try.func88 (by kernel_rfl) #[.agg (natC L), .agg (natC F)] rfl _ hdi ?_
     simp only [Act.put, pu]
     refine mx_move rfl rfl ?_
     simp only [Act.put, pu]
     refine mx_ext rfl rfl rfl ?_
     simp only [Act.put, pu]
     refine mx_ext rfl rfl rfl ?_
     simp only [Act.put, pu]
     refine mx_ext rfl rfl rfl ?_
     simp only [Act.put, pu]
     refine mx_new 25 rfl _ zero_nat ?_
     simp only [Act.put, pu]
     refine mx_new 25 rfl _ zero_nat ?_
     simp only [Act.put, pu]
     refine mx_put 15 25 _ _ rfl rfl rfl (natC K) rfl (by exact size_nat) (by simp only [natC_size]) (natC_one _) ?_
     simp only [Act.put]
     refine mx_put 17 25 _ _ rfl rfl rfl (natC R) rfl (by exact size_nat) (by simp only [natC_size]) (natC_one _) ?_
     simp only [Act.put]
     refine mx_asg rfl rfl ?_
     simp only [Act.put, pu]
     refine mx_end ?_
     intro w7 hkw hrw hnew hdis
     have n13 := hnew 7 rfl
     have n14 := hnew 8 rfl
     have zr13 : Row w7 (p 7) (natC K) 25 := hrw 15 (25, natC K) rfl
     have zr14 : Row w7 (p 8) (natC R) 25 := hrw 17 (25, natC R) rfl
     replace r3 := hkw.row r3 (by simp <;> omega)
     replace r4 := hkw.row r4 (by simp <;> omega)
     replace r11 := hkw.row r11 (by simp <;> omega)
     replace sb := sb.trans (hkw.below w.heap.size sb.size (by simp <;> omega))
     clear hkw hrw hnew hdis n13 n14
     generalize p 7 = g13 at *
     generalize p 8 = g14 at *
     have r13 := zr13
     clear zr13
     have r14 := zr14
     clear zr14
     (repeat ((fail_if_success with_reducible refine rg ?_); go_step))
     apply wp_region_mixp [] [_, _, _, _, _, _, _, _, _, _] trivial List.nodup_nil
     ·intro p
      refine mx_load 25 _ rfl _ rfl r4 (by simp <;> omega) 4 _ Try.underlying25 size_nat ?_
      simp only [Act.put, pu]
      refine mx_load 25 _ rfl _ rfl r4 (by simp <;> omega) 4 _ Try.underlying25 size_nat ?_
      simp only [Act.put, pu]
      refine mx_call 89 _ _ rfl Try.func89 (by kernel_rfl) #[.agg (natC F), .agg (natC F)] rfl _ hmu ?_
      simp only [Act.put, pu]
      refine mx_move rfl rfl ?_
      simp only [Act.put, pu]
      refine mx_ext rfl rfl rfl ?_
      simp only [Act.put, pu]
      refine mx_ext rfl rfl rfl ?_
      simp only [Act.put, pu]
      refine mx_new 25 rfl _ zero_nat ?_
      simp only [Act.put, pu]
      refine mx_new 25 rfl _ zero_nat ?_
      simp only [Act.put, pu]
      refine mx_put 13 25 _ _ rfl rfl rfl (natC D) rfl (by exact size_nat) (by simp only [natC_size]) (natC_one _) ?_
      simp only [Act.put]
      refine mx_put 15 25 _ _ rfl rfl rfl (natC 0) rfl (by exact size_nat) (by simp only [natC_size]) (natC_one _) ?_
      simp only [Act.put]
      refine mx_end ?_
      intro w8 hkw hrw hnew hdis
      have n16 := hnew 6 rfl
      have n17 := hnew 7 rfl
      have zr16 : Row w8 (p 6) (natC D) 25 := hrw 13 (25, natC D) rfl
      have zr17 : Row w8 (p 7) (natC 0) 25 := hrw 15 (25, natC 0) rfl
      replace r3 := hkw.row r3 (by simp <;> omega)
      replace r11 := hkw.row r11 (by simp <;> omega)
      replace r13 := hkw.row r13 (by simp <;> omega)
      replace r14 := hkw.row r14 (by simp <;> omega)
      replace sb := sb.trans (hkw.below w.heap.size sb.size (by simp <;> omega))
      clear hkw hrw hnew hdis n16 n17
      generalize p 6 = g16 at *
      generalize p 7 = g17 at *
      have r16 := zr16
      clear zr16
      have r17 := zr17
      clear zr17
      (repeat ((fail_if_success with_reducible refine rg ?_); go_step))
      refine wp_region_qp ?_
      refine qw_load (by rfl) 25 _ rfl _ rfl r14 4 _ Try.underlying25 size_nat ?_
      simp only [Act.put, pu]
      refine qw_value (by rfl) (.agg (natC 0)) (exec_build0 25 rfl _ built_nat) ?_
      simp only [Act.put, pu]
      refine qw_value (by rfl) (.bool false) (fun w' => (exec_neq_nat _ _ _ rfl R 0 rfl rfl w').trans (by rw [hR])) ?_
      simp only [Act.put, pu]
      refine qw_move (by rfl) rfl rfl ?_
      simp only [Act.put, pu]
      refine qw_load (by rfl) 25 _ rfl _ rfl r17 4 _ Try.underlying25 size_nat ?_
      simp only [Act.put, pu]
      refine qw_value (by rfl) (.agg (natC 0)) (exec_build0 25 rfl _ built_nat) ?_
      simp only [Act.put, pu]
      refine qw_value (by rfl) (.bool true) (fun w' => (exec_eql_nat _ _ _ rfl 0 0 rfl rfl w').trans (by rw [decide_eq_true rfl])) ?_
      simp only [Act.put, pu]
      refine qw_move (by rfl) rfl rfl ?_
      simp only [Act.put, pu]
      refine qw_load (by rfl) 25 _ rfl _ rfl r16 4 _ Try.underlying25 size_nat ?_
      simp only [Act.put, pu]
      refine qw_load (by rfl) 25 _ rfl _ rfl r3 4 _ Try.underlying25 size_nat ?_
      simp only [Act.put, pu]
      refine qw_call (by rfl) 44 _ _ rfl Try.func44 (by kernel_rfl) #[.agg (natC D), .agg (natC N)] rfl _ hcd ?_
      simp only [Act.put, pu]
      refine qw_value (by rfl) (.bool false) (exec_leq_i _ _ _ _ rfl cd 0 rfl rfl false (decide_eq_false hc)) ?_
      simp only [Act.put, pu]
      refine qw_pick true (v := .bool false) (by rfl) rfl rfl rfl ?_
      simp only [Act.put, pu]
      refine qw_pick false (v := .bool false) (by rfl) rfl rfl rfl ?_
      simp only [Act.put, pu]
      refine qw_nil ?_
      intro w9 hqb
      replace r3 := r3.belowAll hqb
      replace r11 := r11.belowAll hqb
      replace r13 := r13.belowAll hqb
      replace sb := below_on sb (Nat.le_refl _) hqb
      clear hqb
      clear hdi hmu hcd hsu hlo
      (repeat ((fail_if_success with_reducible refine rg ?_); go_step))
      apply wp_region_mixp [] [_, _, _, _] trivial List.nodup_nil
      ·intro p
       refine mx_move rfl rfl ?_
       simp only [Act.put, pu]
       refine mx_call 31 _ _ rfl Try.func31 (by kernel_rfl) #[.int .i64 z] rfl _ hiz ?_
       simp only [Act.put, pu]
       refine mx_new 25 rfl _ zero_nat ?_
       simp only [Act.put, pu]
       refine mx_put 5 25 _ _ rfl rfl rfl (natC a) rfl (by exact size_nat) (by simp only [natC_size]) (natC_one _) ?_
       simp only [Act.put]
       refine mx_end ?_
       intro w10 hkw hrw hnew hdis
       have n18 := hnew 2 rfl
       have zr18 : Row w10 (p 2) (natC a) 25 := hrw 5 (25, natC a) rfl
       replace r3 := hkw.row r3 (by simp <;> omega)
       replace r11 := hkw.row r11 (by simp <;> omega)
       replace r13 := hkw.row r13 (by simp <;> omega)
       replace sb := sb.trans (hkw.below w.heap.size sb.size (by simp <;> omega))
       clear hkw hrw hnew hdis n18
       generalize p 2 = g18 at *
       have r18 := zr18
       clear zr18
       (repeat ((fail_if_success with_reducible refine rg ?_); go_step))
       refine wp_region_qp ?_
       refine qw_load (by rfl) 25 _ rfl _ rfl r18 4 _ Try.underlying25 size_nat ?_
       simp only [Act.put, pu]
       refine qw_load (by rfl) 25 _ rfl _ rfl r11 4 _ Try.underlying25 size_nat ?_
       simp only [Act.put, pu]
       refine qw_load (by rfl) 25 _ rfl _ rfl r3 4 _ Try.underlying25 size_nat ?_
       simp only [Act.put, pu]
       refine qw_call (by rfl) 45 _ _ rfl Try.func45 (by kernel_rfl) #[.agg (natC a), .agg (natC L), .agg (natC N)] rfl _ hx1 ?_
       simp only [Act.put, pu]
       refine qw_call (by rfl) 31 _ _ rfl Try.func31 (by kernel_rfl) #[.int .i64 1] rfl _ hi1 ?_
       simp only [Act.put, pu]
       refine qw_value (by rfl) (.bool true) (fun w' => (exec_neq_nat _ _ _ rfl Y 1 rfl rfl w').trans (by rw [hY])) ?_
       simp only [Act.put, pu]
       refine qw_nil ?_
       intro w11 hqb
       replace sb := below_on sb (Nat.le_refl _) hqb
       clear hqb
       go_wp2
       go_ret
       exact ⟨rfl, sb⟩
      ·rfl
     ·rfl
    ·rfl
   ·kernel_rfl
  ·rfl
 ·rfl
set_option maxRecDepth 100000 in
set_option maxHeartbeats 2000000 in
theorem rS_yes (N F : Nat) (z : Int) (L K R D a Y X V G : Nat) (lz er cd er2 : Int) (B : Bool) (w : World) (h1 : 2 ≤ z) (h2 : z < 65536) (hF : (decide (F % 2 ^ 256 = 0 % 2 ^ 256)) = false) (hN : ¬ N < 2147483648) (hR : (!decide (R % 2 ^ 256 = 0 % 2 ^ 256)) = false) (hc : ¬ cd ≤ 0) (hY : Y = 1) (hB : decide (G % 2 ^ 256 = 1 % 2 ^ 256) = B)
  (hmay : ∀ w', Calls Try.prog 85 #[.agg (natC N)] w' fun e w2 => e = .returned (.bool true) ∧ Below w'.heap.size w' w2)
  (hi2 : ∀ w', Calls Try.prog 31 #[.int .i64 2] w' fun e w2 => e = .returned (.agg (natC 2)) ∧ Below w'.heap.size w' w2)
  (hcm : ∀ w', Calls Try.prog 44 #[.agg (natC N), .agg (natC 2)] w' fun e w2 => e = .returned (.int .i64 1) ∧ Below w'.heap.size w' w2)
  (hlo : ∀ w', Calls Try.prog 60 #[.agg (natC N)] w' fun e w2 => e = .returned (.tuple #[.int .i64 N, .bool true]) ∧ Below w'.heap.size w' w2)
  (hi1 : ∀ w', Calls Try.prog 31 #[.int .i64 1] w' fun e w2 => e = .returned (.agg (natC 1)) ∧ Below w'.heap.size w' w2)
  (hsu : ∀ w', Calls Try.prog 87 #[.agg (natC N), .agg (natC 1)] w' fun e w2 => e = .returned (.tuple #[.agg (natC L), .int .i64 lz]) ∧ Below w'.heap.size w' w2)
  (hdi : ∀ w', Calls Try.prog 88 #[.agg (natC L), .agg (natC F)] w' fun e w2 => e = .returned (.tuple #[.agg (natC K), .agg (natC R), .int .i64 er]) ∧ Below w'.heap.size w' w2)
  (hmu : ∀ w', Calls Try.prog 89 #[.agg (natC F), .agg (natC F)] w' fun e w2 => e = .returned (.tuple #[.agg (natC D), .agg (natC 0)]) ∧ Below w'.heap.size w' w2)
  (hcd : ∀ w', Calls Try.prog 44 #[.agg (natC D), .agg (natC N)] w' fun e w2 => e = .returned (.int .i64 cd) ∧ Below w'.heap.size w' w2)
  (hiz : ∀ w', Calls Try.prog 31 #[.int .i64 z] w' fun e w2 => e = .returned (.agg (natC a)) ∧ Below w'.heap.size w' w2)
  (hx1 : ∀ w', Calls Try.prog 45 #[.agg (natC a), .agg (natC L), .agg (natC N)] w' fun e w2 => e = .returned (.agg (natC Y)) ∧ Below w'.heap.size w' w2)
  (hx2 : ∀ w', Calls Try.prog 45 #[.agg (natC a), .agg (natC K), .agg (natC N)] w' fun e w2 => e = .returned (.agg (natC X)) ∧ Below w'.heap.size w' w2)
  (hsm : ∀ w', Calls Try.prog 90 #[.agg (natC X), .agg (natC 1), .agg (natC N)] w' fun e w2 => e = .returned (.tuple #[.agg (natC V), .int .i64 er2]) ∧ Below w'.heap.size w' w2)
  (hgc : ∀ w', Calls Try.prog 91 #[.agg (natC V), .agg (natC N)] w' fun e w2 => e = .returned (.agg (natC G)) ∧ Below w'.heap.size w' w2) :
  Calls Try.prog 62 #[.agg (natC N), .agg (natC F), .int .i64 z] w fun e w' => e = .returned (.bool B) ∧ Below w.heap.size w w' := by
 go_enter Try.func62, Try.ntmps62
 (repeat ((fail_if_success with_reducible refine rg ?_); go_step))
 apply wp_region_mixp [] [_, _, _] trivial List.nodup_nil
 ·intro p
  refine mx_box 25 _ rfl _ rfl ?_
  simp only [Act.put, pu]
  refine mx_box 25 _ rfl _ rfl ?_
  simp only [Act.put, pu]
  refine mx_val (.bool false) (fun _ => rfl) ?_
  simp only [Act.put, pu]
  refine mx_end ?_
  intro w2 hkw hrw hnew hdis
  have n3 := hnew 0 rfl
  have n4 := hnew 1 rfl
  have zr3 : Row w2 (p 0) (natC N) 25 := hrw 1 (25, natC N) rfl
  have zr4 : Row w2 (p 1) (natC F) 25 := hrw 3 (25, natC F) rfl
  have d3x4 := hdis 0 1 (by omega) rfl rfl
  have sb := hkw.below w.heap.size (Nat.le_refl _) (by simp)
  have b3 : w.heap.size ≤ p 0 := n3
  have b4 : w.heap.size ≤ p 1 := n4
  clear hkw hrw hnew hdis n3 n4
  generalize p 0 = g3 at *
  generalize p 1 = g4 at *
  have r3 := zr3
  clear zr3
  have r4 := zr4
  clear zr4
  (repeat ((fail_if_success with_reducible refine rg ?_); go_step))
  refine wp_region_qw (by kernel_rfl) (by kernel_rfl) ?_
  refine qw_move (by rfl) rfl rfl ?_
  simp only [Act.put, pu]
  refine qw_value (by rfl) (.bool false) (exec_lt_b _ _ _ _ rfl z 2 rfl rfl false (decide_eq_false (by omega))) ?_
  simp only [Act.put, pu]
  refine qw_move (by rfl) rfl rfl ?_
  simp only [Act.put, pu]
  refine qw_move (by rfl) rfl rfl ?_
  simp only [Act.put, pu]
  refine qw_value (by rfl) (.bool false) (exec_geq_i _ _ _ _ rfl z 65536 rfl rfl false (decide_eq_false (by omega))) ?_
  simp only [Act.put, pu]
  refine qw_pick false (v := .bool false) (by rfl) rfl rfl rfl ?_
  simp only [Act.put, pu]
  refine qw_move (by rfl) rfl rfl ?_
  simp only [Act.put, pu]
  refine qw_load (by rfl) 25 _ rfl _ rfl r3 4 _ Try.underlying25 size_nat ?_
  simp only [Act.put, pu]
  refine qw_call (by rfl) 85 _ _ rfl Try.func85 (by kernel_rfl) #[.agg (natC N)] rfl _ hmay ?_
  simp only [Act.put, pu]
  refine qw_value (by rfl) (.bool false) (exec_not _ _ rfl true rfl) ?_
  simp only [Act.put, pu]
  refine qw_pick false (v := .bool false) (by rfl) rfl rfl rfl ?_
  simp only [Act.put, pu]
  refine qw_move (by rfl) rfl rfl ?_
  simp only [Act.put, pu]
  refine qw_load (by rfl) 25 _ rfl _ rfl r3 4 _ Try.underlying25 size_nat ?_
  simp only [Act.put, pu]
  refine qw_call (by rfl) 31 _ _ rfl Try.func31 (by kernel_rfl) #[.int .i64 2] rfl _ hi2 ?_
  simp only [Act.put, pu]
  refine qw_call (by rfl) 44 _ _ rfl Try.func44 (by kernel_rfl) #[.agg (natC N), .agg (natC 2)] rfl _ hcm ?_
  simp only [Act.put, pu]
  refine qw_value (by rfl) (.bool false) (exec_leq_i _ _ _ _ rfl 1 0 rfl rfl false rfl) ?_
  simp only [Act.put, pu]
  refine qw_pick false (v := .bool false) (by rfl) rfl rfl rfl ?_
  simp only [Act.put, pu]
  refine qw_move (by rfl) rfl rfl ?_
  simp only [Act.put, pu]
  refine qw_load (by rfl) 25 _ rfl _ rfl r4 4 _ Try.underlying25 size_nat ?_
  simp only [Act.put, pu]
  refine qw_value (by rfl) (.agg (natC 0)) (exec_build0 25 rfl _ built_nat) ?_
  simp only [Act.put, pu]
  refine qw_value (by rfl) (.bool false) (fun w' => (exec_eql_nat _ _ _ rfl F 0 rfl rfl w').trans (by rw [hF])) ?_
  simp only [Act.put, pu]
  refine qw_pick false (v := .bool false) (by rfl) rfl rfl rfl ?_
  simp only [Act.put, pu]
  refine qw_nil ?_
  intro w3 hqb
  replace r3 := r3.belowAll hqb
  replace r4 := r4.belowAll hqb
  replace sb := below_on sb (Nat.le_refl _) hqb
  clear hqb
  clear hmay hi2 hcm
  (repeat ((fail_if_success with_reducible refine rg ?_); go_step))
  apply wp_region_mixp [] [_, _, _, _, _, _, _] trivial List.nodup_nil
  ·intro p
   refine mx_load 25 _ rfl _ rfl r3 (by simp <;> omega) 4 _ Try.underlying25 size_nat ?_
   simp only [Act.put, pu]
   refine mx_call 60 _ _ rfl Try.func60 (by kernel_rfl) #[.agg (natC N)] rfl _ hlo ?_
   simp only [Act.put, pu]
   refine mx_move rfl rfl ?_
   simp only [Act.put, pu]
   refine mx_ext rfl rfl rfl ?_
   simp only [Act.put, pu]
   refine mx_ext rfl rfl rfl ?_
   simp only [Act.put, pu]
   refine mx_asg rfl rfl ?_
   simp only [Act.put, pu]
   refine mx_asg rfl rfl ?_
   simp only [Act.put, pu]
   refine mx_end ?_
   intro w4 hkw hrw hnew hdis
   replace r3 := hkw.row r3 (by simp <;> omega)
   replace r4 := hkw.row r4 (by simp <;> omega)
   replace sb := sb.trans (hkw.below w.heap.size sb.size (by simp <;> omega))
   clear hkw hrw hnew hdis
   (repeat ((fail_if_success with_reducible refine rg ?_); go_step))
   refine wp_region_qp ?_
   refine qw_move (by rfl) rfl rfl ?_
   simp only [Act.put, pu]
   refine qw_move (by rfl) rfl rfl ?_
   simp only [Act.put, pu]
   refine qw_move (by rfl) rfl rfl ?_
   simp only [Act.put, pu]
   refine qw_value (by rfl) (.bool false) (exec_lt_b _ _ _ _ rfl N 2147483648 rfl rfl false (decide_eq_false (by omega))) ?_
   simp only [Act.put, pu]
   refine qw_pick true (v := .bool false) (by rfl) rfl rfl rfl ?_
   simp only [Act.put, pu]
   refine qw_nil ?_
   intro w5 hqb
   replace r3 := r3.belowAll hqb
   replace r4 := r4.belowAll hqb
   replace sb := below_on sb (Nat.le_refl _) hqb
   clear hqb
   (repeat ((fail_if_success with_reducible refine rg ?_); go_step))
   apply wp_region_mix (by kernel_rfl) [] [_, _, _, _, _, _, _, _, _] trivial List.nodup_nil
   ·intro p
    refine mx_load 25 _ rfl _ rfl r3 (by simp <;> omega) 4 _ Try.underlying25 size_nat ?_
    simp only [Act.put, pu]
    refine mx_call 31 _ _ rfl Try.func31 (by kernel_rfl) #[.int .i64 1] rfl _ hi1 ?_
    simp only [Act.put, pu]
    refine mx_call 87 _ _ rfl Try.func87 (by kernel_rfl) #[.agg (natC N), .agg (natC 1)] rfl _ hsu ?_
    simp only [Act.put, pu]
    refine mx_move rfl rfl ?_
    simp only [Act.put, pu]
    refine mx_ext rfl rfl rfl ?_
    simp only [Act.put, pu]
    refine mx_ext rfl rfl rfl ?_
    simp only [Act.put, pu]
    refine mx_new 25 rfl _ zero_nat ?_
    simp only [Act.put, pu]
    refine mx_put 13 25 _ _ rfl rfl rfl (natC L) rfl (by exact size_nat) (by simp only [natC_size]) (natC_one _) ?_
    simp only [Act.put]
    refine mx_asg rfl rfl ?_
    simp only [Act.put, pu]
    refine mx_end ?_
    intro w6 hkw hrw hnew hdis
    have n11 := hnew 6 rfl
    have zr11 : Row w6 (p 6) (natC L) 25 := hrw 13 (25, natC L) rfl
    replace r3 := hkw.row r3 (by simp <;> omega)
    replace r4 := hkw.row r4 (by simp <;> omega)
    replace sb := sb.trans (hkw.below w.heap.size sb.size (by simp <;> omega))
    clear hkw hrw hnew hdis n11
    generalize p 6 = g11 at *
    have r11 := zr11
    clear zr11
    (repeat ((fail_if_success with_reducible refine rg ?_); go_step))
    apply wp_region_mixp [] [_, _, _, _, _, _, _, _, _, _, _, _] trivial List.nodup_nil
    ·intro p
     refine mx_load 25 _ rfl _ rfl r11 (by simp <;> omega) 4 _ Try.underlying25 size_nat ?_
     simp only [Act.put, pu]
     refine mx_load 25 _ rfl _ rfl r4 (by simp <;> omega) 4 _ Try.underlying25 size_nat ?_
     simp only [Act.put, pu]
     refine mx_call 88 _ _ rfl Try.func88 (by kernel_rfl) #[.agg (natC L), .agg (natC F)] rfl _ hdi ?_
     simp only [Act.put, pu]
     refine mx_move rfl rfl ?_
     simp only [Act.put, pu]
     refine mx_ext rfl rfl rfl ?_
     simp only [Act.put, pu]
     refine mx_ext rfl rfl rfl ?_
     simp only [Act.put, pu]
     refine mx_ext rfl rfl rfl ?_
     simp only [Act.put, pu]
     refine mx_new 25 rfl _ zero_nat ?_
     simp only [Act.put, pu]
     refine mx_new 25 rfl _ zero_nat ?_
     simp only [Act.put, pu]
     refine mx_put 15 25 _ _ rfl rfl rfl (natC K) rfl (by exact size_nat) (by simp only [natC_size]) (natC_one _) ?_
     simp only [Act.put]
     refine mx_put 17 25 _ _ rfl rfl rfl (natC R) rfl (by exact size_nat) (by simp only [natC_size]) (natC_one _) ?_
     simp only [Act.put]
     refine mx_asg rfl rfl ?_
     simp only [Act.put, pu]
     refine mx_end ?_
     intro w7 hkw hrw hnew hdis
     have n13 := hnew 7 rfl
     have n14 := hnew 8 rfl
     have zr13 : Row w7 (p 7) (natC K) 25 := hrw 15 (25, natC K) rfl
     have zr14 : Row w7 (p 8) (natC R) 25 := hrw 17 (25, natC R) rfl
     replace r3 := hkw.row r3 (by simp <;> omega)
     replace r4 := hkw.row r4 (by simp <;> omega)
     replace r11 := hkw.row r11 (by simp <;> omega)
     replace sb := sb.trans (hkw.below w.heap.size sb.size (by simp <;> omega))
     clear hkw hrw hnew hdis n13 n14
     generalize p 7 = g13 at *
     generalize p 8 = g14 at *
     have r13 := zr13
     clear zr13
     have r14 := zr14
     clear zr14
     (repeat ((fail_if_success with_reducible refine rg ?_); go_step))
     apply wp_region_mixp [] [_, _, _, _, _, _, _, _, _, _] trivial List.nodup_nil
     ·intro p
      refine mx_load 25 _ rfl _ rfl r4 (by simp <;> omega) 4 _ Try.underlying25 size_nat ?_
      simp only [Act.put, pu]
      refine mx_load 25 _ rfl _ rfl r4 (by simp <;> omega) 4 _ Try.underlying25 size_nat ?_
      simp only [Act.put, pu]
      refine mx_call 89 _ _ rfl Try.func89 (by kernel_rfl) #[.agg (natC F), .agg (natC F)] rfl _ hmu ?_
      simp only [Act.put, pu]
      refine mx_move rfl rfl ?_
      simp only [Act.put, pu]
      refine mx_ext rfl rfl rfl ?_
      simp only [Act.put, pu]
      refine mx_ext rfl rfl rfl ?_
      simp only [Act.put, pu]
      refine mx_new 25 rfl _ zero_nat ?_
      simp only [Act.put, pu]
      refine mx_new 25 rfl _ zero_nat ?_
      simp only [Act.put, pu]
      refine mx_put 13 25 _ _ rfl rfl rfl (natC D) rfl (by exact size_nat) (by simp only [natC_size]) (natC_one _) ?_
      simp only [Act.put]
      refine mx_put 15 25 _ _ rfl rfl rfl (natC 0) rfl (by exact size_nat) (by simp only [natC_size]) (natC_one _) ?_
      simp only [Act.put]
      refine mx_end ?_
      intro w8 hkw hrw hnew hdis
      have n16 := hnew 6 rfl
      have n17 := hnew 7 rfl
      have zr16 : Row w8 (p 6) (natC D) 25 := hrw 13 (25, natC D) rfl
      have zr17 : Row w8 (p 7) (natC 0) 25 := hrw 15 (25, natC 0) rfl
      replace r3 := hkw.row r3 (by simp <;> omega)
      replace r11 := hkw.row r11 (by simp <;> omega)
      replace r13 := hkw.row r13 (by simp <;> omega)
      replace r14 := hkw.row r14 (by simp <;> omega)
      replace sb := sb.trans (hkw.below w.heap.size sb.size (by simp <;> omega))
      clear hkw hrw hnew hdis n16 n17
      generalize p 6 = g16 at *
      generalize p 7 = g17 at *
      have r16 := zr16
      clear zr16
      have r17 := zr17
      clear zr17
      (repeat ((fail_if_success with_reducible refine rg ?_); go_step))
      refine wp_region_qp ?_
      refine qw_load (by rfl) 25 _ rfl _ rfl r14 4 _ Try.underlying25 size_nat ?_
      simp only [Act.put, pu]
      refine qw_value (by rfl) (.agg (natC 0)) (exec_build0 25 rfl _ built_nat) ?_
      simp only [Act.put, pu]
      refine qw_value (by rfl) (.bool false) (fun w' => (exec_neq_nat _ _ _ rfl R 0 rfl rfl w').trans (by rw [hR])) ?_
      simp only [Act.put, pu]
      refine qw_move (by rfl) rfl rfl ?_
      simp only [Act.put, pu]
      refine qw_load (by rfl) 25 _ rfl _ rfl r17 4 _ Try.underlying25 size_nat ?_
      simp only [Act.put, pu]
      refine qw_value (by rfl) (.agg (natC 0)) (exec_build0 25 rfl _ built_nat) ?_
      simp only [Act.put, pu]
      refine qw_value (by rfl) (.bool true) (fun w' => (exec_eql_nat _ _ _ rfl 0 0 rfl rfl w').trans (by rw [decide_eq_true rfl])) ?_
      simp only [Act.put, pu]
      refine qw_move (by rfl) rfl rfl ?_
      simp only [Act.put, pu]
      refine qw_load (by rfl) 25 _ rfl _ rfl r16 4 _ Try.underlying25 size_nat ?_
      simp only [Act.put, pu]
      refine qw_load (by rfl) 25 _ rfl _ rfl r3 4 _ Try.underlying25 size_nat ?_
      simp only [Act.put, pu]
      refine qw_call (by rfl) 44 _ _ rfl Try.func44 (by kernel_rfl) #[.agg (natC D), .agg (natC N)] rfl _ hcd ?_
      simp only [Act.put, pu]
      refine qw_value (by rfl) (.bool false) (exec_leq_i _ _ _ _ rfl cd 0 rfl rfl false (decide_eq_false hc)) ?_
      simp only [Act.put, pu]
      refine qw_pick true (v := .bool false) (by rfl) rfl rfl rfl ?_
      simp only [Act.put, pu]
      refine qw_pick false (v := .bool false) (by rfl) rfl rfl rfl ?_
      simp only [Act.put, pu]
      refine qw_nil ?_
      intro w9 hqb
      replace r3 := r3.belowAll hqb
      replace r11 := r11.belowAll hqb
      replace r13 := r13.belowAll hqb
      replace sb := below_on sb (Nat.le_refl _) hqb
      clear hqb
      clear hdi hmu hcd hsu hlo
      (repeat ((fail_if_success with_reducible refine rg ?_); go_step))
      apply wp_region_mixp [] [_, _, _, _] trivial List.nodup_nil
      ·intro p
       refine mx_move rfl rfl ?_
       simp only [Act.put, pu]
       refine mx_call 31 _ _ rfl Try.func31 (by kernel_rfl) #[.int .i64 z] rfl _ hiz ?_
       simp only [Act.put, pu]
       refine mx_new 25 rfl _ zero_nat ?_
       simp only [Act.put, pu]
       refine mx_put 5 25 _ _ rfl rfl rfl (natC a) rfl (by exact size_nat) (by simp only [natC_size]) (natC_one _) ?_
       simp only [Act.put]
       refine mx_end ?_
       intro w10 hkw hrw hnew hdis
       have n18 := hnew 2 rfl
       have zr18 : Row w10 (p 2) (natC a) 25 := hrw 5 (25, natC a) rfl
       replace r3 := hkw.row r3 (by simp <;> omega)
       replace r11 := hkw.row r11 (by simp <;> omega)
       replace r13 := hkw.row r13 (by simp <;> omega)
       replace sb := sb.trans (hkw.below w.heap.size sb.size (by simp <;> omega))
       clear hkw hrw hnew hdis n18
       generalize p 2 = g18 at *
       have r18 := zr18
       clear zr18
       (repeat ((fail_if_success with_reducible refine rg ?_); go_step))
       refine wp_region_qp ?_
       refine qw_load (by rfl) 25 _ rfl _ rfl r18 4 _ Try.underlying25 size_nat ?_
       simp only [Act.put, pu]
       refine qw_load (by rfl) 25 _ rfl _ rfl r11 4 _ Try.underlying25 size_nat ?_
       simp only [Act.put, pu]
       refine qw_load (by rfl) 25 _ rfl _ rfl r3 4 _ Try.underlying25 size_nat ?_
       simp only [Act.put, pu]
       refine qw_call (by rfl) 45 _ _ rfl Try.func45 (by kernel_rfl) #[.agg (natC a), .agg (natC L), .agg (natC N)] rfl _ hx1 ?_
       simp only [Act.put, pu]
       refine qw_call (by rfl) 31 _ _ rfl Try.func31 (by kernel_rfl) #[.int .i64 1] rfl _ hi1 ?_
       simp only [Act.put, pu]
       refine qw_value (by rfl) (.bool false) (fun w' => (exec_neq_nat _ _ _ rfl Y 1 rfl rfl w').trans (by rw [hY, neq_no])) ?_
       simp only [Act.put, pu]
       refine qw_nil ?_
       intro w11 hqb
       replace r3 := r3.belowAll hqb
       replace r13 := r13.belowAll hqb
       replace r18 := r18.belowAll hqb
       replace sb := below_on sb (Nat.le_refl _) hqb
       clear hqb
       (repeat ((fail_if_success with_reducible refine rg ?_); go_step))
       apply wp_region_mix (by kernel_rfl) [] [_, _, _, _, _, _, _, _, _, _, _, _, _] trivial List.nodup_nil
       ·intro p
        refine mx_load 25 _ rfl _ rfl r18 (by simp <;> omega) 4 _ Try.underlying25 size_nat ?_
        simp only [Act.put, pu]
        refine mx_load 25 _ rfl _ rfl r13 (by simp <;> omega) 4 _ Try.underlying25 size_nat ?_
        simp only [Act.put, pu]
        refine mx_load 25 _ rfl _ rfl r3 (by simp <;> omega) 4 _ Try.underlying25 size_nat ?_
        simp only [Act.put, pu]
        refine mx_call 45 _ _ rfl Try.func45 (by kernel_rfl) #[.agg (natC a), .agg (natC K), .agg (natC N)] rfl _ hx2 ?_
        simp only [Act.put, pu]
        refine mx_call 31 _ _ rfl Try.func31 (by kernel_rfl) #[.int .i64 1] rfl _ hi1 ?_
        simp only [Act.put, pu]
        refine mx_load 25 _ rfl _ rfl r3 (by simp <;> omega) 4 _ Try.underlying25 size_nat ?_
        simp only [Act.put, pu]
        refine mx_call 90 _ _ rfl Try.func90 (by kernel_rfl) #[.agg (natC X), .agg (natC 1), .agg (natC N)] rfl _ hsm ?_
        simp only [Act.put, pu]
        refine mx_move rfl rfl ?_
        simp only [Act.put, pu]
        refine mx_ext rfl rfl rfl ?_
        simp only [Act.put, pu]
        refine mx_ext rfl rfl rfl ?_
        simp only [Act.put, pu]
        refine mx_new 25 rfl _ zero_nat ?_
        simp only [Act.put, pu]
        refine mx_put 21 25 _ _ rfl rfl rfl (natC V) rfl (by exact size_nat) (by simp only [natC_size]) (natC_one _) ?_
        simp only [Act.put]
        refine mx_asg rfl rfl ?_
        simp only [Act.put, pu]
        refine mx_end ?_
        intro w12 hkw hrw hnew hdis
        have n19 := hnew 10 rfl
        have zr19 : Row w12 (p 10) (natC V) 25 := hrw 21 (25, natC V) rfl
        replace r3 := hkw.row r3 (by simp <;> omega)
        replace sb := sb.trans (hkw.below w.heap.size sb.size (by simp <;> omega))
        clear hkw hrw hnew hdis n19
        generalize p 10 = g19 at *
        have r19 := zr19
        clear zr19
        (repeat ((fail_if_success with_reducible refine rg ?_); go_step))
        refine wp_region_qp ?_
        refine qw_load (by rfl) 25 _ rfl _ rfl r19 4 _ Try.underlying25 size_nat ?_
        simp only [Act.put, pu]
        refine qw_load (by rfl) 25 _ rfl _ rfl r3 4 _ Try.underlying25 size_nat ?_
        simp only [Act.put, pu]
        refine qw_call (by rfl) 91 _ _ rfl Try.func91 (by kernel_rfl) #[.agg (natC V), .agg (natC N)] rfl _ hgc ?_
        simp only [Act.put, pu]
        refine qw_call (by rfl) 31 _ _ rfl Try.func31 (by kernel_rfl) #[.int .i64 1] rfl _ hi1 ?_
        simp only [Act.put, pu]
        refine qw_value (by rfl) (.bool B) (fun w' => (exec_eql_nat _ _ _ rfl G 1 rfl rfl w').trans (by rw [hB])) ?_
        simp only [Act.put, pu]
        refine qw_asg (by rfl) rfl rfl ?_
        simp only [Act.put, pu]
        refine qw_nil ?_
        intro w13 hqb
        replace sb := below_on sb (Nat.le_refl _) hqb
        clear hqb
        go_wp2
        go_ret
        exact ⟨rfl, sb⟩
       ·kernel_rfl
      ·rfl
     ·rfl
    ·rfl
   ·kernel_rfl
  ·rfl
 ·rfl
theorem sub_one_mod (X N : Nat) (h : 1 ≤ X) (hN : X < N) : subZ X 1 N = X - 1 := by
 unfold subZ
 rw [if_neg (by omega), Nat.mod_eq_of_lt hN, Nat.mod_eq_of_lt (show 1 < N by omega)]
 rw [show X + (N - 1) = X - 1 + N by omega, Nat.add_mod_right, Nat.mod_eq_of_lt (by omega)]
theorem cmp_above (A B : Nat) (h : B < A) : cmpI A B = 1 := by
 unfold cmpI
 rw [if_neg (by omega), if_pos h]
theorem cmp_le (A B : Nat) : cmpI A B ≤ 0 ↔ A ≤ B := by
 unfold cmpI
 split
 ·constructor <;> intro <;> omega
 ·split
  ·constructor <;> intro <;> omega
  ·constructor <;> intro <;> omega
/-- The document's Step. -/
theorem rS_any (N F : Nat) (z : Int) (w : World) (hN : N < 4611686018427387904) (hF : F < 4611686018427387904) :
  Calls Try.prog 62 #[.agg (natC N), .agg (natC F), .int .i64 z] w fun e w' => e = .returned (.bool (stN N F z)) ∧ Below w.heap.size w w' := by
 unfold stN
 by_cases h1 : z < 2
 ·rw [decide_eq_false (show ¬ 2 ≤ z by omega), Bool.false_and]
  exact rS_less N F z w h1
 by_cases h2 : 65536 ≤ z
 ·rw [decide_eq_false (show ¬ z ≤ 65535 by omega), Bool.false_and, Bool.and_false]
  exact rS_great N F z w h2
 rw [decide_eq_true (show 2 ≤ z by omega), decide_eq_true (show z ≤ 65535 by omega), Bool.true_and, Bool.true_and]
 by_cases ho : N % 2 = 0
 ·rw [show mayN N F = false by unfold mayN; rw [decide_eq_false (show ¬ N % 2 = 1 by omega), Bool.false_and], Bool.false_and]
  exact rS_may N F z w (by omega) (by omega) fun w' => may_even N w' ho
 by_cases hN1 : N = 1
 ·subst hN1
  rw [show mayN 1 F = false by unfold mayN; rw [decide_eq_false (show ¬ 1 ≠ 1 by omega), Bool.false_and, Bool.and_false], Bool.false_and]
  exact rS_may 1 F z w (by omega) (by omega) fun w' => may_odd 1 false w' (by decide) rfl
 have hN' : N < 2 ^ 256 := by omega
 have hF' : F < 2 ^ 256 := by omega
 have hb1 : (!decide (N % 2 ^ 256 = 1 % 2 ^ 256)) = true := neq_yes N 1 hN' (by decide) hN1
 have hmay := fun w' => may_odd N true w' (by omega) hb1
 have hi2 : ∀ w', Calls Try.prog 31 #[.int .i64 2] w' fun e w2 => e = .returned (.agg (natC 2)) ∧ Below w'.heap.size w' w2 := fun w' => rint_any 2 w' (by decide)
 have hi1 : ∀ w', Calls Try.prog 31 #[.int .i64 1] w' fun e w2 => e = .returned (.agg (natC 1)) ∧ Below w'.heap.size w' w2 := fun w' => rint_any 1 w' (by decide)
 have hcm := fun w' => rcmp_any N 2 w' hN' (by decide)
 rw [cmp_above N 2 (by omega)] at hcm
 by_cases hF0 : F = 0
 ·rw [show mayN N F = false by unfold mayN; rw [decide_eq_false (show ¬ F ≠ 0 by omega), Bool.false_and, Bool.and_false, Bool.and_false], Bool.false_and]
  exact rS_zero N F z w (by omega) (by omega) hF0 hmay hi2 hcm
 have hFd : decide (F % 2 ^ 256 = 0 % 2 ^ 256) = false := by rw [eql_dec F 0 hF' (by decide), decide_eq_false hF0]
 have hlo := fun w' => rlow_any N w' hN'
 rw [(low_small N (by omega)).1, (low_small N (by omega)).2] at hlo
 have hlf := fun w' => rlow_any F w' hF'
 rw [(low_small F (by omega)).1, (low_small F (by omega)).2] at hlf
 obtain ⟨a, rfl⟩ := Int.eq_ofNat_of_zero_le (show 0 ≤ z by omega)
 rw [Int.toNat_natCast]
 by_cases hs : N < 2147483648
 ·exact rS_small N F a _ w (by omega) (by omega) hFd hs hmay hi2 hcm hlo hlf fun w' => rst_any N F a w' (by omega) (by omega) hs (by omega) (by omega)
 have hsu := fun w' => rsub_any N 1 w' hN' (by decide)
 rw [natC_less1 N (by omega)] at hsu
 have hdi := fun w' => rdiv_any (N - 1) F w' (by omega) hF'
 rw [show divZ (N - 1) F = (N - 1) / F from if_neg hF0, show modZ (N - 1) F = (N - 1) % F from if_neg hF0] at hdi
 have hDl : F * F < 2 ^ 256 := Nat.lt_of_le_of_lt (Nat.mul_le_mul (Nat.le_of_lt hF) (Nat.le_of_lt hF)) (by decide)
 have hmu := fun w' => rmul_any F F w' hF' hF'
 rw [show F * F / 2 ^ 256 = 0 from Nat.div_eq_of_lt hDl] at hmu
 have hml : (N - 1) % F < 2 ^ 256 := Nat.lt_trans (Nat.mod_lt _ (by omega)) hF'
 have hcd := fun w' => rcmp_any (F * F) N w' hDl hN'
 by_cases hr : (N - 1) % F = 0
 ·have hR : (!decide ((N - 1) % F % 2 ^ 256 = 0 % 2 ^ 256)) = false := by rw [hr]; exact neq_no 0
  by_cases hq : F * F ≤ N
  ·rw [show mayN N F = false by unfold mayN; rw [decide_eq_false (show ¬ N < F * F by omega), Bool.and_false, Bool.and_false, Bool.and_false, Bool.and_false], Bool.false_and]
   exact rS_low N F a _ _ _ _ _ _ _ w (by omega) (by omega) hFd hs hR ((cmp_le _ _).2 hq) hmay hi2 hcm hlo hi1 hsu hdi hmu hcd
  have hc : ¬ cmpI (F * F) N ≤ 0 := fun h => hq ((cmp_le _ _).1 h)
  have hm : mayN N F = true := by
   unfold mayN
   rw [decide_eq_true (show N % 2 = 1 by omega), decide_eq_true hN1, decide_eq_true hF0, decide_eq_true hr, decide_eq_true (show N < F * F by omega)]; rfl
  rw [hm, Bool.true_and]
  have hiz := fun w' => rint_any (a : Int) w' (by omega)
  rw [Int.toNat_natCast] at hiz
  have lm' : ∀ y, y % N < 2 ^ 256 := fun y => Nat.lt_trans (Nat.mod_lt _ (by omega)) hN'
  have hKl : (N - 1) / F < 2 ^ 256 := Nat.lt_of_le_of_lt (Nat.div_le_self _ _) (by omega)
  have hx1 := fun w' => rexp_any a (N - 1) N w' (by omega) (by omega) (by omega) hN'
  have hx2 := fun w' => rexp_any a ((N - 1) / F) N w' (by omega) hKl (by omega) hN'
  have hpw : (a ^ ((N - 1) / F) % N) ^ F % N = a ^ (N - 1) % N := by
   rw [← Nat.pow_mod, ← Nat.pow_mul, Nat.div_mul_cancel (Nat.dvd_of_mod_eq_zero hr)]
  unfold shN
  rw [hpw]
  by_cases hy : a ^ (N - 1) % N = 1
  ·rw [decide_eq_true hy, Bool.true_and]
   have hX : 1 ≤ a ^ ((N - 1) / F) % N := by
    rcases Nat.eq_zero_or_pos (a ^ ((N - 1) / F) % N) with h0 | h0
    ·rw [← hpw, h0, Nat.zero_pow (by omega), Nat.zero_mod] at hy; cases hy
    ·exact h0
   have hXn := Nat.mod_lt (a ^ ((N - 1) / F)) (show 0 < N by omega)
   have hsm := fun w' => rsubmod_any (a ^ ((N - 1) / F) % N) 1 N w' (lm' _) (by decide) hN'
   rw [show subZ (a ^ ((N - 1) / F) % N) 1 N = a ^ ((N - 1) / F) % N - 1 from sub_one_mod _ N hX hXn] at hsm
   have hgc := fun w' => rgcd_any (a ^ ((N - 1) / F) % N - 1) N w' (by omega) hN'
   rw [Nat.gcd_comm] at hgc
   have hG : Nat.gcd N (a ^ ((N - 1) / F) % N - 1) < 2 ^ 256 := Nat.lt_of_le_of_lt (Nat.gcd_le_left _ (by omega)) hN'
   exact rS_yes N F a _ _ _ _ a _ _ _ _ _ _ _ _ _ w (by omega) (by omega) hFd hs hR hc hy (eql_dec _ 1 hG (by decide)) hmay hi2 hcm hlo hi1 hsu hdi hmu hcd hiz hx1 hx2 hsm hgc
  ·rw [decide_eq_false hy, Bool.false_and]
   exact rS_not N F a _ _ _ _ a _ _ _ _ w (by omega) (by omega) hFd hs hR hc (neq_yes _ 1 (lm' _) (by decide) hy) hmay hi2 hcm hlo hi1 hsu hdi hmu hcd hiz hx1
 ·rw [show mayN N F = false by unfold mayN; rw [decide_eq_false hr, Bool.false_and, Bool.and_false, Bool.and_false, Bool.and_false], Bool.false_and]
  exact rS_rest N F a _ _ _ _ _ _ w (by omega) (by omega) hFd hs (neq_yes _ 0 hml (by decide) hr) hmay hi2 hcm hlo hi1 hsu hdi hmu
set_option maxRecDepth 100000 in
set_option maxHeartbeats 2000000 in
theorem rC_none (n c : Nat) (ab : Option Addr) (w : World) (h : n < 1) :
  Calls Try.prog 43 #[.slice ab n c] w fun e w' => e = .returned (.bool false) ∧ Below w.heap.size w w' := by
 go_enter Try.func43, Try.ntmps43
 (repeat ((fail_if_success with_reducible refine rg ?_); go_step))
 apply wp_region_mixp [] [_] trivial List.nodup_nil
 ·intro p
  refine mx_val (.bool false) (fun _ => rfl) ?_
  simp only [Act.put, pu]
  refine mx_end ?_
  intro w2 hkw hrw hnew hdis
  have sb := hkw.below w.heap.size (Nat.le_refl _) (by simp)
  clear hkw hrw hnew hdis
  (repeat ((fail_if_success with_reducible refine rg ?_); go_step))
  refine wp_region_qp ?_
  refine qw_move (by rfl) rfl rfl ?_
  simp only [Act.put, pu]
  refine qw_value (by rfl) (.int .i64 n) (exec_len_s 22 _ rfl ab n c rfl sl_link) ?_
  simp only [Act.put, pu]
  refine qw_value (by rfl) (.bool true) (exec_lt_b _ _ _ _ rfl n 1 rfl rfl true (decide_eq_true (by omega))) ?_
  simp only [Act.put, pu]
  refine qw_move (by rfl) rfl rfl ?_
  simp only [Act.put, pu]
  refine qw_skip (by rfl) ?_
  simp only [Act.put, pu]
  refine qw_skip (by rfl) ?_
  simp only [Act.put, pu]
  refine qw_skip (by rfl) ?_
  simp only [Act.put, pu]
  refine qw_pick true (v := .bool true) (by rfl) rfl rfl rfl ?_
  simp only [Act.put, pu]
  refine qw_nil ?_
  intro w3 hqb
  replace sb := below_on sb (Nat.le_refl _) hqb
  clear hqb
  go_wp2
  go_ret
  exact ⟨rfl, sb⟩
 ·rfl
set_option maxRecDepth 100000 in
set_option maxHeartbeats 2000000 in
theorem rC_long (n c : Nat) (ab : Option Addr) (w : World) (h : 8 < n) :
  Calls Try.prog 43 #[.slice ab n c] w fun e w' => e = .returned (.bool false) ∧ Below w.heap.size w w' := by
 go_enter Try.func43, Try.ntmps43
 (repeat ((fail_if_success with_reducible refine rg ?_); go_step))
 apply wp_region_mixp [] [_] trivial List.nodup_nil
 ·intro p
  refine mx_val (.bool false) (fun _ => rfl) ?_
  simp only [Act.put, pu]
  refine mx_end ?_
  intro w2 hkw hrw hnew hdis
  have sb := hkw.below w.heap.size (Nat.le_refl _) (by simp)
  clear hkw hrw hnew hdis
  (repeat ((fail_if_success with_reducible refine rg ?_); go_step))
  refine wp_region_qp ?_
  refine qw_move (by rfl) rfl rfl ?_
  simp only [Act.put, pu]
  refine qw_value (by rfl) (.int .i64 n) (exec_len_s 22 _ rfl ab n c rfl sl_link) ?_
  simp only [Act.put, pu]
  refine qw_value (by rfl) (.bool false) (exec_lt_b _ _ _ _ rfl n 1 rfl rfl false (decide_eq_false (by omega))) ?_
  simp only [Act.put, pu]
  refine qw_move (by rfl) rfl rfl ?_
  simp only [Act.put, pu]
  refine qw_move (by rfl) rfl rfl ?_
  simp only [Act.put, pu]
  refine qw_value (by rfl) (.int .i64 n) (exec_len_s 22 _ rfl ab n c rfl sl_link) ?_
  simp only [Act.put, pu]
  refine qw_value (by rfl) (.bool true) (exec_gt_i _ _ _ _ rfl n 8 rfl rfl true (decide_eq_true (by omega))) ?_
  simp only [Act.put, pu]
  refine qw_pick false (v := .bool true) (by rfl) rfl rfl rfl ?_
  simp only [Act.put, pu]
  refine qw_nil ?_
  intro w3 hqb
  replace sb := below_on sb (Nat.le_refl _) hqb
  clear hqb
  go_wp2
  go_ret
  exact ⟨rfl, sb⟩
 ·rfl
set_option maxRecDepth 100000 in
set_option maxHeartbeats 2000000 in
theorem rC_big (n c : Nat) (ab : Option Addr) (N : Nat → Nat) (A : Nat → Int) (gb ob : Nat) (bcs : Array Value) (tb : TypeId) (w : World) (h1 : 1 ≤ n) (h8 : n ≤ 8) (hL : LinksAt w ab n N A gb ob bcs tb)
  (hlo : ∀ w', Calls Try.prog 60 #[.agg (natC (N 0))] w' fun e w2 => e = .returned (.tuple #[.int .i64 (N 0), .bool true]) ∧ Below w'.heap.size w' w2)
  (hsm : ∀ w', Calls Try.prog 61 #[.int .i64 (N 0)] w' fun e w2 => e = .returned (.bool false) ∧ Below w'.heap.size w' w2) :
  Calls Try.prog 43 #[.slice ab n c] w fun e w' => e = .returned (.bool false) ∧ Below w.heap.size w w' := by
 have HL : Hid (LinksAt w ab n N A gb ob bcs tb) := hL
 clear hL
 go_enter Try.func43, Try.ntmps43
 (repeat ((fail_if_success with_reducible refine rg ?_); go_step))
 apply wp_region_mixp [] [_] trivial List.nodup_nil
 ·intro p
  refine mx_val (.bool false) (fun _ => rfl) ?_
  simp only [Act.put, pu]
  refine mx_end ?_
  intro w2 hkw hrw hnew hdis
  have sb := hkw.below w.heap.size (Nat.le_refl _) (by simp)
  clear hkw hrw hnew hdis
  (repeat ((fail_if_success with_reducible refine rg ?_); go_step))
  refine wp_region_qp ?_
  refine qw_move (by rfl) rfl rfl ?_
  simp only [Act.put, pu]
  refine qw_value (by rfl) (.int .i64 n) (exec_len_s 22 _ rfl ab n c rfl sl_link) ?_
  simp only [Act.put, pu]
  refine qw_value (by rfl) (.bool false) (exec_lt_b _ _ _ _ rfl n 1 rfl rfl false (decide_eq_false (by omega))) ?_
  simp only [Act.put, pu]
  refine qw_move (by rfl) rfl rfl ?_
  simp only [Act.put, pu]
  refine qw_move (by rfl) rfl rfl ?_
  simp only [Act.put, pu]
  refine qw_value (by rfl) (.int .i64 n) (exec_len_s 22 _ rfl ab n c rfl sl_link) ?_
  simp only [Act.put, pu]
  refine qw_value (by rfl) (.bool false) (exec_gt_i _ _ _ _ rfl n 8 rfl rfl false (decide_eq_false (by omega))) ?_
  simp only [Act.put, pu]
  refine qw_pick false (v := .bool false) (by rfl) rfl rfl rfl ?_
  simp only [Act.put, pu]
  refine qw_nil ?_
  intro w3 hqb
  replace sb := below_on sb (Nat.le_refl _) hqb
  clear hqb
  obtain h0 | ⟨rfl, rB, hat⟩ := (HL.out.below sb).at'
  ·omega
  (repeat ((fail_if_success with_reducible refine rg ?_); go_step))
  refine wp_region_qp ?_
  refine qw_move (by rfl) rfl rfl ?_
  simp only [Act.put, pu]
  refine qw_value (by rfl) (.pointer (some ⟨gb, ob + (0) * 5, none⟩)) (exec_index_s 22 _ _ rfl gb ob n c rfl (0) rfl (by omega) _ Try.underlying22 5 Try.sizeOf58) ?_
  simp only [Act.put, pu]
  refine qw_value (by rfl) (.pointer (some ⟨gb, ob + (0) * 5, none⟩)) (exec_field 58 _ 0 rfl gb (ob + (0) * 5) rfl _ Try.underlying58 _ rfl 3 Try.sizeOf25) ?_
  simp only [Act.put, pu]
  refine qw_loadmR (by rfl) 25 _ rfl _ ((ob + (0) * 5)) rfl rB (natC (N 0)) (lk_part (hat 0 (by omega))) _ Try.underlying25 rfl size_nat ?_
  simp only [Act.put, pu]
  refine qw_call (by rfl) 60 _ _ rfl Try.func60 (by kernel_rfl) #[.agg (natC (N 0))] rfl _ hlo ?_
  simp only [Act.put, pu]
  refine qw_move (by rfl) rfl rfl ?_
  simp only [Act.put, pu]
  refine qw_ext (by rfl) rfl rfl rfl ?_
  simp only [Act.put, pu]
  refine qw_ext (by rfl) rfl rfl rfl ?_
  simp only [Act.put, pu]
  refine qw_asg (by rfl) rfl rfl ?_
  simp only [Act.put, pu]
  refine qw_asg (by rfl) rfl rfl ?_
  simp only [Act.put, pu]
  refine qw_nil ?_
  intro w4 hqb
  replace rB := rB.belowAll hqb
  replace sb := below_on sb (Nat.le_refl _) hqb
  clear hqb
  (repeat ((fail_if_success with_reducible refine rg ?_); go_step))
  refine wp_region_qp ?_
  refine qw_move (by rfl) rfl rfl ?_
  simp only [Act.put, pu]
  refine qw_value (by rfl) (.bool false) (exec_not _ _ rfl true rfl) ?_
  simp only [Act.put, pu]
  refine qw_move (by rfl) rfl rfl ?_
  simp only [Act.put, pu]
  refine qw_move (by rfl) rfl rfl ?_
  simp only [Act.put, pu]
  refine qw_call (by rfl) 61 _ _ rfl Try.func61 (by kernel_rfl) #[.int .i64 (N 0)] rfl _ hsm ?_
  simp only [Act.put, pu]
  refine qw_value (by rfl) (.bool true) (exec_not _ _ rfl false rfl) ?_
  simp only [Act.put, pu]
  refine qw_pick false (v := .bool true) (by rfl) rfl rfl rfl ?_
  simp only [Act.put, pu]
  refine qw_move (by rfl) rfl rfl ?_
  simp only [Act.put, pu]
  refine qw_skip (by rfl) ?_
  simp only [Act.put, pu]
  refine qw_skip (by rfl) ?_
  simp only [Act.put, pu]
  refine qw_skip (by rfl) ?_
  simp only [Act.put, pu]
  refine qw_skip (by rfl) ?_
  simp only [Act.put, pu]
  refine qw_skip (by rfl) ?_
  simp only [Act.put, pu]
  refine qw_pick true (v := .bool true) (by rfl) rfl rfl rfl ?_
  simp only [Act.put, pu]
  refine qw_nil ?_
  intro w5 hqb
  replace sb := below_on sb (Nat.le_refl _) hqb
  clear hqb
  go_wp2
  go_ret
  exact ⟨rfl, sb⟩
 ·rfl
set_option maxRecDepth 100000 in
set_option maxHeartbeats 2000000 in
theorem rC_ones (n c : Nat) (ab : Option Addr) (N : Nat → Nat) (A : Nat → Int) (gb ob : Nat) (bcs : Array Value) (tb : TypeId) (w : World) (h1 : 1 ≤ n) (h8 : n ≤ 8) (hL : LinksAt w ab n N A gb ob bcs tb)
  (hlo : ∀ w', Calls Try.prog 60 #[.agg (natC (N 0))] w' fun e w2 => e = .returned (.tuple #[.int .i64 (N 0), .bool true]) ∧ Below w'.heap.size w' w2)
  (hsm : ∀ w', Calls Try.prog 61 #[.int .i64 (N 0)] w' fun e w2 => e = .returned (.bool true) ∧ Below w'.heap.size w' w2) (hz : ¬ A 0 = 0) :
  Calls Try.prog 43 #[.slice ab n c] w fun e w' => e = .returned (.bool false) ∧ Below w.heap.size w w' := by
 have HL : Hid (LinksAt w ab n N A gb ob bcs tb) := hL
 clear hL
 go_enter Try.func43, Try.ntmps43
 (repeat ((fail_if_success with_reducible refine rg ?_); go_step))
 apply wp_region_mixp [] [_] trivial List.nodup_nil
 ·intro p
  refine mx_val (.bool false) (fun _ => rfl) ?_
  simp only [Act.put, pu]
  refine mx_end ?_
  intro w2 hkw hrw hnew hdis
  have sb := hkw.below w.heap.size (Nat.le_refl _) (by simp)
  clear hkw hrw hnew hdis
  (repeat ((fail_if_success with_reducible refine rg ?_); go_step))
  refine wp_region_qp ?_
  refine qw_move (by rfl) rfl rfl ?_
  simp only [Act.put, pu]
  refine qw_value (by rfl) (.int .i64 n) (exec_len_s 22 _ rfl ab n c rfl sl_link) ?_
  simp only [Act.put, pu]
  refine qw_value (by rfl) (.bool false) (exec_lt_b _ _ _ _ rfl n 1 rfl rfl false (decide_eq_false (by omega))) ?_
  simp only [Act.put, pu]
  refine qw_move (by rfl) rfl rfl ?_
  simp only [Act.put, pu]
  refine qw_move (by rfl) rfl rfl ?_
  simp only [Act.put, pu]
  refine qw_value (by rfl) (.int .i64 n) (exec_len_s 22 _ rfl ab n c rfl sl_link) ?_
  simp only [Act.put, pu]
  refine qw_value (by rfl) (.bool false) (exec_gt_i _ _ _ _ rfl n 8 rfl rfl false (decide_eq_false (by omega))) ?_
  simp only [Act.put, pu]
  refine qw_pick false (v := .bool false) (by rfl) rfl rfl rfl ?_
  simp only [Act.put, pu]
  refine qw_nil ?_
  intro w3 hqb
  replace sb := below_on sb (Nat.le_refl _) hqb
  clear hqb
  obtain h0 | ⟨rfl, rB, hat⟩ := (HL.out.below sb).at'
  ·omega
  (repeat ((fail_if_success with_reducible refine rg ?_); go_step))
  refine wp_region_qp ?_
  refine qw_move (by rfl) rfl rfl ?_
  simp only [Act.put, pu]
  refine qw_value (by rfl) (.pointer (some ⟨gb, ob + (0) * 5, none⟩)) (exec_index_s 22 _ _ rfl gb ob n c rfl (0) rfl (by omega) _ Try.underlying22 5 Try.sizeOf58) ?_
  simp only [Act.put, pu]
  refine qw_value (by rfl) (.pointer (some ⟨gb, ob + (0) * 5, none⟩)) (exec_field 58 _ 0 rfl gb (ob + (0) * 5) rfl _ Try.underlying58 _ rfl 3 Try.sizeOf25) ?_
  simp only [Act.put, pu]
  refine qw_loadmR (by rfl) 25 _ rfl _ ((ob + (0) * 5)) rfl rB (natC (N 0)) (lk_part (hat 0 (by omega))) _ Try.underlying25 rfl size_nat ?_
  simp only [Act.put, pu]
  refine qw_call (by rfl) 60 _ _ rfl Try.func60 (by kernel_rfl) #[.agg (natC (N 0))] rfl _ hlo ?_
  simp only [Act.put, pu]
  refine qw_move (by rfl) rfl rfl ?_
  simp only [Act.put, pu]
  refine qw_ext (by rfl) rfl rfl rfl ?_
  simp only [Act.put, pu]
  refine qw_ext (by rfl) rfl rfl rfl ?_
  simp only [Act.put, pu]
  refine qw_asg (by rfl) rfl rfl ?_
  simp only [Act.put, pu]
  refine qw_asg (by rfl) rfl rfl ?_
  simp only [Act.put, pu]
  refine qw_nil ?_
  intro w4 hqb
  replace rB := rB.belowAll hqb
  replace sb := below_on sb (Nat.le_refl _) hqb
  clear hqb
  (repeat ((fail_if_success with_reducible refine rg ?_); go_step))
  refine wp_region_qp ?_
  refine qw_move (by rfl) rfl rfl ?_
  simp only [Act.put, pu]
  refine qw_value (by rfl) (.bool false) (exec_not _ _ rfl true rfl) ?_
  simp only [Act.put, pu]
  refine qw_move (by rfl) rfl rfl ?_
  simp only [Act.put, pu]
  refine qw_move (by rfl) rfl rfl ?_
  simp only [Act.put, pu]
  refine qw_call (by rfl) 61 _ _ rfl Try.func61 (by kernel_rfl) #[.int .i64 (N 0)] rfl _ hsm ?_
  simp only [Act.put, pu]
  refine qw_value (by rfl) (.bool false) (exec_not _ _ rfl true rfl) ?_
  simp only [Act.put, pu]
  refine qw_pick false (v := .bool false) (by rfl) rfl rfl rfl ?_
  simp only [Act.put, pu]
  refine qw_move (by rfl) rfl rfl ?_
  simp only [Act.put, pu]
  refine qw_move (by rfl) rfl rfl ?_
  simp only [Act.put, pu]
  refine qw_value (by rfl) (.pointer (some ⟨gb, ob + (0) * 5, none⟩)) (exec_index_s 22 _ _ rfl gb ob n c rfl (0) rfl (by omega) _ Try.underlying22 5 Try.sizeOf58) ?_
  simp only [Act.put, pu]
  refine qw_value (by rfl) (.pointer (some ⟨gb, ob + (0) * 5 + 4, none⟩)) (exec_field 58 _ 1 rfl gb (ob + (0) * 5) rfl _ Try.underlying58 _ rfl 0 Try.sizeOf3) ?_
  simp only [Act.put, pu]
  refine qw_loadcR (by rfl) 3 _ rfl _ (ob + (0) * 5 + 4) rfl rB (.int .i64 (A 0)) (lk_last (hat 0 (by omega))) Try.isAgg3 ?_
  simp only [Act.put, pu]
  refine qw_value (by rfl) (.bool true) (exec_neq_k .i64 _ _ _ _ rfl (A 0) 0 rfl rfl true (by rw [decide_eq_false hz]; rfl)) ?_
  simp only [Act.put, pu]
  refine qw_pick false (v := .bool true) (by rfl) rfl rfl rfl ?_
  simp only [Act.put, pu]
  refine qw_nil ?_
  intro w5 hqb
  replace sb := below_on sb (Nat.le_refl _) hqb
  clear hqb
  go_wp2
  go_ret
  exact ⟨rfl, sb⟩
 ·rfl
set_option maxRecDepth 100000 in
set_option maxHeartbeats 2000000 in
theorem rC_rest (n c : Nat) (ab : Option Addr) (N : Nat → Nat) (A : Nat → Int) (gb ob : Nat) (bcs : Array Value) (tb : TypeId) (w : World) (h1 : 1 ≤ n) (h8 : n ≤ 8) (hL : LinksAt w ab n N A gb ob bcs tb)
  (hlo : ∀ w', Calls Try.prog 60 #[.agg (natC (N 0))] w' fun e w2 => e = .returned (.tuple #[.int .i64 (N 0), .bool true]) ∧ Below w'.heap.size w' w2)
  (hsm : ∀ w', Calls Try.prog 61 #[.int .i64 (N 0)] w' fun e w2 => e = .returned (.bool true) ∧ Below w'.heap.size w' w2) (hz : A 0 = 0) (hl62 : ∀ k, k < n → N k < 4611686018427387904) :
  Calls Try.prog 43 #[.slice ab n c] w fun e w' => e = .returned (.bool (lkN N A (n - 1))) ∧ Below w.heap.size w w' := by
 have HL : Hid (LinksAt w ab n N A gb ob bcs tb) := hL
 clear hL
 go_enter Try.func43, Try.ntmps43
 (repeat ((fail_if_success with_reducible refine rg ?_); go_step))
 apply wp_region_mixp [] [_] trivial List.nodup_nil
 ·intro p
  refine mx_val (.bool false) (fun _ => rfl) ?_
  simp only [Act.put, pu]
  refine mx_end ?_
  intro w2 hkw hrw hnew hdis
  have sb := hkw.below w.heap.size (Nat.le_refl _) (by simp)
  clear hkw hrw hnew hdis
  (repeat ((fail_if_success with_reducible refine rg ?_); go_step))
  refine wp_region_qp ?_
  refine qw_move (by rfl) rfl rfl ?_
  simp only [Act.put, pu]
  refine qw_value (by rfl) (.int .i64 n) (exec_len_s 22 _ rfl ab n c rfl sl_link) ?_
  simp only [Act.put, pu]
  refine qw_value (by rfl) (.bool false) (exec_lt_b _ _ _ _ rfl n 1 rfl rfl false (decide_eq_false (by omega))) ?_
  simp only [Act.put, pu]
  refine qw_move (by rfl) rfl rfl ?_
  simp only [Act.put, pu]
  refine qw_move (by rfl) rfl rfl ?_
  simp only [Act.put, pu]
  refine qw_value (by rfl) (.int .i64 n) (exec_len_s 22 _ rfl ab n c rfl sl_link) ?_
  simp only [Act.put, pu]
  refine qw_value (by rfl) (.bool false) (exec_gt_i _ _ _ _ rfl n 8 rfl rfl false (decide_eq_false (by omega))) ?_
  simp only [Act.put, pu]
  refine qw_pick false (v := .bool false) (by rfl) rfl rfl rfl ?_
  simp only [Act.put, pu]
  refine qw_nil ?_
  intro w3 hqb
  replace sb := below_on sb (Nat.le_refl _) hqb
  clear hqb
  obtain h0 | ⟨rfl, rB, hat⟩ := (HL.out.below sb).at'
  ·omega
  (repeat ((fail_if_success with_reducible refine rg ?_); go_step))
  refine wp_region_qp ?_
  refine qw_move (by rfl) rfl rfl ?_
  simp only [Act.put, pu]
  refine qw_value (by rfl) (.pointer (some ⟨gb, ob + (0) * 5, none⟩)) (exec_index_s 22 _ _ rfl gb ob n c rfl (0) rfl (by omega) _ Try.underlying22 5 Try.sizeOf58) ?_
  simp only [Act.put, pu]
  refine qw_value (by rfl) (.pointer (some ⟨gb, ob + (0) * 5, none⟩)) (exec_field 58 _ 0 rfl gb (ob + (0) * 5) rfl _ Try.underlying58 _ rfl 3 Try.sizeOf25) ?_
  simp only [Act.put, pu]
  refine qw_loadmR (by rfl) 25 _ rfl _ ((ob + (0) * 5)) rfl rB (natC (N 0)) (lk_part (hat 0 (by omega))) _ Try.underlying25 rfl size_nat ?_
  simp only [Act.put, pu]
  refine qw_call (by rfl) 60 _ _ rfl Try.func60 (by kernel_rfl) #[.agg (natC (N 0))] rfl _ hlo ?_
  simp only [Act.put, pu]
  refine qw_move (by rfl) rfl rfl ?_
  simp only [Act.put, pu]
  refine qw_ext (by rfl) rfl rfl rfl ?_
  simp only [Act.put, pu]
  refine qw_ext (by rfl) rfl rfl rfl ?_
  simp only [Act.put, pu]
  refine qw_asg (by rfl) rfl rfl ?_
  simp only [Act.put, pu]
  refine qw_asg (by rfl) rfl rfl ?_
  simp only [Act.put, pu]
  refine qw_nil ?_
  intro w4 hqb
  replace rB := rB.belowAll hqb
  replace sb := below_on sb (Nat.le_refl _) hqb
  clear hqb
  (repeat ((fail_if_success with_reducible refine rg ?_); go_step))
  refine wp_region_qp ?_
  refine qw_move (by rfl) rfl rfl ?_
  simp only [Act.put, pu]
  refine qw_value (by rfl) (.bool false) (exec_not _ _ rfl true rfl) ?_
  simp only [Act.put, pu]
  refine qw_move (by rfl) rfl rfl ?_
  simp only [Act.put, pu]
  refine qw_move (by rfl) rfl rfl ?_
  simp only [Act.put, pu]
  refine qw_call (by rfl) 61 _ _ rfl Try.func61 (by kernel_rfl) #[.int .i64 (N 0)] rfl _ hsm ?_
  simp only [Act.put, pu]
  refine qw_value (by rfl) (.bool false) (exec_not _ _ rfl true rfl) ?_
  simp only [Act.put, pu]
  refine qw_pick false (v := .bool false) (by rfl) rfl rfl rfl ?_
  simp only [Act.put, pu]
  refine qw_move (by rfl) rfl rfl ?_
  simp only [Act.put, pu]
  refine qw_move (by rfl) rfl rfl ?_
  simp only [Act.put, pu]
  refine qw_value (by rfl) (.pointer (some ⟨gb, ob + (0) * 5, none⟩)) (exec_index_s 22 _ _ rfl gb ob n c rfl (0) rfl (by omega) _ Try.underlying22 5 Try.sizeOf58) ?_
  simp only [Act.put, pu]
  refine qw_value (by rfl) (.pointer (some ⟨gb, ob + (0) * 5 + 4, none⟩)) (exec_field 58 _ 1 rfl gb (ob + (0) * 5) rfl _ Try.underlying58 _ rfl 0 Try.sizeOf3) ?_
  simp only [Act.put, pu]
  refine qw_loadcR (by rfl) 3 _ rfl _ (ob + (0) * 5 + 4) rfl rB (.int .i64 (A 0)) (lk_last (hat 0 (by omega))) Try.isAgg3 ?_
  simp only [Act.put, pu]
  refine qw_value (by rfl) (.bool false) (exec_neq_k .i64 _ _ _ _ rfl (A 0) 0 rfl rfl false (by rw [decide_eq_true hz]; rfl)) ?_
  simp only [Act.put, pu]
  refine qw_pick false (v := .bool false) (by rfl) rfl rfl rfl ?_
  simp only [Act.put, pu]
  refine qw_nil ?_
  intro w5 hqb
  replace sb := below_on sb (Nat.le_refl _) hqb
  clear hqb
  clear rB hat hlo hsm hz
  go_wp2_with fail
  go_loopg [5] (n - 1) (fun g s5 wr => ∃ k : Nat, k + g = n - 1 ∧ s5 = .int .i64 (k + 1 : Nat) ∧ lkN N A k = true ∧ Below w.heap.size w wr)
  case atStart => exact ⟨0, by omega, rfl, rfl, sb⟩
  case round =>
   clear sb
   obtain ⟨k, hk, rfl, hlk, sb⟩ := hrel
   cases gk with
   | zero =>
    have hk' : k = n - 1 := by omega
    have HF : Hid (lkN N A (n - 1) = true) := by show lkN N A (n - 1) = true; rw [← hk', hlk]
    (repeat ((fail_if_success with_reducible refine rg ?_); go_step))
    apply wp_region_mixp [] [_, _, _, _] trivial List.nodup_nil
    ·intro p
     refine mx_move rfl rfl ?_
     simp only [Act.put, pu]
     refine mx_move rfl rfl ?_
     simp only [Act.put, pu]
     refine mx_val (.int .i64 n) (exec_len_s 22 _ rfl (some ⟨gb, ob, none⟩) n c rfl sl_link) ?_
     simp only [Act.put, pu]
     refine mx_val (.bool false) (exec_lt_b _ _ _ _ rfl (k + 1 : Nat) n rfl rfl false (decide_eq_false (by omega))) ?_
     simp only [Act.put, pu]
     refine mx_end ?_
     intro w6 hkw hrw hnew hdis
     replace sb := sb.trans (hkw.below w.heap.size sb.size (by simp <;> omega))
     clear hkw hrw hnew hdis
     go_wp2
     go_ret
     exact ⟨by rw [HF.out]; rfl, sb⟩
    ·rfl
   | succ g =>
    have hst := fun w' => rS_any (N (k + 1)) (N k) (A (k + 1)) w' (hl62 _ (by omega)) (hl62 _ (by omega))
    cases hb : stN (N (k + 1)) (N k) (A (k + 1)) with
    | true =>
     rw [hb] at hst
     replace hlk : lkN N A (k + 1) = true := by unfold lkN; rw [hlk, hb]; rfl
     clear hb
     (repeat ((fail_if_success with_reducible refine rg ?_); go_step))
     apply wp_region_mixp [] [_, _, _, _] trivial List.nodup_nil
     ·intro p
      refine mx_move rfl rfl ?_
      simp only [Act.put, pu]
      refine mx_move rfl rfl ?_
      simp only [Act.put, pu]
      refine mx_val (.int .i64 n) (exec_len_s 22 _ rfl (some ⟨gb, ob, none⟩) n c rfl sl_link) ?_
      simp only [Act.put, pu]
      refine mx_val (.bool true) (exec_lt_b _ _ _ _ rfl (k + 1 : Nat) n rfl rfl true (decide_eq_true (by omega))) ?_
      simp only [Act.put, pu]
      refine mx_end ?_
      intro w6 hkw hrw hnew hdis
      replace sb := sb.trans (hkw.below w.heap.size sb.size (by simp <;> omega))
      clear hkw hrw hnew hdis
      obtain h0 | ⟨_, rB, hat⟩ := (HL.out.below sb).at'
      ·omega
      (repeat ((fail_if_success with_reducible refine rg ?_); go_step))
      refine wp_region_qw (by kernel_rfl) (by kernel_rfl) ?_
      refine qw_move (by rfl) rfl rfl ?_
      simp only [Act.put, pu]
      refine qw_move (by rfl) rfl rfl ?_
      simp only [Act.put, pu]
      refine qw_value (by rfl) (.pointer (some ⟨gb, ob + (k + 1) * 5, none⟩)) (exec_index_s 22 _ _ rfl gb ob n c rfl (k + 1) rfl (by omega) _ Try.underlying22 5 Try.sizeOf58) ?_
      simp only [Act.put, pu]
      refine qw_value (by rfl) (.pointer (some ⟨gb, ob + (k + 1) * 5, none⟩)) (exec_field 58 _ 0 rfl gb (ob + (k + 1) * 5) rfl _ Try.underlying58 _ rfl 3 Try.sizeOf25) ?_
      simp only [Act.put, pu]
      refine qw_loadmR (by rfl) 25 _ rfl _ ((ob + (k + 1) * 5)) rfl rB (natC (N (k + 1))) (lk_part (hat (k + 1) (by omega))) _ Try.underlying25 rfl size_nat ?_
      simp only [Act.put, pu]
      refine qw_move (by rfl) rfl rfl ?_
      simp only [Act.put, pu]
      refine qw_move (by rfl) rfl rfl ?_
      simp only [Act.put, pu]
      refine qw_value (by rfl) (.int .i64 (k : Nat)) (fun w' => (exec_sub_in _ _ _ _ rfl (k + 1) 1 rfl rfl (by omega) (by omega) w').trans (by rw [Nat.add_sub_cancel])) ?_
      simp only [Act.put, pu]
      refine qw_value (by rfl) (.pointer (some ⟨gb, ob + (k) * 5, none⟩)) (exec_index_s 22 _ _ rfl gb ob n c rfl (k) rfl (by omega) _ Try.underlying22 5 Try.sizeOf58) ?_
      simp only [Act.put, pu]
      refine qw_value (by rfl) (.pointer (some ⟨gb, ob + (k) * 5, none⟩)) (exec_field 58 _ 0 rfl gb (ob + (k) * 5) rfl _ Try.underlying58 _ rfl 3 Try.sizeOf25) ?_
      simp only [Act.put, pu]
      refine qw_loadmR (by rfl) 25 _ rfl _ ((ob + (k) * 5)) rfl rB (natC (N k)) (lk_part (hat k (by omega))) _ Try.underlying25 rfl size_nat ?_
      simp only [Act.put, pu]
      refine qw_move (by rfl) rfl rfl ?_
      simp only [Act.put, pu]
      refine qw_move (by rfl) rfl rfl ?_
      simp only [Act.put, pu]
      refine qw_value (by rfl) (.pointer (some ⟨gb, ob + (k + 1) * 5, none⟩)) (exec_index_s 22 _ _ rfl gb ob n c rfl (k + 1) rfl (by omega) _ Try.underlying22 5 Try.sizeOf58) ?_
      simp only [Act.put, pu]
      refine qw_value (by rfl) (.pointer (some ⟨gb, ob + (k + 1) * 5 + 4, none⟩)) (exec_field 58 _ 1 rfl gb (ob + (k + 1) * 5) rfl _ Try.underlying58 _ rfl 0 Try.sizeOf3) ?_
      simp only [Act.put, pu]
      refine qw_loadcR (by rfl) 3 _ rfl _ (ob + (k + 1) * 5 + 4) rfl rB (.int .i64 (A (k + 1))) (lk_last (hat (k + 1) (by omega))) Try.isAgg3 ?_
      simp only [Act.put, pu]
      refine qw_call (by rfl) 62 _ _ rfl Try.func62 (by kernel_rfl) #[.agg (natC (N (k + 1))), .agg (natC (N k)), .int .i64 (A (k + 1))] rfl _ hst ?_
      simp only [Act.put, pu]
      refine qw_value (by rfl) (.bool false) (exec_not _ _ rfl true rfl) ?_
      simp only [Act.put, pu]
      refine qw_nil ?_
      intro w7 hqb
      replace sb := below_on sb (Nat.le_refl _) hqb
      clear hqb
      (repeat ((fail_if_success with_reducible refine rg ?_); go_step))
      apply wp_region_mixp [] [_, _, _] trivial List.nodup_nil
      ·intro p
       refine mx_move rfl rfl ?_
       simp only [Act.put, pu]
       refine mx_val (.int .i64 ((k + 1 + 1 : Nat) : Int)) (exec_add_in _ _ _ _ rfl (k + 1) 1 rfl rfl (by omega)) ?_
       simp only [Act.put, pu]
       refine mx_asg rfl rfl ?_
       simp only [Act.put, pu]
       refine mx_end ?_
       intro w8 hkw hrw hnew hdis
       replace sb := sb.trans (hkw.below w.heap.size sb.size (by simp <;> omega))
       clear hkw hrw hnew hdis
       go_wp2
       go_roundg g
       case measure => omega
       case rel => exact ⟨k + 1, by omega, rfl, hlk, sb⟩
      ·rfl
     ·rfl
    | false =>
     rw [hb] at hst
     have HF : Hid (lkN N A (n - 1) = false) := by
      show lkN N A (n - 1) = false
      cases h : lkN N A (n - 1) with
      | false => rfl
      | true => rw [(lkN_all N A (n - 1)).1 h k (by omega)] at hb; cases hb
     clear hb hlk
     (repeat ((fail_if_success with_reducible refine rg ?_); go_step))
     apply wp_region_mixp [] [_, _, _, _] trivial List.nodup_nil
     ·intro p
      refine mx_move rfl rfl ?_
      simp only [Act.put, pu]
      refine mx_move rfl rfl ?_
      simp only [Act.put, pu]
      refine mx_val (.int .i64 n) (exec_len_s 22 _ rfl (some ⟨gb, ob, none⟩) n c rfl sl_link) ?_
      simp only [Act.put, pu]
      refine mx_val (.bool true) (exec_lt_b _ _ _ _ rfl (k + 1 : Nat) n rfl rfl true (decide_eq_true (by omega))) ?_
      simp only [Act.put, pu]
      refine mx_end ?_
      intro w6 hkw hrw hnew hdis
      replace sb := sb.trans (hkw.below w.heap.size sb.size (by simp <;> omega))
      clear hkw hrw hnew hdis
      obtain h0 | ⟨_, rB, hat⟩ := (HL.out.below sb).at'
      ·omega
      (repeat ((fail_if_success with_reducible refine rg ?_); go_step))
      refine wp_region_qw (by kernel_rfl) (by kernel_rfl) ?_
      refine qw_move (by rfl) rfl rfl ?_
      simp only [Act.put, pu]
      refine qw_move (by rfl) rfl rfl ?_
      simp only [Act.put, pu]
      refine qw_value (by rfl) (.pointer (some ⟨gb, ob + (k + 1) * 5, none⟩)) (exec_index_s 22 _ _ rfl gb ob n c rfl (k + 1) rfl (by omega) _ Try.underlying22 5 Try.sizeOf58) ?_
      simp only [Act.put, pu]
      refine qw_value (by rfl) (.pointer (some ⟨gb, ob + (k + 1) * 5, none⟩)) (exec_field 58 _ 0 rfl gb (ob + (k + 1) * 5) rfl _ Try.underlying58 _ rfl 3 Try.sizeOf25) ?_
      simp only [Act.put, pu]
      refine qw_loadmR (by rfl) 25 _ rfl _ ((ob + (k + 1) * 5)) rfl rB (natC (N (k + 1))) (lk_part (hat (k + 1) (by omega))) _ Try.underlying25 rfl size_nat ?_
      simp only [Act.put, pu]
      refine qw_move (by rfl) rfl rfl ?_
      simp only [Act.put, pu]
      refine qw_move (by rfl) rfl rfl ?_
      simp only [Act.put, pu]
      refine qw_value (by rfl) (.int .i64 (k : Nat)) (fun w' => (exec_sub_in _ _ _ _ rfl (k + 1) 1 rfl rfl (by omega) (by omega) w').trans (by rw [Nat.add_sub_cancel])) ?_
      simp only [Act.put, pu]
      refine qw_value (by rfl) (.pointer (some ⟨gb, ob + (k) * 5, none⟩)) (exec_index_s 22 _ _ rfl gb ob n c rfl (k) rfl (by omega) _ Try.underlying22 5 Try.sizeOf58) ?_
      simp only [Act.put, pu]
      refine qw_value (by rfl) (.pointer (some ⟨gb, ob + (k) * 5, none⟩)) (exec_field 58 _ 0 rfl gb (ob + (k) * 5) rfl _ Try.underlying58 _ rfl 3 Try.sizeOf25) ?_
      simp only [Act.put, pu]
      refine qw_loadmR (by rfl) 25 _ rfl _ ((ob + (k) * 5)) rfl rB (natC (N k)) (lk_part (hat k (by omega))) _ Try.underlying25 rfl size_nat ?_
      simp only [Act.put, pu]
      refine qw_move (by rfl) rfl rfl ?_
      simp only [Act.put, pu]
      refine qw_move (by rfl) rfl rfl ?_
      simp only [Act.put, pu]
      refine qw_value (by rfl) (.pointer (some ⟨gb, ob + (k + 1) * 5, none⟩)) (exec_index_s 22 _ _ rfl gb ob n c rfl (k + 1) rfl (by omega) _ Try.underlying22 5 Try.sizeOf58) ?_
      simp only [Act.put, pu]
      refine qw_value (by rfl) (.pointer (some ⟨gb, ob + (k + 1) * 5 + 4, none⟩)) (exec_field 58 _ 1 rfl gb (ob + (k + 1) * 5) rfl _ Try.underlying58 _ rfl 0 Try.sizeOf3) ?_
      simp only [Act.put, pu]
      refine qw_loadcR (by rfl) 3 _ rfl _ (ob + (k + 1) * 5 + 4) rfl rB (.int .i64 (A (k + 1))) (lk_last (hat (k + 1) (by omega))) Try.isAgg3 ?_
      simp only [Act.put, pu]
      refine qw_call (by rfl) 62 _ _ rfl Try.func62 (by kernel_rfl) #[.agg (natC (N (k + 1))), .agg (natC (N k)), .int .i64 (A (k + 1))] rfl _ hst ?_
      simp only [Act.put, pu]
      refine qw_value (by rfl) (.bool true) (exec_not _ _ rfl false rfl) ?_
      simp only [Act.put, pu]
      refine qw_nil ?_
      intro w7 hqb
      replace sb := below_on sb (Nat.le_refl _) hqb
      clear hqb
      go_wp2
      go_ret
      exact ⟨by rw [HF.out]; rfl, sb⟩
     ·rfl
 ·rfl
/-- The document's Check. -/
theorem rC_any (n c : Nat) (ab : Option Addr) (N : Nat → Nat) (A : Nat → Int) (gb ob : Nat) (bcs : Array Value) (tb : TypeId) (w : World) (hL : LinksAt w ab n N A gb ob bcs tb) (hl62 : ∀ k, k < n → N k < 4611686018427387904) :
  Calls Try.prog 43 #[.slice ab n c] w fun e w' => e = .returned (.bool (chN n N A)) ∧ Below w.heap.size w w' := by
 unfold chN
 by_cases h1 : n < 1
 ·rw [decide_eq_false (show ¬ 1 ≤ n by omega), Bool.false_and]
  exact rC_none n c ab w h1
 by_cases h8 : 8 < n
 ·rw [decide_eq_false (show ¬ n ≤ 8 by omega), Bool.false_and, Bool.and_false]
  exact rC_long n c ab w h8
 rw [decide_eq_true (show 1 ≤ n by omega), decide_eq_true (show n ≤ 8 by omega), Bool.true_and, Bool.true_and]
 have h0 := hl62 0 (by omega)
 have hlo := fun w' => rlow_any (N 0) w' (by omega)
 rw [(low_small _ (by omega)).1, (low_small _ (by omega)).2] at hlo
 have hsm := fun w' => rsmall_any (N 0 : Int) w'
 rw [smI_nat] at hsm
 cases hb : smN (N 0) with
 | false =>
  rw [hb] at hsm
  rw [Bool.false_and]
  exact rC_big n c ab N A gb ob bcs tb w (by omega) (by omega) hL hlo hsm
 | true =>
  rw [hb] at hsm
  rw [Bool.true_and]
  by_cases hz : A 0 = 0
  ·rw [decide_eq_true hz, Bool.true_and]
   exact rC_rest n c ab N A gb ob bcs tb w (by omega) (by omega) hL hlo hsm hz hl62
  ·rw [decide_eq_false hz, Bool.false_and]
   exact rC_ones n c ab N A gb ob bcs tb w (by omega) (by omega) hL hlo hsm hz
end Go.Proofs.Ytbmkebdfaokmhaa
