/- prime's Step and Witness. -/
import Derived.Test.YtcgeimbfijpocaaPClaim
namespace Go.Proofs.Ytcgeimbfijpocaa
open Go.RowKit
set_option maxRecDepth 100000 in
set_option maxHeartbeats 2000000 in
theorem step_less (N F : Nat) (z : Int) (w : World) (h : z < 2) :
  Calls Try.prog 48 #[.agg (natC N), .agg (natC F), .int .i64 z] w fun e w' => e = .returned (.bool false) ∧ Below w.heap.size w w' := by
 go_enter Try.func48, Try.ntmps48
 (repeat ((fail_if_success with_reducible refine rg ?_); go_step))
 apply wp_region_mixp [] [_, _, _] trivial List.nodup_nil
 ·intro p
  refine mx_box 24 _ rfl _ rfl ?_
  simp only [Act.put, pu]
  refine mx_box 24 _ rfl _ rfl ?_
  simp only [Act.put, pu]
  refine mx_val (.bool false) (fun _ => rfl) ?_
  simp only [Act.put, pu]
  refine mx_end ?_
  intro w2 hkw hrw hnew hdis
  have n3 := hnew 0 rfl
  have n4 := hnew 1 rfl
  have zr3 : Row w2 (p 0) (natC N) 24 := hrw 1 (24, natC N) rfl
  have zr4 : Row w2 (p 1) (natC F) 24 := hrw 3 (24, natC F) rfl
  have d3x4 := hdis 0 1 (by omega) rfl rfl
  have sb := hkw.below w.heap.size (Nat.le_refl _) (by simp)
  have b3 : w.heap.size ≤ p 0 := n3
  have b4 : w.heap.size ≤ p 1 := n4
  clear hkw hrw hnew hdis n3 n4
  generalize p 0 = g3 at *
  generalize p 1 = g4 at *
  have r3 := zr3
  clear zr3
  have r4 := zr4
  clear zr4
  (repeat ((fail_if_success with_reducible refine rg ?_); go_step))
  refine wp_region_qp ?_
  refine qw_move (by rfl) rfl rfl ?_
  simp only [Act.put, pu]
  refine qw_value (by rfl) (.bool true) (exec_lt_b _ _ _ _ rfl z 2 rfl rfl true (decide_eq_true h)) ?_
  simp only [Act.put, pu]
  refine qw_move (by rfl) rfl rfl ?_
  simp only [Act.put, pu]
  refine qw_skip (by rfl) ?_
  simp only [Act.put, pu]
  refine qw_skip (by rfl) ?_
  simp only [Act.put, pu]
  refine qw_pick true (v := .bool true) (by rfl) rfl rfl rfl ?_
  simp only [Act.put, pu]
  refine qw_nil ?_
  intro w3 hqb
  replace sb := below_on sb (Nat.le_refl _) hqb
  clear hqb
  go_wp2
  go_ret
  exact ⟨rfl, sb⟩
 ·rfl
set_option maxRecDepth 100000 in
set_option maxHeartbeats 2000000 in
theorem step_great (N F : Nat) (z : Int) (w : World) (h : 65535 < z) :
  Calls Try.prog 48 #[.agg (natC N), .agg (natC F), .int .i64 z] w fun e w' => e = .returned (.bool false) ∧ Below w.heap.size w w' := by
 go_enter Try.func48, Try.ntmps48
 (repeat ((fail_if_success with_reducible refine rg ?_); go_step))
 apply wp_region_mixp [] [_, _, _] trivial List.nodup_nil
 ·intro p
  refine mx_box 24 _ rfl _ rfl ?_
  simp only [Act.put, pu]
  refine mx_box 24 _ rfl _ rfl ?_
  simp only [Act.put, pu]
  refine mx_val (.bool false) (fun _ => rfl) ?_
  simp only [Act.put, pu]
  refine mx_end ?_
  intro w2 hkw hrw hnew hdis
  have n3 := hnew 0 rfl
  have n4 := hnew 1 rfl
  have zr3 : Row w2 (p 0) (natC N) 24 := hrw 1 (24, natC N) rfl
  have zr4 : Row w2 (p 1) (natC F) 24 := hrw 3 (24, natC F) rfl
  have d3x4 := hdis 0 1 (by omega) rfl rfl
  have sb := hkw.below w.heap.size (Nat.le_refl _) (by simp)
  have b3 : w.heap.size ≤ p 0 := n3
  have b4 : w.heap.size ≤ p 1 := n4
  clear hkw hrw hnew hdis n3 n4
  generalize p 0 = g3 at *
  generalize p 1 = g4 at *
  have r3 := zr3
  clear zr3
  have r4 := zr4
  clear zr4
  (repeat ((fail_if_success with_reducible refine rg ?_); go_step))
  refine wp_region_qp ?_
  refine qw_move (by rfl) rfl rfl ?_
  simp only [Act.put, pu]
  refine qw_value (by rfl) (.bool false) (exec_lt_b _ _ _ _ rfl z 2 rfl rfl false (decide_eq_false (by omega))) ?_
  simp only [Act.put, pu]
  refine qw_move (by rfl) rfl rfl ?_
  simp only [Act.put, pu]
  refine qw_move (by rfl) rfl rfl ?_
  simp only [Act.put, pu]
  refine qw_value (by rfl) (.bool true) (exec_gt_i _ _ _ _ rfl z 65535 rfl rfl true (decide_eq_true (by omega))) ?_
  simp only [Act.put, pu]
  refine qw_pick false (v := .bool true) (by rfl) rfl rfl rfl ?_
  simp only [Act.put, pu]
  refine qw_nil ?_
  intro w3 hqb
  replace sb := below_on sb (Nat.le_refl _) hqb
  clear hqb
  go_wp2
  go_ret
  exact ⟨rfl, sb⟩
 ·rfl
set_option maxRecDepth 100000 in
set_option maxHeartbeats 2000000 in
theorem step_none (N F : Nat) (z : Int) (w : World) (h1 : 2 ≤ z) (h2 : z ≤ 65535)
  (hcl : ∀ w', Calls Try.prog 73 #[.agg (natC N), .agg (natC F)] w' fun e w2 => e = .returned (.tuple #[.agg (clC none 0 0), .bool false]) ∧ Below w'.heap.size w' w2) :
  Calls Try.prog 48 #[.agg (natC N), .agg (natC F), .int .i64 z] w fun e w' => e = .returned (.bool false) ∧ Below w.heap.size w w' := by
 go_enter Try.func48, Try.ntmps48
 (repeat ((fail_if_success with_reducible refine rg ?_); go_step))
 apply wp_region_mixp [] [_, _, _] trivial List.nodup_nil
 ·intro p
  refine mx_box 24 _ rfl _ rfl ?_
  simp only [Act.put, pu]
  refine mx_box 24 _ rfl _ rfl ?_
  simp only [Act.put, pu]
  refine mx_val (.bool false) (fun _ => rfl) ?_
  simp only [Act.put, pu]
  refine mx_end ?_
  intro w2 hkw hrw hnew hdis
  have n3 := hnew 0 rfl
  have n4 := hnew 1 rfl
  have zr3 : Row w2 (p 0) (natC N) 24 := hrw 1 (24, natC N) rfl
  have zr4 : Row w2 (p 1) (natC F) 24 := hrw 3 (24, natC F) rfl
  have d3x4 := hdis 0 1 (by omega) rfl rfl
  have sb := hkw.below w.heap.size (Nat.le_refl _) (by simp)
  have b3 : w.heap.size ≤ p 0 := n3
  have b4 : w.heap.size ≤ p 1 := n4
  clear hkw hrw hnew hdis n3 n4
  generalize p 0 = g3 at *
  generalize p 1 = g4 at *
  have r3 := zr3
  clear zr3
  have r4 := zr4
  clear zr4
  (repeat ((fail_if_success with_reducible refine rg ?_); go_step))
  refine wp_region_qp ?_
  refine qw_move (by rfl) rfl rfl ?_
  simp only [Act.put, pu]
  refine qw_value (by rfl) (.bool false) (exec_lt_b _ _ _ _ rfl z 2 rfl rfl false (decide_eq_false (by omega))) ?_
  simp only [Act.put, pu]
  refine qw_move (by rfl) rfl rfl ?_
  simp only [Act.put, pu]
  refine qw_move (by rfl) rfl rfl ?_
  simp only [Act.put, pu]
  refine qw_value (by rfl) (.bool false) (exec_gt_i _ _ _ _ rfl z 65535 rfl rfl false (decide_eq_false (by omega))) ?_
  simp only [Act.put, pu]
  refine qw_pick false (v := .bool false) (by rfl) rfl rfl rfl ?_
  simp only [Act.put, pu]
  refine qw_nil ?_
  intro w3 hqb
  replace r3 := r3.belowAll hqb
  replace r4 := r4.belowAll hqb
  replace sb := below_on sb (Nat.le_refl _) hqb
  clear hqb
  (repeat ((fail_if_success with_reducible refine rg ?_); go_step))
  apply wp_region_mixp [] [_, _, _, _, _, _, _, _, _] trivial List.nodup_nil
  ·intro p
   refine mx_load 24 _ rfl _ rfl r3 (by simp <;> omega) 4 _ Try.underlying24 size_nat ?_
   simp only [Act.put, pu]
   refine mx_load 24 _ rfl _ rfl r4 (by simp <;> omega) 4 _ Try.underlying24 size_nat ?_
   simp only [Act.put, pu]
   refine mx_call 73 _ _ rfl Try.func73 (by kernel_rfl) #[.agg (natC N), .agg (natC F)] rfl _ hcl ?_
   simp only [Act.put, pu]
   refine mx_move rfl rfl ?_
   simp only [Act.put, pu]
   refine mx_ext rfl rfl rfl ?_
   simp only [Act.put, pu]
   refine mx_ext rfl rfl rfl ?_
   simp only [Act.put, pu]
   refine mx_new 101 rfl _ zero_cl ?_
   simp only [Act.put, pu]
   refine mx_put 13 101 _ _ rfl rfl rfl (clC none 0 0) rfl (by exact size_cl) (by rfl) (cl_one _ _ _) ?_
   simp only [Act.put]
   refine mx_asg rfl rfl ?_
   simp only [Act.put, pu]
   refine mx_end ?_
   intro w4 hkw hrw hnew hdis
   have n7 := hnew 6 rfl
   have zr7 : Row w4 (p 6) (clC none 0 0) 101 := hrw 13 (101, clC none 0 0) rfl
   replace sb := sb.trans (hkw.below w.heap.size sb.size (by simp <;> omega))
   clear hkw hrw hnew hdis n7
   generalize p 6 = g7 at *
   have r7 := zr7
   clear zr7
   (repeat ((fail_if_success with_reducible refine rg ?_); go_step))
   refine wp_region_qp ?_
   refine qw_move (by rfl) rfl rfl ?_
   simp only [Act.put, pu]
   refine qw_move (by rfl) rfl rfl ?_
   simp only [Act.put, pu]
   refine qw_skip (by rfl) ?_
   simp only [Act.put, pu]
   refine qw_skip (by rfl) ?_
   simp only [Act.put, pu]
   refine qw_skip (by rfl) ?_
   simp only [Act.put, pu]
   refine qw_pick false (v := .bool false) (by rfl) rfl rfl rfl ?_
   simp only [Act.put, pu]
   refine qw_asg (by rfl) rfl rfl ?_
   simp only [Act.put, pu]
   refine qw_nil ?_
   intro w5 hqb
   replace sb := below_on sb (Nat.le_refl _) hqb
   clear hqb
   go_wp2
   go_ret
   exact ⟨rfl, sb⟩
  ·rfl
 ·rfl
set_option maxRecDepth 100000 in
set_option maxHeartbeats 2000000 in
theorem step_some (N F K : Nat) (z : Int) (B : Bool) (RG : Array Value) (w : World) (h1 : 2 ≤ z) (h2 : z ≤ 65535)
  (hcl : ∀ w', Calls Try.prog 73 #[.agg (natC N), .agg (natC F)] w' fun e w2 => (∃ g, e = .returned (.tuple #[.agg (clC (some ⟨g, 0, none⟩) F K), .bool true]) ∧ w'.heap.size ≤ g ∧ Row w2 g RG 80) ∧ Below w'.heap.size w' w2)
  (hsh : ∀ g w', Row w' g RG 80 → Calls Try.prog 74 #[.agg (clC (some ⟨g, 0, none⟩) F K), .int .i64 z] w' fun e w2 => e = .returned (.bool B) ∧ Below w'.heap.size w' w2) :
  Calls Try.prog 48 #[.agg (natC N), .agg (natC F), .int .i64 z] w fun e w' => e = .returned (.bool B) ∧ Below w.heap.size w w' := by
 go_enter Try.func48, Try.ntmps48
 (repeat ((fail_if_success with_reducible refine rg ?_); go_step))
 apply wp_region_mixp [] [_, _, _] trivial List.nodup_nil
 ·intro p
  refine mx_box 24 _ rfl _ rfl ?_
  simp only [Act.put, pu]
  refine mx_box 24 _ rfl _ rfl ?_
  simp only [Act.put, pu]
  refine mx_val (.bool false) (fun _ => rfl) ?_
  simp only [Act.put, pu]
  refine mx_end ?_
  intro w2 hkw hrw hnew hdis
  have n3 := hnew 0 rfl
  have n4 := hnew 1 rfl
  have zr3 : Row w2 (p 0) (natC N) 24 := hrw 1 (24, natC N) rfl
  have zr4 : Row w2 (p 1) (natC F) 24 := hrw 3 (24, natC F) rfl
  have d3x4 := hdis 0 1 (by omega) rfl rfl
  have sb := hkw.below w.heap.size (Nat.le_refl _) (by simp)
  have b3 : w.heap.size ≤ p 0 := n3
  have b4 : w.heap.size ≤ p 1 := n4
  clear hkw hrw hnew hdis n3 n4
  generalize p 0 = g3 at *
  generalize p 1 = g4 at *
  have r3 := zr3
  clear zr3
  have r4 := zr4
  clear zr4
  (repeat ((fail_if_success with_reducible refine rg ?_); go_step))
  refine wp_region_qp ?_
  refine qw_move (by rfl) rfl rfl ?_
  simp only [Act.put, pu]
  refine qw_value (by rfl) (.bool false) (exec_lt_b _ _ _ _ rfl z 2 rfl rfl false (decide_eq_false (by omega))) ?_
  simp only [Act.put, pu]
  refine qw_move (by rfl) rfl rfl ?_
  simp only [Act.put, pu]
  refine qw_move (by rfl) rfl rfl ?_
  simp only [Act.put, pu]
  refine qw_value (by rfl) (.bool false) (exec_gt_i _ _ _ _ rfl z 65535 rfl rfl false (decide_eq_false (by omega))) ?_
  simp only [Act.put, pu]
  refine qw_pick false (v := .bool false) (by rfl) rfl rfl rfl ?_
  simp only [Act.put, pu]
  refine qw_nil ?_
  intro w3 hqb
  replace r3 := r3.belowAll hqb
  replace r4 := r4.belowAll hqb
  replace sb := below_on sb (Nat.le_refl _) hqb
  clear hqb
  go_wp2_with (first
   | refine wpList_loadR rfl 24 _ rfl _ rfl r3 4 _ Try.underlying24 (by exact size_nat) ?_
   | refine wpList_loadR rfl 24 _ rfl _ rfl r4 4 _ Try.underlying24 (by exact size_nat) ?_)
  refine (hcl _).mono ?_
  rintro _ wb ⟨⟨g9, rfl, hg9, r9⟩, bb⟩
  replace sb := below_on sb (Nat.le_refl _) bb
  clear bb hg9 hcl r3 r4
  dsimp only
  (repeat ((fail_if_success (with_reducible show Code.wp _ (Code.region _ _ _) _ _ _)); first | (refine wpList_alloc_row rfl 101 rfl _ zero_cl ?_; simp only [Act.put, List.setIfInBounds_toArray, List.set_cons_zero, List.set_cons_succ]) | (refine wpList_store_new rfl 101 _ _ rfl _ rfl rfl _ _ (by exact size_cl) (by rfl) (cl_one _ _ _) ?_; simp only [Act.put]) | go_step))
  have r7 : Row (wb.alloc (.cells (clC (some ⟨g9, 0, none⟩) F K) 101)) wb.heap.size (clC (some ⟨g9, 0, none⟩) F K) 101 := Row.here rfl
  replace r9 := r9.alloc (.cells (clC (some ⟨g9, 0, none⟩) F K) 101)
  replace sb := sb.alloc sb.size (.cells (clC (some ⟨g9, 0, none⟩) F K) 101)
  generalize wb.alloc (.cells (clC (some ⟨g9, 0, none⟩) F K) 101) = w4 at *
  generalize wb.heap.size = g7 at *
  refine wp_region_qp ?_
  refine qw_move (by rfl) rfl rfl ?_
  simp only [Act.put, pu]
  refine qw_move (by rfl) rfl rfl ?_
  simp only [Act.put, pu]
  refine qw_loadm (by rfl) 101 _ rfl _ (0) rfl r7 (clC (some ⟨g9, 0, none⟩) F K) (part_all _) _ Try.underlying101 rfl size_cl ?_
  simp only [Act.put, pu]
  refine qw_move (by rfl) rfl rfl ?_
  simp only [Act.put, pu]
  refine qw_callK (by rfl) 74 _ _ rfl Try.func74 (by kernel_rfl) #[.agg (clC (some ⟨g9, 0, none⟩) F K), .int .i64 z] rfl _ (fun w' hb => hsh g9 w' (r9.belowAll hb)) ?_
  simp only [Act.put, pu]
  refine qw_pick true (v := .bool B) (by rfl) rfl rfl rfl ?_
  simp only [Act.put, pu]
  refine qw_asg (by rfl) rfl rfl ?_
  simp only [Act.put, pu]
  refine qw_nil ?_
  intro w5 hqb
  replace sb := below_on sb (Nat.le_refl _) hqb
  clear hqb
  go_wp2
  go_ret
  exact ⟨rfl, sb⟩
 ·rfl
/-- Step: whether a witness shows that a natural is a prime, if another one is. -/
theorem step_any (N F : Nat) (z : Int) (w : World) (hN : N < 2 ^ 256) (hF : F < 2 ^ 256) :
  Calls Try.prog 48 #[.agg (natC N), .agg (natC F), .int .i64 z] w fun e w' => e = .returned (.bool (stN N F z)) ∧ Below w.heap.size w w' := by
 unfold stN
 by_cases h1 : z < 2
 ·rw [decide_eq_false (show ¬ 2 ≤ z by omega), Bool.false_and]
  exact step_less N F z w h1
 by_cases h2 : 65535 < z
 ·rw [decide_eq_false (show ¬ z ≤ 65535 by omega), Bool.false_and, Bool.and_false]
  exact step_great N F z w h2
 rw [decide_eq_true (show 2 ≤ z by omega), decide_eq_true (show z ≤ 65535 by omega), Bool.true_and, Bool.true_and]
 cases hm : mayN N F with
 | false => exact step_none N F z w (by omega) (by omega) fun w' => claim_no_any N F w' hN hF hm
 | true =>
  obtain ⟨f1, f2, f3, f4, f5⟩ := mayN_facts hm
  obtain ⟨a, rfl⟩ := Int.eq_ofNat_of_zero_le (show 0 ≤ z by omega)
  rw [Bool.true_and, Int.toNat_natCast]
  exact step_some N F ((N - 1) / F) a _ _ w (by omega) (by omega) (fun w' => claim_any N F w' hN hF hm)
   (fun g w' r => shown_any N F ((N - 1) / F) a g w' hN f1 (by omega) hF f3 (Nat.lt_of_le_of_lt (Nat.div_le_self _ _) (by omega)) (by omega) r)
/-- The least from k on that shows it, fuel of them; 0: none. -/
def wtF (sh : Nat → Bool) : Nat → Nat → Nat
 | 0, _ => 0
 | g + 1, k => if sh (2 + k) = true then 2 + k else wtF sh g (k + 1)
def witN (N F : Nat) : Nat := if mayN N F = true then wtF (shN N F) 99 0 else 0
def errW (W : Nat) : Int := if W = 0 then 3 else 0
end Go.Proofs.Ytcgeimbfijpocaa
