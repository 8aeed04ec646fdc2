/- prime's Step and Witness. -/
import Derived.Test.YtcdfefljagddmabPClaim
namespace Go.Proofs.Ytcdfefljagddmab
open Go.RowKit

set_option maxRecDepth 100000 in
set_option maxHeartbeats 2000000 in
theorem step_less (N F : Nat) (z : Int) (w : World) (h : z < 2) :
    Calls Try.prog 8 #[.agg (natC N), .agg (natC F), .int .i64 z] w fun e w' => e = .returned (.bool false) ∧ Below w.heap.size w w' := by
  go_enter Try.func8, Try.ntmps8
  (repeat ((fail_if_success (with_reducible show Code.wp _ (Code.region _ _ _) _ _ _)); go_step))
  apply wp_region_mixp [] [_, _, _] trivial List.nodup_nil
  · intro p
    refine mx_box 25 _ rfl _ rfl ?_
    simp only [Act.put, pb, pc, pd]
    refine mx_box 25 _ rfl _ rfl ?_
    simp only [Act.put, pb, pc, pd]
    refine mx_val (.bool false) (fun _ => rfl) ?_
    simp only [Act.put, pb, pc, pd]
    refine mx_end ?_
    intro w2 hkw hrw hnew hdis
    have n3 := hnew 0 rfl
    have n4 := hnew 1 rfl
    have zr3 : Row w2 (p 0) (natC N) 25 := hrw 1 (25, natC N) rfl
    have zr4 : Row w2 (p 1) (natC F) 25 := hrw 3 (25, natC F) rfl
    have d3x4 := hdis 0 1 (by omega) rfl rfl
    have sb := hkw.below w.heap.size (Nat.le_refl _) (by simp)
    have b3 : w.heap.size ≤ p 0 := n3
    have b4 : w.heap.size ≤ p 1 := n4
    clear hkw hrw hnew hdis n3 n4
    generalize p 0 = g3 at *
    generalize p 1 = g4 at *
    have r3 := zr3
    clear zr3
    have r4 := zr4
    clear zr4
    (repeat ((fail_if_success (with_reducible show Code.wp _ (Code.region _ _ _) _ _ _)); go_step))
    refine wp_region_qp ?_
    refine qw_move (by rfl) rfl rfl ?_
    simp only [Act.put, pb, pc, pd]
    refine qw_value (by rfl) (.bool true) (exec_lt_b _ _ _ _ rfl z 2 rfl rfl true (decide_eq_true h)) ?_
    simp only [Act.put, pb, pc, pd]
    refine qw_move (by rfl) rfl rfl ?_
    simp only [Act.put, pb, pc, pd]
    refine qw_skip (by rfl) ?_
    simp only [Act.put, pb, pc, pd]
    refine qw_skip (by rfl) ?_
    simp only [Act.put, pb, pc, pd]
    refine qw_pick true (v := .bool true) (by rfl) rfl rfl rfl ?_
    simp only [Act.put, pb, pc, pd]
    refine qw_nil ?_
    intro w3 hqb
    replace sb := below_on sb (Nat.le_refl _) hqb
    clear hqb
    go_wp2
    go_ret
    exact ⟨rfl, sb⟩
  · rfl
set_option maxRecDepth 100000 in
set_option maxHeartbeats 2000000 in
theorem step_great (N F : Nat) (z : Int) (w : World) (h : 65535 < z) :
    Calls Try.prog 8 #[.agg (natC N), .agg (natC F), .int .i64 z] w fun e w' => e = .returned (.bool false) ∧ Below w.heap.size w w' := by
  go_enter Try.func8, Try.ntmps8
  (repeat ((fail_if_success (with_reducible show Code.wp _ (Code.region _ _ _) _ _ _)); go_step))
  apply wp_region_mixp [] [_, _, _] trivial List.nodup_nil
  · intro p
    refine mx_box 25 _ rfl _ rfl ?_
    simp only [Act.put, pb, pc, pd]
    refine mx_box 25 _ rfl _ rfl ?_
    simp only [Act.put, pb, pc, pd]
    refine mx_val (.bool false) (fun _ => rfl) ?_
    simp only [Act.put, pb, pc, pd]
    refine mx_end ?_
    intro w2 hkw hrw hnew hdis
    have n3 := hnew 0 rfl
    have n4 := hnew 1 rfl
    have zr3 : Row w2 (p 0) (natC N) 25 := hrw 1 (25, natC N) rfl
    have zr4 : Row w2 (p 1) (natC F) 25 := hrw 3 (25, natC F) rfl
    have d3x4 := hdis 0 1 (by omega) rfl rfl
    have sb := hkw.below w.heap.size (Nat.le_refl _) (by simp)
    have b3 : w.heap.size ≤ p 0 := n3
    have b4 : w.heap.size ≤ p 1 := n4
    clear hkw hrw hnew hdis n3 n4
    generalize p 0 = g3 at *
    generalize p 1 = g4 at *
    have r3 := zr3
    clear zr3
    have r4 := zr4
    clear zr4
    (repeat ((fail_if_success (with_reducible show Code.wp _ (Code.region _ _ _) _ _ _)); go_step))
    refine wp_region_qp ?_
    refine qw_move (by rfl) rfl rfl ?_
    simp only [Act.put, pb, pc, pd]
    refine qw_value (by rfl) (.bool false) (exec_lt_b _ _ _ _ rfl z 2 rfl rfl false (decide_eq_false (by omega))) ?_
    simp only [Act.put, pb, pc, pd]
    refine qw_move (by rfl) rfl rfl ?_
    simp only [Act.put, pb, pc, pd]
    refine qw_move (by rfl) rfl rfl ?_
    simp only [Act.put, pb, pc, pd]
    refine qw_value (by rfl) (.bool true) (exec_gt_i _ _ _ _ rfl z 65535 rfl rfl true (decide_eq_true (by omega))) ?_
    simp only [Act.put, pb, pc, pd]
    refine qw_pick false (v := .bool true) (by rfl) rfl rfl rfl ?_
    simp only [Act.put, pb, pc, pd]
    refine qw_nil ?_
    intro w3 hqb
    replace sb := below_on sb (Nat.le_refl _) hqb
    clear hqb
    go_wp2
    go_ret
    exact ⟨rfl, sb⟩
  · rfl
set_option maxRecDepth 100000 in
set_option maxHeartbeats 2000000 in
theorem step_none (N F : Nat) (z : Int) (w : World) (h1 : 2 ≤ z) (h2 : z ≤ 65535)
    (hcl : ∀ w', Calls Try.prog 23 #[.agg (natC N), .agg (natC F)] w' fun e w2 => e = .returned (.tuple #[.agg (clC none 0 0), .bool false]) ∧ Below w'.heap.size w' w2) :
    Calls Try.prog 8 #[.agg (natC N), .agg (natC F), .int .i64 z] w fun e w' => e = .returned (.bool false) ∧ Below w.heap.size w w' := by
  go_enter Try.func8, Try.ntmps8
  (repeat ((fail_if_success (with_reducible show Code.wp _ (Code.region _ _ _) _ _ _)); go_step))
  apply wp_region_mixp [] [_, _, _] trivial List.nodup_nil
  · intro p
    refine mx_box 25 _ rfl _ rfl ?_
    simp only [Act.put, pb, pc, pd]
    refine mx_box 25 _ rfl _ rfl ?_
    simp only [Act.put, pb, pc, pd]
    refine mx_val (.bool false) (fun _ => rfl) ?_
    simp only [Act.put, pb, pc, pd]
    refine mx_end ?_
    intro w2 hkw hrw hnew hdis
    have n3 := hnew 0 rfl
    have n4 := hnew 1 rfl
    have zr3 : Row w2 (p 0) (natC N) 25 := hrw 1 (25, natC N) rfl
    have zr4 : Row w2 (p 1) (natC F) 25 := hrw 3 (25, natC F) rfl
    have d3x4 := hdis 0 1 (by omega) rfl rfl
    have sb := hkw.below w.heap.size (Nat.le_refl _) (by simp)
    have b3 : w.heap.size ≤ p 0 := n3
    have b4 : w.heap.size ≤ p 1 := n4
    clear hkw hrw hnew hdis n3 n4
    generalize p 0 = g3 at *
    generalize p 1 = g4 at *
    have r3 := zr3
    clear zr3
    have r4 := zr4
    clear zr4
    (repeat ((fail_if_success (with_reducible show Code.wp _ (Code.region _ _ _) _ _ _)); go_step))
    refine wp_region_qp ?_
    refine qw_move (by rfl) rfl rfl ?_
    simp only [Act.put, pb, pc, pd]
    refine qw_value (by rfl) (.bool false) (exec_lt_b _ _ _ _ rfl z 2 rfl rfl false (decide_eq_false (by omega))) ?_
    simp only [Act.put, pb, pc, pd]
    refine qw_move (by rfl) rfl rfl ?_
    simp only [Act.put, pb, pc, pd]
    refine qw_move (by rfl) rfl rfl ?_
    simp only [Act.put, pb, pc, pd]
    refine qw_value (by rfl) (.bool false) (exec_gt_i _ _ _ _ rfl z 65535 rfl rfl false (decide_eq_false (by omega))) ?_
    simp only [Act.put, pb, pc, pd]
    refine qw_pick false (v := .bool false) (by rfl) rfl rfl rfl ?_
    simp only [Act.put, pb, pc, pd]
    refine qw_nil ?_
    intro w3 hqb
    replace r3 := r3.belowAll hqb
    replace r4 := r4.belowAll hqb
    replace sb := below_on sb (Nat.le_refl _) hqb
    clear hqb
    (repeat ((fail_if_success (with_reducible show Code.wp _ (Code.region _ _ _) _ _ _)); go_step))
    apply wp_region_mixp [] [_, _, _, _, _, _, _, _, _] trivial List.nodup_nil
    · intro p
      refine mx_load 25 _ rfl _ rfl r3 (by simp <;> omega) 4 _ Try.underlying25 size_nat ?_
      simp only [Act.put, pb, pc, pd]
      refine mx_load 25 _ rfl _ rfl r4 (by simp <;> omega) 4 _ Try.underlying25 size_nat ?_
      simp only [Act.put, pb, pc, pd]
      refine mx_call 23 _ _ rfl Try.func23 (by kernel_rfl) #[.agg (natC N), .agg (natC F)] rfl _ hcl ?_
      simp only [Act.put, pb, pc, pd]
      refine mx_move rfl rfl ?_
      simp only [Act.put, pb, pc, pd]
      refine mx_ext rfl rfl rfl ?_
      simp only [Act.put, pb, pc, pd]
      refine mx_ext rfl rfl rfl ?_
      simp only [Act.put, pb, pc, pd]
      refine mx_new 53 rfl _ zero_cl ?_
      simp only [Act.put, pb, pc, pd]
      refine mx_put 13 53 _ _ rfl rfl rfl (clC none 0 0) rfl (by exact size_cl) (by rfl) (cl_one _ _ _) ?_
      simp only [Act.put]
      refine mx_asg rfl rfl ?_
      simp only [Act.put, pb, pc, pd]
      refine mx_end ?_
      intro w4 hkw hrw hnew hdis
      have n7 := hnew 6 rfl
      have zr7 : Row w4 (p 6) (clC none 0 0) 53 := hrw 13 (53, clC none 0 0) rfl
      replace sb := sb.trans (hkw.below w.heap.size sb.size (by simp <;> omega))
      clear hkw hrw hnew hdis n7
      generalize p 6 = g7 at *
      have r7 := zr7
      clear zr7
      (repeat ((fail_if_success (with_reducible show Code.wp _ (Code.region _ _ _) _ _ _)); go_step))
      refine wp_region_qp ?_
      refine qw_move (by rfl) rfl rfl ?_
      simp only [Act.put, pb, pc, pd]
      refine qw_move (by rfl) rfl rfl ?_
      simp only [Act.put, pb, pc, pd]
      refine qw_skip (by rfl) ?_
      simp only [Act.put, pb, pc, pd]
      refine qw_skip (by rfl) ?_
      simp only [Act.put, pb, pc, pd]
      refine qw_skip (by rfl) ?_
      simp only [Act.put, pb, pc, pd]
      refine qw_pick false (v := .bool false) (by rfl) rfl rfl rfl ?_
      simp only [Act.put, pb, pc, pd]
      refine qw_asg (by rfl) rfl rfl ?_
      simp only [Act.put, pb, pc, pd]
      refine qw_nil ?_
      intro w5 hqb
      replace sb := below_on sb (Nat.le_refl _) hqb
      clear hqb
      go_wp2
      go_ret
      exact ⟨rfl, sb⟩
    · rfl
  · rfl
set_option maxRecDepth 100000 in
set_option maxHeartbeats 2000000 in
theorem step_some (N F K : Nat) (z : Int) (B : Bool) (RG : Array Value) (w : World) (h1 : 2 ≤ z) (h2 : z ≤ 65535)
    (hcl : ∀ w', Calls Try.prog 23 #[.agg (natC N), .agg (natC F)] w' fun e w2 => (∃ g, e = .returned (.tuple #[.agg (clC (some ⟨g, 0, none⟩) F K), .bool true]) ∧ w'.heap.size ≤ g ∧ Row w2 g RG 87) ∧ Below w'.heap.size w' w2)
    (hsh : ∀ g w', Row w' g RG 87 → Calls Try.prog 24 #[.agg (clC (some ⟨g, 0, none⟩) F K), .int .i64 z] w' fun e w2 => e = .returned (.bool B) ∧ Below w'.heap.size w' w2) :
    Calls Try.prog 8 #[.agg (natC N), .agg (natC F), .int .i64 z] w fun e w' => e = .returned (.bool B) ∧ Below w.heap.size w w' := by
  go_enter Try.func8, Try.ntmps8
  (repeat ((fail_if_success (with_reducible show Code.wp _ (Code.region _ _ _) _ _ _)); go_step))
  apply wp_region_mixp [] [_, _, _] trivial List.nodup_nil
  · intro p
    refine mx_box 25 _ rfl _ rfl ?_
    simp only [Act.put, pb, pc, pd]
    refine mx_box 25 _ rfl _ rfl ?_
    simp only [Act.put, pb, pc, pd]
    refine mx_val (.bool false) (fun _ => rfl) ?_
    simp only [Act.put, pb, pc, pd]
    refine mx_end ?_
    intro w2 hkw hrw hnew hdis
    have n3 := hnew 0 rfl
    have n4 := hnew 1 rfl
    have zr3 : Row w2 (p 0) (natC N) 25 := hrw 1 (25, natC N) rfl
    have zr4 : Row w2 (p 1) (natC F) 25 := hrw 3 (25, natC F) rfl
    have d3x4 := hdis 0 1 (by omega) rfl rfl
    have sb := hkw.below w.heap.size (Nat.le_refl _) (by simp)
    have b3 : w.heap.size ≤ p 0 := n3
    have b4 : w.heap.size ≤ p 1 := n4
    clear hkw hrw hnew hdis n3 n4
    generalize p 0 = g3 at *
    generalize p 1 = g4 at *
    have r3 := zr3
    clear zr3
    have r4 := zr4
    clear zr4
    (repeat ((fail_if_success (with_reducible show Code.wp _ (Code.region _ _ _) _ _ _)); go_step))
    refine wp_region_qp ?_
    refine qw_move (by rfl) rfl rfl ?_
    simp only [Act.put, pb, pc, pd]
    refine qw_value (by rfl) (.bool false) (exec_lt_b _ _ _ _ rfl z 2 rfl rfl false (decide_eq_false (by omega))) ?_
    simp only [Act.put, pb, pc, pd]
    refine qw_move (by rfl) rfl rfl ?_
    simp only [Act.put, pb, pc, pd]
    refine qw_move (by rfl) rfl rfl ?_
    simp only [Act.put, pb, pc, pd]
    refine qw_value (by rfl) (.bool false) (exec_gt_i _ _ _ _ rfl z 65535 rfl rfl false (decide_eq_false (by omega))) ?_
    simp only [Act.put, pb, pc, pd]
    refine qw_pick false (v := .bool false) (by rfl) rfl rfl rfl ?_
    simp only [Act.put, pb, pc, pd]
    refine qw_nil ?_
    intro w3 hqb
    replace r3 := r3.belowAll hqb
    replace r4 := r4.belowAll hqb
    replace sb := below_on sb (Nat.le_refl _) hqb
    clear hqb
    go_wp2_with (first
      | refine wpList_loadR rfl 25 _ rfl _ rfl r3 4 _ Try.underlying25 (by exact size_nat) ?_
      | refine wpList_loadR rfl 25 _ rfl _ rfl r4 4 _ Try.underlying25 (by exact size_nat) ?_)
    refine (hcl _).mono ?_
    rintro _ wb ⟨⟨g9, rfl, hg9, r9⟩, bb⟩
    replace sb := below_on sb (Nat.le_refl _) bb
    clear bb hg9 hcl r3 r4
    dsimp only
    (repeat ((fail_if_success (with_reducible show Code.wp _ (Code.region _ _ _) _ _ _)); first | (refine wpList_alloc_row rfl 53 rfl _ zero_cl ?_; simp only [Act.put, List.setIfInBounds_toArray, List.set_cons_zero, List.set_cons_succ]) | (refine wpList_store_new rfl 53 _ _ rfl _ rfl rfl _ _ (by exact size_cl) (by rfl) (cl_one _ _ _) ?_; simp only [Act.put]) | go_step))
    have r7 : Row (wb.alloc (.cells (clC (some ⟨g9, 0, none⟩) F K) 53)) wb.heap.size (clC (some ⟨g9, 0, none⟩) F K) 53 := Row.here rfl
    replace r9 := r9.alloc (.cells (clC (some ⟨g9, 0, none⟩) F K) 53)
    replace sb := sb.alloc sb.size (.cells (clC (some ⟨g9, 0, none⟩) F K) 53)
    generalize wb.alloc (.cells (clC (some ⟨g9, 0, none⟩) F K) 53) = w4 at *
    generalize wb.heap.size = g7 at *
    refine wp_region_qp ?_
    refine qw_move (by rfl) rfl rfl ?_
    simp only [Act.put, pb, pc, pd]
    refine qw_move (by rfl) rfl rfl ?_
    simp only [Act.put, pb, pc, pd]
    refine qw_loadm (by rfl) 53 _ rfl _ (0) rfl r7 (clC (some ⟨g9, 0, none⟩) F K) (part_all _) _ Try.underlying53 rfl size_cl ?_
    simp only [Act.put, pb, pc, pd]
    refine qw_move (by rfl) rfl rfl ?_
    simp only [Act.put, pb, pc, pd]
    refine qw_callK (by rfl) 24 _ _ rfl Try.func24 (by kernel_rfl) #[.agg (clC (some ⟨g9, 0, none⟩) F K), .int .i64 z] rfl _ (fun w' hb => hsh g9 w' (r9.belowAll hb)) ?_
    simp only [Act.put, pb, pc, pd]
    refine qw_pick true (v := .bool B) (by rfl) rfl rfl rfl ?_
    simp only [Act.put, pb, pc, pd]
    refine qw_asg (by rfl) rfl rfl ?_
    simp only [Act.put, pb, pc, pd]
    refine qw_nil ?_
    intro w5 hqb
    replace sb := below_on sb (Nat.le_refl _) hqb
    clear hqb
    go_wp2
    go_ret
    exact ⟨rfl, sb⟩
  · rfl
/-- Step: whether a witness shows that a natural is a prime, if another one is. -/
theorem step_any (N F : Nat) (z : Int) (w : World) (hN : N < 2 ^ 256) (hF : F < 2 ^ 256) :
    Calls Try.prog 8 #[.agg (natC N), .agg (natC F), .int .i64 z] w fun e w' => e = .returned (.bool (stN N F z)) ∧ Below w.heap.size w w' := by
  unfold stN
  by_cases h1 : z < 2
  · rw [decide_eq_false (show ¬ 2 ≤ z by omega), Bool.false_and]
    exact step_less N F z w h1
  by_cases h2 : 65535 < z
  · rw [decide_eq_false (show ¬ z ≤ 65535 by omega), Bool.false_and, Bool.and_false]
    exact step_great N F z w h2
  rw [decide_eq_true (show 2 ≤ z by omega), decide_eq_true (show z ≤ 65535 by omega), Bool.true_and, Bool.true_and]
  cases hm : mayN N F with
  | false => exact step_none N F z w (by omega) (by omega) fun w' => claim_no_any N F w' hN hF hm
  | true =>
    obtain ⟨f1, f2, f3, f4, f5⟩ := mayN_facts hm
    obtain ⟨a, rfl⟩ := Int.eq_ofNat_of_zero_le (show 0 ≤ z by omega)
    rw [Bool.true_and, Int.toNat_natCast]
    exact step_some N F ((N - 1) / F) a _ _ w (by omega) (by omega) (fun w' => claim_any N F w' hN hF hm)
      (fun g w' r => shown_any N F ((N - 1) / F) a g w' hN f1 (by omega) hF f3 (Nat.lt_of_le_of_lt (Nat.div_le_self _ _) (by omega)) (by omega) r)
/-- The least from k on that shows it, fuel of them; 0: none. -/
def wtF (sh : Nat → Bool) : Nat → Nat → Nat
  | 0, _ => 0
  | g + 1, k => if sh (2 + k) = true then 2 + k else wtF sh g (k + 1)
def witN (N F : Nat) : Nat := if mayN N F = true then wtF (shN N F) 99 0 else 0
def errW (W : Nat) : Int := if W = 0 then 3 else 0
set_option maxRecDepth 100000 in
set_option maxHeartbeats 2000000 in
theorem wit_none (N F : Nat) (w : World)
    (hcl : ∀ w', Calls Try.prog 23 #[.agg (natC N), .agg (natC F)] w' fun e w2 => e = .returned (.tuple #[.agg (clC none 0 0), .bool false]) ∧ Below w'.heap.size w' w2) :
    Calls Try.prog 7 #[.agg (natC N), .agg (natC F)] w fun e w' => e = .returned (.tuple #[.int .i64 0, .int .i64 3]) ∧ Below w.heap.size w w' := by
  go_enter Try.func7, Try.ntmps7
  (repeat ((fail_if_success (with_reducible show Code.wp _ (Code.region _ _ _) _ _ _)); go_step))
  apply wp_region_mixp [] [_, _, _, _] trivial List.nodup_nil
  · intro p
    refine mx_box 25 _ rfl _ rfl ?_
    simp only [Act.put, pb, pc, pd]
    refine mx_box 25 _ rfl _ rfl ?_
    simp only [Act.put, pb, pc, pd]
    refine mx_val (.int .i64 0) (fun _ => rfl) ?_
    simp only [Act.put, pb, pc, pd]
    refine mx_val (.int .i64 0) (fun _ => rfl) ?_
    simp only [Act.put, pb, pc, pd]
    refine mx_end ?_
    intro w2 hkw hrw hnew hdis
    have n2 := hnew 0 rfl
    have n3 := hnew 1 rfl
    have zr2 : Row w2 (p 0) (natC N) 25 := hrw 1 (25, natC N) rfl
    have zr3 : Row w2 (p 1) (natC F) 25 := hrw 3 (25, natC F) rfl
    have d2x3 := hdis 0 1 (by omega) rfl rfl
    have sb := hkw.below w.heap.size (Nat.le_refl _) (by simp)
    have b2 : w.heap.size ≤ p 0 := n2
    have b3 : w.heap.size ≤ p 1 := n3
    clear hkw hrw hnew hdis n2 n3
    generalize p 0 = g2 at *
    generalize p 1 = g3 at *
    have r2 := zr2
    clear zr2
    have r3 := zr3
    clear zr3
    (repeat ((fail_if_success (with_reducible show Code.wp _ (Code.region _ _ _) _ _ _)); go_step))
    apply wp_region_mixp [] [_, _, _, _, _, _, _, _, _] trivial List.nodup_nil
    · intro p
      refine mx_load 25 _ rfl _ rfl r2 (by simp <;> omega) 4 _ Try.underlying25 size_nat ?_
      simp only [Act.put, pb, pc, pd]
      refine mx_load 25 _ rfl _ rfl r3 (by simp <;> omega) 4 _ Try.underlying25 size_nat ?_
      simp only [Act.put, pb, pc, pd]
      refine mx_call 23 _ _ rfl Try.func23 (by kernel_rfl) #[.agg (natC N), .agg (natC F)] rfl _ hcl ?_
      simp only [Act.put, pb, pc, pd]
      refine mx_move rfl rfl ?_
      simp only [Act.put, pb, pc, pd]
      refine mx_ext rfl rfl rfl ?_
      simp only [Act.put, pb, pc, pd]
      refine mx_ext rfl rfl rfl ?_
      simp only [Act.put, pb, pc, pd]
      refine mx_new 53 rfl _ zero_cl ?_
      simp only [Act.put, pb, pc, pd]
      refine mx_put 13 53 _ _ rfl rfl rfl (clC none 0 0) rfl (by exact size_cl) (by rfl) (cl_one _ _ _) ?_
      simp only [Act.put]
      refine mx_asg rfl rfl ?_
      simp only [Act.put, pb, pc, pd]
      refine mx_end ?_
      intro w3 hkw hrw hnew hdis
      have n6 := hnew 6 rfl
      have zr6 : Row w3 (p 6) (clC none 0 0) 53 := hrw 13 (53, clC none 0 0) rfl
      replace sb := sb.trans (hkw.below w.heap.size sb.size (by simp <;> omega))
      clear hkw hrw hnew hdis n6
      generalize p 6 = g6 at *
      have r6 := zr6
      clear zr6
      (repeat ((fail_if_success (with_reducible show Code.wp _ (Code.region _ _ _) _ _ _)); go_step))
      apply wp_region_mixp [] [_, _] trivial List.nodup_nil
      · intro p
        refine mx_move rfl rfl ?_
        simp only [Act.put, pb, pc, pd]
        refine mx_val (.bool true) (exec_not _ _ rfl false rfl) ?_
        simp only [Act.put, pb, pc, pd]
        refine mx_end ?_
        intro w4 hkw hrw hnew hdis
        replace sb := sb.trans (hkw.below w.heap.size sb.size (by simp <;> omega))
        clear hkw hrw hnew hdis
        go_wp2
        go_ret2
        exact ⟨rfl, sb⟩
      · rfl
    · rfl
  · rfl
set_option maxRecDepth 100000 in
set_option maxHeartbeats 2000000 in
theorem wit_some (N F K W : Nat) (sh : Nat → Bool) (RG : Array Value) (w : World) (hW : wtF sh 99 0 = W)
    (hcl : ∀ w', Calls Try.prog 23 #[.agg (natC N), .agg (natC F)] w' fun e w2 => (∃ g, e = .returned (.tuple #[.agg (clC (some ⟨g, 0, none⟩) F K), .bool true]) ∧ w'.heap.size ≤ g ∧ Row w2 g RG 87) ∧ Below w'.heap.size w' w2)
    (hsh : ∀ k, k < 99 → ∀ g w', Row w' g RG 87 → Calls Try.prog 24 #[.agg (clC (some ⟨g, 0, none⟩) F K), .int .i64 ((2 + k : Nat) : Int)] w' fun e w2 => e = .returned (.bool (sh (2 + k))) ∧ Below w'.heap.size w' w2) :
    Calls Try.prog 7 #[.agg (natC N), .agg (natC F)] w fun e w' => e = .returned (.tuple #[.int .i64 W, .int .i64 (errW W)]) ∧ Below w.heap.size w w' := by
  have HW : Hid (wtF sh 99 0 = W) := hW
  clear hW
  go_enter Try.func7, Try.ntmps7
  (repeat ((fail_if_success (with_reducible show Code.wp _ (Code.region _ _ _) _ _ _)); go_step))
  apply wp_region_mixp [] [_, _, _, _] trivial List.nodup_nil
  · intro p
    refine mx_box 25 _ rfl _ rfl ?_
    simp only [Act.put, pb, pc, pd]
    refine mx_box 25 _ rfl _ rfl ?_
    simp only [Act.put, pb, pc, pd]
    refine mx_val (.int .i64 0) (fun _ => rfl) ?_
    simp only [Act.put, pb, pc, pd]
    refine mx_val (.int .i64 0) (fun _ => rfl) ?_
    simp only [Act.put, pb, pc, pd]
    refine mx_end ?_
    intro w2 hkw hrw hnew hdis
    have n2 := hnew 0 rfl
    have n3 := hnew 1 rfl
    have zr2 : Row w2 (p 0) (natC N) 25 := hrw 1 (25, natC N) rfl
    have zr3 : Row w2 (p 1) (natC F) 25 := hrw 3 (25, natC F) rfl
    have d2x3 := hdis 0 1 (by omega) rfl rfl
    have sb := hkw.below w.heap.size (Nat.le_refl _) (by simp)
    have b2 : w.heap.size ≤ p 0 := n2
    have b3 : w.heap.size ≤ p 1 := n3
    clear hkw hrw hnew hdis n2 n3
    generalize p 0 = g2 at *
    generalize p 1 = g3 at *
    have r2 := zr2
    clear zr2
    have r3 := zr3
    clear zr3
    go_wp2_with (first
      | refine wpList_loadR rfl 25 _ rfl _ rfl r2 4 _ Try.underlying25 (by exact size_nat) ?_
      | refine wpList_loadR rfl 25 _ rfl _ rfl r3 4 _ Try.underlying25 (by exact size_nat) ?_)
    refine (hcl _).mono ?_
    rintro _ wb ⟨⟨g9, rfl, hg9, r9⟩, bb⟩
    replace sb := below_on sb (Nat.le_refl _) bb
    clear bb hg9 hcl r2 r3
    dsimp only
    (repeat ((fail_if_success (with_reducible show Code.wp _ (Code.region _ _ _) _ _ _)); first | (refine wpList_alloc_row rfl 53 rfl _ zero_cl ?_; simp only [Act.put, List.setIfInBounds_toArray, List.set_cons_zero, List.set_cons_succ]) | (refine wpList_store_new rfl 53 _ _ rfl _ rfl rfl _ _ (by exact size_cl) (by rfl) (cl_one _ _ _) ?_; simp only [Act.put]) | go_step))
    have r6 : Row (wb.alloc (.cells (clC (some ⟨g9, 0, none⟩) F K) 53)) wb.heap.size (clC (some ⟨g9, 0, none⟩) F K) 53 := Row.here rfl
    replace r9 := r9.alloc (.cells (clC (some ⟨g9, 0, none⟩) F K) 53)
    replace sb := sb.alloc sb.size (.cells (clC (some ⟨g9, 0, none⟩) F K) 53)
    generalize wb.alloc (.cells (clC (some ⟨g9, 0, none⟩) F K) 53) = w4 at *
    generalize wb.heap.size = g6 at *
    apply wp_region_mixp [] [_, _] trivial List.nodup_nil
    · intro p
      refine mx_move rfl rfl ?_
      simp only [Act.put, pb, pc, pd]
      refine mx_val (.bool false) (exec_not _ _ rfl true rfl) ?_
      simp only [Act.put, pb, pc, pd]
      refine mx_end ?_
      intro w5 hkw hrw hnew hdis
      replace r6 := hkw.row r6 (by simp <;> omega)
      replace r9 := hkw.row r9 (by simp <;> omega)
      replace sb := sb.trans (hkw.below w.heap.size sb.size (by simp <;> omega))
      clear hkw hrw hnew hdis
      go_wp2_with fail
      go_loopg [17] 99 (fun g s17 wr => ∃ k : Nat, k + g = 99 ∧ s17 = .int .i64 k ∧ wtF sh g k = W ∧ Row wr g6 (clC (some ⟨g9, 0, none⟩) F K) 53 ∧ Row wr g9 RG 87 ∧ Below w.heap.size w wr)
      case atStart => exact ⟨0, by omega, rfl, HW.out, r6, r9, sb⟩
      case round =>
        clear r6 r9 sb HW
        obtain ⟨k, hk, rfl, hs, r6, r9, sb⟩ := hrel
        cases gk with
        | zero =>
          obtain rfl : k = 99 := by omega
          obtain rfl : 0 = W := hs
          (repeat ((fail_if_success (with_reducible show Code.wp _ (Code.region _ _ _) _ _ _)); go_step))
          apply wp_region_mixp [] [_] trivial List.nodup_nil
          · intro p
            refine mx_val (.bool false) (exec_lt_b _ _ _ _ rfl ((99 : Nat) : Int) 99 rfl rfl false (decide_eq_false (by omega))) ?_
            simp only [Act.put, pb, pc, pd]
            refine mx_end ?_
            intro w6 hkw hrw hnew hdis
            replace sb := sb.trans (hkw.below w.heap.size sb.size (by simp <;> omega))
            clear hkw hrw hnew hdis
            go_wp2
            go_ret2
            exact ⟨rfl, sb⟩
          · rfl
        | succ g =>
          replace hsh := hsh k (by omega) g9
          unfold wtF at hs
          cases hb : sh (2 + k) with
          | true =>
            rw [if_pos hb] at hs
            rw [hb] at hsh
            subst hs
            have HE : Hid (errW (2 + k) = 0) := if_neg (by omega)
            clear hb
            (repeat ((fail_if_success (with_reducible show Code.wp _ (Code.region _ _ _) _ _ _)); go_step))
            apply wp_region_mixp [] [_] trivial List.nodup_nil
            · intro p
              refine mx_val (.bool true) (exec_lt_b _ _ _ _ rfl k 99 rfl rfl true (decide_eq_true (by omega))) ?_
              simp only [Act.put, pb, pc, pd]
              refine mx_end ?_
              intro w6 hkw hrw hnew hdis
              replace r6 := hkw.row r6 (by simp <;> omega)
              replace r9 := hkw.row r9 (by simp <;> omega)
              replace sb := sb.trans (hkw.below w.heap.size sb.size (by simp <;> omega))
              clear hkw hrw hnew hdis
              (repeat ((fail_if_success (with_reducible show Code.wp _ (Code.region _ _ _) _ _ _)); go_step))
              apply wp_region_mixp [] [_, _] trivial List.nodup_nil
              · intro p
                refine mx_move rfl rfl ?_
                simp only [Act.put, pb, pc, pd]
                refine mx_asg rfl rfl ?_
                simp only [Act.put, pb, pc, pd]
                refine mx_end ?_
                intro w7 hkw hrw hnew hdis
                replace r6 := hkw.row r6 (by simp <;> omega)
                replace r9 := hkw.row r9 (by simp <;> omega)
                replace sb := sb.trans (hkw.below w.heap.size sb.size (by simp <;> omega))
                clear hkw hrw hnew hdis
                (repeat ((fail_if_success (with_reducible show Code.wp _ (Code.region _ _ _) _ _ _)); go_step))
                apply wp_region_mixp [] [_, _, _, _] trivial List.nodup_nil
                · intro p
                  refine mx_loadm 53 _ rfl _ (0) rfl r6 (by simp <;> omega) (clC (some ⟨g9, 0, none⟩) F K) (part_all _) _ Try.underlying53 rfl size_cl ?_
                  simp only [Act.put, pb, pc, pd]
                  refine mx_move rfl rfl ?_
                  simp only [Act.put, pb, pc, pd]
                  refine mx_val (.int .i64 ((2 + k : Nat) : Int)) (exec_add_in _ _ _ _ rfl 2 k rfl rfl (by omega)) ?_
                  simp only [Act.put, pb, pc, pd]
                  refine mx_callK 24 _ _ rfl Try.func24 (by kernel_rfl) #[.agg (clC (some ⟨g9, 0, none⟩) F K), .int .i64 ((2 + k : Nat) : Int)] rfl _ (fun w' hk => hsh w' (hk.row r9 (by simp))) ?_
                  simp only [Act.put, pb, pc, pd]
                  refine mx_end ?_
                  intro w8 hkw hrw hnew hdis
                  replace sb := sb.trans (hkw.below w.heap.size sb.size (by simp <;> omega))
                  clear hkw hrw hnew hdis
                  (repeat ((fail_if_success (with_reducible show Code.wp _ (Code.region _ _ _) _ _ _)); go_step))
                  apply wp_region_mixp [] [_, _, _, _] trivial List.nodup_nil
                  · intro p
                    refine mx_move rfl rfl ?_
                    simp only [Act.put, pb, pc, pd]
                    refine mx_val (.int .i64 ((2 + k : Nat) : Int)) (exec_add_in _ _ _ _ rfl 2 k rfl rfl (by omega)) ?_
                    simp only [Act.put, pb, pc, pd]
                    refine mx_asg rfl rfl ?_
                    simp only [Act.put, pb, pc, pd]
                    refine mx_val (.int .i64 0) (fun _ => rfl) ?_
                    simp only [Act.put, pb, pc, pd]
                    refine mx_end ?_
                    intro w9 hkw hrw hnew hdis
                    replace sb := sb.trans (hkw.below w.heap.size sb.size (by simp <;> omega))
                    clear hkw hrw hnew hdis
                    go_wp2
                    go_ret2
                    exact ⟨by rw [HE.out]; rfl, sb⟩
                  · rfl
                · rfl
              · rfl
            · rfl
          | false =>
            rw [if_neg (by rw [hb]; decide)] at hs
            rw [hb] at hsh
            clear hb
            (repeat ((fail_if_success (with_reducible show Code.wp _ (Code.region _ _ _) _ _ _)); go_step))
            apply wp_region_mixp [] [_] trivial List.nodup_nil
            · intro p
              refine mx_val (.bool true) (exec_lt_b _ _ _ _ rfl k 99 rfl rfl true (decide_eq_true (by omega))) ?_
              simp only [Act.put, pb, pc, pd]
              refine mx_end ?_
              intro w6 hkw hrw hnew hdis
              replace r6 := hkw.row r6 (by simp <;> omega)
              replace r9 := hkw.row r9 (by simp <;> omega)
              replace sb := sb.trans (hkw.below w.heap.size sb.size (by simp <;> omega))
              clear hkw hrw hnew hdis
              (repeat ((fail_if_success (with_reducible show Code.wp _ (Code.region _ _ _) _ _ _)); go_step))
              apply wp_region_mixp [] [_, _] trivial List.nodup_nil
              · intro p
                refine mx_move rfl rfl ?_
                simp only [Act.put, pb, pc, pd]
                refine mx_asg rfl rfl ?_
                simp only [Act.put, pb, pc, pd]
                refine mx_end ?_
                intro w7 hkw hrw hnew hdis
                replace r6 := hkw.row r6 (by simp <;> omega)
                replace r9 := hkw.row r9 (by simp <;> omega)
                replace sb := sb.trans (hkw.below w.heap.size sb.size (by simp <;> omega))
                clear hkw hrw hnew hdis
                (repeat ((fail_if_success (with_reducible show Code.wp _ (Code.region _ _ _) _ _ _)); go_step))
                apply wp_region_mixp [] [_, _, _, _] trivial List.nodup_nil
                · intro p
                  refine mx_loadm 53 _ rfl _ (0) rfl r6 (by simp <;> omega) (clC (some ⟨g9, 0, none⟩) F K) (part_all _) _ Try.underlying53 rfl size_cl ?_
                  simp only [Act.put, pb, pc, pd]
                  refine mx_move rfl rfl ?_
                  simp only [Act.put, pb, pc, pd]
                  refine mx_val (.int .i64 ((2 + k : Nat) : Int)) (exec_add_in _ _ _ _ rfl 2 k rfl rfl (by omega)) ?_
                  simp only [Act.put, pb, pc, pd]
                  refine mx_callK 24 _ _ rfl Try.func24 (by kernel_rfl) #[.agg (clC (some ⟨g9, 0, none⟩) F K), .int .i64 ((2 + k : Nat) : Int)] rfl _ (fun w' hk => hsh w' (hk.row r9 (by simp))) ?_
                  simp only [Act.put, pb, pc, pd]
                  refine mx_end ?_
                  intro w8 hkw hrw hnew hdis
                  replace r6 := hkw.row r6 (by simp <;> omega)
                  replace r9 := hkw.row r9 (by simp <;> omega)
                  replace sb := sb.trans (hkw.below w.heap.size sb.size (by simp <;> omega))
                  clear hkw hrw hnew hdis
                  (repeat ((fail_if_success (with_reducible show Code.wp _ (Code.region _ _ _) _ _ _)); go_step))
                  apply wp_region_mixp [] [_, _] trivial List.nodup_nil
                  · intro p
                    refine mx_val (.int .i64 ((k + 1 : Nat) : Int)) (exec_add_in _ _ _ _ rfl k 1 rfl rfl (by omega)) ?_
                    simp only [Act.put, pb, pc, pd]
                    refine mx_move rfl rfl ?_
                    simp only [Act.put, pb, pc, pd]
                    refine mx_end ?_
                    intro w9 hkw hrw hnew hdis
                    replace r6 := hkw.row r6 (by simp <;> omega)
                    replace r9 := hkw.row r9 (by simp <;> omega)
                    replace sb := sb.trans (hkw.below w.heap.size sb.size (by simp <;> omega))
                    clear hkw hrw hnew hdis
                    go_wp2
                    go_roundg g
                    case measure => omega
                    case rel => exact ⟨k + 1, by omega, rfl, hs, r6, r9, sb⟩
                  · rfl
                · rfl
              · rfl
            · rfl
    · rfl
  · rfl
/-- Witness: the least one from 2 to 100. -/
theorem wit_any (N F : Nat) (w : World) (hN : N < 2 ^ 256) (hF : F < 2 ^ 256) :
    Calls Try.prog 7 #[.agg (natC N), .agg (natC F)] w fun e w' => e = .returned (.tuple #[.int .i64 (witN N F), .int .i64 (errW (witN N F))]) ∧ Below w.heap.size w w' := by
  cases hm : mayN N F with
  | false =>
    rw [show witN N F = 0 by unfold witN; rw [if_neg (by rw [hm]; decide)]]
    exact wit_none N F w fun w' => claim_no_any N F w' hN hF hm
  | true =>
    obtain ⟨f1, f2, f3, f4, f5⟩ := mayN_facts hm
    exact wit_some N F ((N - 1) / F) _ (shN N F) _ w (by unfold witN; rw [if_pos hm]) (fun w' => claim_any N F w' hN hF hm)
      (fun k hk g w' r => shown_any N F ((N - 1) / F) (2 + k) g w' hN f1 (by omega) hF f3 (Nat.lt_of_le_of_lt (Nat.div_le_self _ _) (by omega)) (by omega) r)
end Go.Proofs.Ytcdfefljagddmab
