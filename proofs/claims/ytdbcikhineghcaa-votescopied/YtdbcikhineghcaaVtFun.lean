/- The functions of votes, by what lies in memory. -/
import Derived.Test.YtdbcikhineghcaaVtBase
namespace Go.Proofs.Ytdbcikhineghcaa
open Go.RowKit
set_option linter.unusedVariables false
set_option linter.unusedSectionVars false
set_option linter.unusedSimpArgs false
def clB (c : Int) : Bool := decide (1 ≤ c ∧ c ≤ 4)
set_option maxRecDepth 100000 in
set_option maxHeartbeats 2000000 in
theorem scl_any (n : Int) (w : World) :
  Calls Try.prog 24 #[.int .i64 n] w fun e w' => e = .returned (.bool (clB n)) ∧ Below w.heap.size w w' := by
 by_cases h1 : 1 ≤ n
 rotate_left
 ·rw [show clB n = false from decide_eq_false (by omega)]
  go_enter Try.func24, Try.ntmps24
  have sb := sbmk w
  (repeat ((fail_if_success with_reducible refine rg ?_); go_step))
  refine wp_region_pw ?_
  refine pw_value (by rfl) (.bool false) (fun _ => rfl) ?_
  simp only [Act.put, pu]
  refine pw_nil ?_
  (repeat ((fail_if_success with_reducible refine rg ?_); go_step))
  refine wp_region_pw ?_
  refine pw_mv (by rfl) rfl rfl ?_
  simp only [Act.put, pu]
  refine pw_value (by rfl) (.bool false) (exec_geq_i _ _ _ _ rfl (n) (1) rfl rfl false (decide_eq_false (by omega))) ?_
  simp only [Act.put, pu]
  refine pw_mv (by rfl) rfl rfl ?_
  simp only [Act.put, pu]
  refine pw_skip (by rfl) ?_
  simp only [Act.put, pu]
  refine pw_skip (by rfl) ?_
  simp only [Act.put, pu]
  refine pw_pick (by rfl) false (v := .bool false) rfl rfl rfl ?_
  simp only [Act.put, pu]
  refine pw_as (by rfl) rfl rfl ?_
  simp only [Act.put, pu]
  refine pw_nil ?_
  go_wp2
  go_ret
  exact ⟨rfl, sb⟩
 by_cases h2 : n ≤ 4
 ·rw [show clB n = true from decide_eq_true ⟨h1, h2⟩]
  go_enter Try.func24, Try.ntmps24
  have sb := sbmk w
  (repeat ((fail_if_success with_reducible refine rg ?_); go_step))
  refine wp_region_pw ?_
  refine pw_value (by rfl) (.bool false) (fun _ => rfl) ?_
  simp only [Act.put, pu]
  refine pw_nil ?_
  (repeat ((fail_if_success with_reducible refine rg ?_); go_step))
  refine wp_region_pw ?_
  refine pw_mv (by rfl) rfl rfl ?_
  simp only [Act.put, pu]
  refine pw_value (by rfl) (.bool true) (exec_geq_i _ _ _ _ rfl (n) (1) rfl rfl true (decide_eq_true (by omega))) ?_
  simp only [Act.put, pu]
  refine pw_mv (by rfl) rfl rfl ?_
  simp only [Act.put, pu]
  refine pw_mv (by rfl) rfl rfl ?_
  simp only [Act.put, pu]
  refine pw_value (by rfl) (.bool true) (exec_leq_i _ _ _ _ rfl (n) (4) rfl rfl true (decide_eq_true (by omega))) ?_
  simp only [Act.put, pu]
  refine pw_pick (by rfl) true (v := .bool true) rfl rfl rfl ?_
  simp only [Act.put, pu]
  refine pw_as (by rfl) rfl rfl ?_
  simp only [Act.put, pu]
  refine pw_nil ?_
  go_wp2
  go_ret
  exact ⟨rfl, sb⟩
 ·rw [show clB n = false from decide_eq_false (by omega)]
  go_enter Try.func24, Try.ntmps24
  have sb := sbmk w
  (repeat ((fail_if_success with_reducible refine rg ?_); go_step))
  refine wp_region_pw ?_
  refine pw_value (by rfl) (.bool false) (fun _ => rfl) ?_
  simp only [Act.put, pu]
  refine pw_nil ?_
  (repeat ((fail_if_success with_reducible refine rg ?_); go_step))
  refine wp_region_pw ?_
  refine pw_mv (by rfl) rfl rfl ?_
  simp only [Act.put, pu]
  refine pw_value (by rfl) (.bool true) (exec_geq_i _ _ _ _ rfl (n) (1) rfl rfl true (decide_eq_true (by omega))) ?_
  simp only [Act.put, pu]
  refine pw_mv (by rfl) rfl rfl ?_
  simp only [Act.put, pu]
  refine pw_mv (by rfl) rfl rfl ?_
  simp only [Act.put, pu]
  refine pw_value (by rfl) (.bool false) (exec_leq_i _ _ _ _ rfl (n) (4) rfl rfl false (decide_eq_false (by omega))) ?_
  simp only [Act.put, pu]
  refine pw_pick (by rfl) true (v := .bool false) rfl rfl rfl ?_
  simp only [Act.put, pu]
  refine pw_as (by rfl) rfl rfl ?_
  simp only [Act.put, pu]
  refine pw_nil ?_
  go_wp2
  go_ret
  exact ⟨rfl, sb⟩
set_option maxRecDepth 100000 in
set_option maxHeartbeats 2000000 in
theorem smay_any (sq cl : Int) (w : World) :
  Calls Try.prog 21 #[.agg (tsC sq cl)] w fun e w' => e = .returned (.bool (stB sq cl)) ∧ Below w.heap.size w w' := by
 have hC := fun w' => scl_any cl w'
 by_cases h1 : 1 ≤ sq
 rotate_left
 ·rw [show stB sq cl = false from decide_eq_false (by omega)]
  go_enter Try.func21, Try.ntmps21
  have sb := sbmk w
  (repeat ((fail_if_success with_reducible refine rg ?_); go_step))
  refine wp_region_pw ?_
  refine pw_boxr (by rfl) 32 _ rfl (tsC sq cl) rfl ?_
  intro g1 z0 n0 r1 k
  simp only [Act.put, pu]
  have b1 := Nat.le_trans sb.size n0
  clear n0
  replace sb := sb.trans (k.below w.heap.size sb.size (by simp <;> omega))
  clear k
  refine pw_value (by rfl) (.bool false) (fun _ => rfl) ?_
  simp only [Act.put, pu]
  refine pw_nil ?_
  (repeat ((fail_if_success with_reducible refine rg ?_); go_step))
  refine wp_region_pw ?_
  refine pw_value (by rfl) (.pointer (some ⟨g1, 0, none⟩)) (exec_field 32 _ 0 rfl g1 0 rfl _ Try.underlying32 _ rfl 0 Try.sizeOf3) ?_
  simp only [Act.put, pu]
  refine pw_loadk (by rfl) 3 _ rfl _ (0) rfl r1.r (.int .i64 sq) rfl Try.isAgg3 ?_
  simp only [Act.put, pu]
  refine pw_value (by rfl) (.bool false) (exec_geq_i _ _ _ _ rfl (sq) (1) rfl rfl false (decide_eq_false (by omega))) ?_
  simp only [Act.put, pu]
  refine pw_mv (by rfl) rfl rfl ?_
  simp only [Act.put, pu]
  refine pw_skip (by rfl) ?_
  simp only [Act.put, pu]
  refine pw_skip (by rfl) ?_
  simp only [Act.put, pu]
  refine pw_skip (by rfl) ?_
  simp only [Act.put, pu]
  refine pw_pick (by rfl) false (v := .bool false) rfl rfl rfl ?_
  simp only [Act.put, pu]
  refine pw_mv (by rfl) rfl rfl ?_
  simp only [Act.put, pu]
  refine pw_skip (by rfl) ?_
  simp only [Act.put, pu]
  refine pw_skip (by rfl) ?_
  simp only [Act.put, pu]
  refine pw_skip (by rfl) ?_
  simp only [Act.put, pu]
  refine pw_pick (by rfl) false (v := .bool false) rfl rfl rfl ?_
  simp only [Act.put, pu]
  refine pw_as (by rfl) rfl rfl ?_
  simp only [Act.put, pu]
  refine pw_nil ?_
  go_wp2
  go_ret
  exact ⟨rfl, sb⟩
 by_cases h2 : sq ≤ 1099511627776
 ·rw [show stB sq cl = clB cl from decide_eq_decide.2 (by omega)]
  go_enter Try.func21, Try.ntmps21
  have sb := sbmk w
  (repeat ((fail_if_success with_reducible refine rg ?_); go_step))
  refine wp_region_pw ?_
  refine pw_boxr (by rfl) 32 _ rfl (tsC sq cl) rfl ?_
  intro g1 z0 n0 r1 k
  simp only [Act.put, pu]
  have b1 := Nat.le_trans sb.size n0
  clear n0
  replace sb := sb.trans (k.below w.heap.size sb.size (by simp <;> omega))
  clear k
  refine pw_value (by rfl) (.bool false) (fun _ => rfl) ?_
  simp only [Act.put, pu]
  refine pw_nil ?_
  (repeat ((fail_if_success with_reducible refine rg ?_); go_step))
  refine wp_region_pw ?_
  refine pw_value (by rfl) (.pointer (some ⟨g1, 0, none⟩)) (exec_field 32 _ 0 rfl g1 0 rfl _ Try.underlying32 _ rfl 0 Try.sizeOf3) ?_
  simp only [Act.put, pu]
  refine pw_loadk (by rfl) 3 _ rfl _ (0) rfl r1.r (.int .i64 sq) rfl Try.isAgg3 ?_
  simp only [Act.put, pu]
  refine pw_value (by rfl) (.bool true) (exec_geq_i _ _ _ _ rfl (sq) (1) rfl rfl true (decide_eq_true (by omega))) ?_
  simp only [Act.put, pu]
  refine pw_mv (by rfl) rfl rfl ?_
  simp only [Act.put, pu]
  refine pw_value (by rfl) (.pointer (some ⟨g1, 0, none⟩)) (exec_field 32 _ 0 rfl g1 0 rfl _ Try.underlying32 _ rfl 0 Try.sizeOf3) ?_
  simp only [Act.put, pu]
  refine pw_loadk (by rfl) 3 _ rfl _ (0) rfl r1.r (.int .i64 sq) rfl Try.isAgg3 ?_
  simp only [Act.put, pu]
  refine pw_value (by rfl) (.bool true) (exec_leq_i _ _ _ _ rfl (sq) (1099511627776) rfl rfl true (decide_eq_true (by omega))) ?_
  simp only [Act.put, pu]
  refine pw_pick (by rfl) true (v := .bool true) rfl rfl rfl ?_
  simp only [Act.put, pu]
  refine pw_mv (by rfl) rfl rfl ?_
  simp only [Act.put, pu]
  refine pw_value (by rfl) (.pointer (some ⟨g1, 1, none⟩)) (exec_field 32 _ 1 rfl g1 0 rfl _ Try.underlying32 _ rfl 0 Try.sizeOf3) ?_
  simp only [Act.put, pu]
  refine pw_loadk (by rfl) 3 _ rfl _ (1) rfl r1.r (.int .i64 cl) rfl Try.isAgg3 ?_
  simp only [Act.put, pu]
  refine pw_callB (by rfl) 24 _ _ rfl Try.func24 (by kernel_rfl) #[.int .i64 cl] rfl _ (hC _) ?_
  intro z1011 k
  simp only [Act.put, pu]
  replace r1 := k.row r1 (by simp <;> omega)
  replace sb := sb.trans (k.below w.heap.size sb.size (by simp <;> omega))
  clear k
  refine pw_pick (by rfl) true (v := .bool (clB cl)) rfl rfl rfl ?_
  simp only [Act.put, pu]
  refine pw_as (by rfl) rfl rfl ?_
  simp only [Act.put, pu]
  refine pw_nil ?_
  go_wp2
  go_ret
  exact ⟨rfl, sb⟩
 ·rw [show stB sq cl = false from decide_eq_false (by omega)]
  go_enter Try.func21, Try.ntmps21
  have sb := sbmk w
  (repeat ((fail_if_success with_reducible refine rg ?_); go_step))
  refine wp_region_pw ?_
  refine pw_boxr (by rfl) 32 _ rfl (tsC sq cl) rfl ?_
  intro g1 z0 n0 r1 k
  simp only [Act.put, pu]
  have b1 := Nat.le_trans sb.size n0
  clear n0
  replace sb := sb.trans (k.below w.heap.size sb.size (by simp <;> omega))
  clear k
  refine pw_value (by rfl) (.bool false) (fun _ => rfl) ?_
  simp only [Act.put, pu]
  refine pw_nil ?_
  (repeat ((fail_if_success with_reducible refine rg ?_); go_step))
  refine wp_region_pw ?_
  refine pw_value (by rfl) (.pointer (some ⟨g1, 0, none⟩)) (exec_field 32 _ 0 rfl g1 0 rfl _ Try.underlying32 _ rfl 0 Try.sizeOf3) ?_
  simp only [Act.put, pu]
  refine pw_loadk (by rfl) 3 _ rfl _ (0) rfl r1.r (.int .i64 sq) rfl Try.isAgg3 ?_
  simp only [Act.put, pu]
  refine pw_value (by rfl) (.bool true) (exec_geq_i _ _ _ _ rfl (sq) (1) rfl rfl true (decide_eq_true (by omega))) ?_
  simp only [Act.put, pu]
  refine pw_mv (by rfl) rfl rfl ?_
  simp only [Act.put, pu]
  refine pw_value (by rfl) (.pointer (some ⟨g1, 0, none⟩)) (exec_field 32 _ 0 rfl g1 0 rfl _ Try.underlying32 _ rfl 0 Try.sizeOf3) ?_
  simp only [Act.put, pu]
  refine pw_loadk (by rfl) 3 _ rfl _ (0) rfl r1.r (.int .i64 sq) rfl Try.isAgg3 ?_
  simp only [Act.put, pu]
  refine pw_value (by rfl) (.bool false) (exec_leq_i _ _ _ _ rfl (sq) (1099511627776) rfl rfl false (decide_eq_false (by omega))) ?_
  simp only [Act.put, pu]
  refine pw_pick (by rfl) true (v := .bool false) rfl rfl rfl ?_
  simp only [Act.put, pu]
  refine pw_mv (by rfl) rfl rfl ?_
  simp only [Act.put, pu]
  refine pw_skip (by rfl) ?_
  simp only [Act.put, pu]
  refine pw_skip (by rfl) ?_
  simp only [Act.put, pu]
  refine pw_skip (by rfl) ?_
  simp only [Act.put, pu]
  refine pw_pick (by rfl) false (v := .bool false) rfl rfl rfl ?_
  simp only [Act.put, pu]
  refine pw_as (by rfl) rfl rfl ?_
  simp only [Act.put, pu]
  refine pw_nil ?_
  go_wp2
  go_ret
  exact ⟨rfl, sb⟩
set_option maxRecDepth 100000 in
set_option maxHeartbeats 2000000 in
theorem rsmay_any (sq cl : Int) (w : World) :
  Calls Try.prog 17 #[.agg (tsC sq cl)] w fun e w' => e = .returned (.bool (stB sq cl)) ∧ Below w.heap.size w w' := by
 by_cases h0 : 1 ≤ sq
 rotate_left
 ·rw [show stB sq cl = false from decide_eq_false (by omega)]
  go_enter Try.func17, Try.ntmps17
  (repeat ((fail_if_success with_reducible refine rg ?_); go_step))
  refine wp_region_pw ?_
  refine pw_boxr (by rfl) 32 _ rfl (tsC sq cl) rfl ?_
  intro g1 z0 n0 r1 k
  simp only [Act.put, pu]
  have b1 : w.heap.size ≤ g1 := n0
  clear n0
  have sb := k.below w.heap.size (Nat.le_refl _) (by simp)
  clear k
  refine pw_value (by rfl) (.bool false) (fun _ => rfl) ?_
  simp only [Act.put, pu]
  refine pw_nil ?_
  (repeat ((fail_if_success with_reducible refine rg ?_); go_step))
  refine wp_region_pw ?_
  refine pw_value (by rfl) (.pointer (some ⟨g1, 0, none⟩)) (exec_field 32 _ 0 rfl g1 0 rfl _ Try.underlying32 _ rfl 0 Try.sizeOf3) ?_
  simp only [Act.put, pu]
  refine pw_loadk (by rfl) 3 _ rfl _ (0) rfl r1.r (.int .i64 sq) rfl Try.isAgg3 ?_
  simp only [Act.put, pu]
  refine pw_value (by rfl) (.bool false) (exec_geq_i _ _ _ _ rfl sq 1 rfl rfl false (decide_eq_false (by omega))) ?_
  simp only [Act.put, pu]
  refine pw_mv (by rfl) rfl rfl ?_
  simp only [Act.put, pu]
  refine pw_skip (by rfl) ?_
  simp only [Act.put, pu]
  refine pw_skip (by rfl) ?_
  simp only [Act.put, pu]
  refine pw_skip (by rfl) ?_
  simp only [Act.put, pu]
  refine pw_pick (by rfl) false (v := .bool false) rfl rfl rfl ?_
  simp only [Act.put, pu]
  refine pw_mv (by rfl) rfl rfl ?_
  simp only [Act.put, pu]
  refine pw_skip (by rfl) ?_
  simp only [Act.put, pu]
  refine pw_skip (by rfl) ?_
  simp only [Act.put, pu]
  refine pw_skip (by rfl) ?_
  simp only [Act.put, pu]
  refine pw_pick (by rfl) false (v := .bool false) rfl rfl rfl ?_
  simp only [Act.put, pu]
  refine pw_mv (by rfl) rfl rfl ?_
  simp only [Act.put, pu]
  refine pw_skip (by rfl) ?_
  simp only [Act.put, pu]
  refine pw_skip (by rfl) ?_
  simp only [Act.put, pu]
  refine pw_skip (by rfl) ?_
  simp only [Act.put, pu]
  refine pw_pick (by rfl) false (v := .bool false) rfl rfl rfl ?_
  simp only [Act.put, pu]
  refine pw_as (by rfl) rfl rfl ?_
  simp only [Act.put, pu]
  refine pw_nil ?_
  go_wp2
  go_ret
  exact ⟨rfl, sb⟩
 by_cases h1 : sq ≤ 1099511627776
 rotate_left
 ·rw [show stB sq cl = false from decide_eq_false (by omega)]
  go_enter Try.func17, Try.ntmps17
  (repeat ((fail_if_success with_reducible refine rg ?_); go_step))
  refine wp_region_pw ?_
  refine pw_boxr (by rfl) 32 _ rfl (tsC sq cl) rfl ?_
  intro g1 z0 n0 r1 k
  simp only [Act.put, pu]
  have b1 : w.heap.size ≤ g1 := n0
  clear n0
  have sb := k.below w.heap.size (Nat.le_refl _) (by simp)
  clear k
  refine pw_value (by rfl) (.bool false) (fun _ => rfl) ?_
  simp only [Act.put, pu]
  refine pw_nil ?_
  (repeat ((fail_if_success with_reducible refine rg ?_); go_step))
  refine wp_region_pw ?_
  refine pw_value (by rfl) (.pointer (some ⟨g1, 0, none⟩)) (exec_field 32 _ 0 rfl g1 0 rfl _ Try.underlying32 _ rfl 0 Try.sizeOf3) ?_
  simp only [Act.put, pu]
  refine pw_loadk (by rfl) 3 _ rfl _ (0) rfl r1.r (.int .i64 sq) rfl Try.isAgg3 ?_
  simp only [Act.put, pu]
  refine pw_value (by rfl) (.bool true) (exec_geq_i _ _ _ _ rfl sq 1 rfl rfl true (decide_eq_true (by omega))) ?_
  simp only [Act.put, pu]
  refine pw_mv (by rfl) rfl rfl ?_
  simp only [Act.put, pu]
  refine pw_value (by rfl) (.pointer (some ⟨g1, 0, none⟩)) (exec_field 32 _ 0 rfl g1 0 rfl _ Try.underlying32 _ rfl 0 Try.sizeOf3) ?_
  simp only [Act.put, pu]
  refine pw_loadk (by rfl) 3 _ rfl _ (0) rfl r1.r (.int .i64 sq) rfl Try.isAgg3 ?_
  simp only [Act.put, pu]
  refine pw_value (by rfl) (.bool false) (exec_leq_i _ _ _ _ rfl sq 1099511627776 rfl rfl false (decide_eq_false (by omega))) ?_
  simp only [Act.put, pu]
  refine pw_pick (by rfl) true (v := .bool false) rfl rfl rfl ?_
  simp only [Act.put, pu]
  refine pw_mv (by rfl) rfl rfl ?_
  simp only [Act.put, pu]
  refine pw_skip (by rfl) ?_
  simp only [Act.put, pu]
  refine pw_skip (by rfl) ?_
  simp only [Act.put, pu]
  refine pw_skip (by rfl) ?_
  simp only [Act.put, pu]
  refine pw_pick (by rfl) false (v := .bool false) rfl rfl rfl ?_
  simp only [Act.put, pu]
  refine pw_mv (by rfl) rfl rfl ?_
  simp only [Act.put, pu]
  refine pw_skip (by rfl) ?_
  simp only [Act.put, pu]
  refine pw_skip (by rfl) ?_
  simp only [Act.put, pu]
  refine pw_skip (by rfl) ?_
  simp only [Act.put, pu]
  refine pw_pick (by rfl) false (v := .bool false) rfl rfl rfl ?_
  simp only [Act.put, pu]
  refine pw_as (by rfl) rfl rfl ?_
  simp only [Act.put, pu]
  refine pw_nil ?_
  go_wp2
  go_ret
  exact ⟨rfl, sb⟩
 by_cases h2 : 1 ≤ cl
 rotate_left
 ·rw [show stB sq cl = false from decide_eq_false (by omega)]
  go_enter Try.func17, Try.ntmps17
  (repeat ((fail_if_success with_reducible refine rg ?_); go_step))
  refine wp_region_pw ?_
  refine pw_boxr (by rfl) 32 _ rfl (tsC sq cl) rfl ?_
  intro g1 z0 n0 r1 k
  simp only [Act.put, pu]
  have b1 : w.heap.size ≤ g1 := n0
  clear n0
  have sb := k.below w.heap.size (Nat.le_refl _) (by simp)
  clear k
  refine pw_value (by rfl) (.bool false) (fun _ => rfl) ?_
  simp only [Act.put, pu]
  refine pw_nil ?_
  (repeat ((fail_if_success with_reducible refine rg ?_); go_step))
  refine wp_region_pw ?_
  refine pw_value (by rfl) (.pointer (some ⟨g1, 0, none⟩)) (exec_field 32 _ 0 rfl g1 0 rfl _ Try.underlying32 _ rfl 0 Try.sizeOf3) ?_
  simp only [Act.put, pu]
  refine pw_loadk (by rfl) 3 _ rfl _ (0) rfl r1.r (.int .i64 sq) rfl Try.isAgg3 ?_
  simp only [Act.put, pu]
  refine pw_value (by rfl) (.bool true) (exec_geq_i _ _ _ _ rfl sq 1 rfl rfl true (decide_eq_true (by omega))) ?_
  simp only [Act.put, pu]
  refine pw_mv (by rfl) rfl rfl ?_
  simp only [Act.put, pu]
  refine pw_value (by rfl) (.pointer (some ⟨g1, 0, none⟩)) (exec_field 32 _ 0 rfl g1 0 rfl _ Try.underlying32 _ rfl 0 Try.sizeOf3) ?_
  simp only [Act.put, pu]
  refine pw_loadk (by rfl) 3 _ rfl _ (0) rfl r1.r (.int .i64 sq) rfl Try.isAgg3 ?_
  simp only [Act.put, pu]
  refine pw_value (by rfl) (.bool true) (exec_leq_i _ _ _ _ rfl sq 1099511627776 rfl rfl true (decide_eq_true (by omega))) ?_
  simp only [Act.put, pu]
  refine pw_pick (by rfl) true (v := .bool true) rfl rfl rfl ?_
  simp only [Act.put, pu]
  refine pw_mv (by rfl) rfl rfl ?_
  simp only [Act.put, pu]
  refine pw_value (by rfl) (.pointer (some ⟨g1, 1, none⟩)) (exec_field 32 _ 1 rfl g1 0 rfl _ Try.underlying32 _ rfl 0 Try.sizeOf3) ?_
  simp only [Act.put, pu]
  refine pw_loadk (by rfl) 3 _ rfl _ (1) rfl r1.r (.int .i64 cl) rfl Try.isAgg3 ?_
  simp only [Act.put, pu]
  refine pw_value (by rfl) (.bool false) (exec_geq_i _ _ _ _ rfl cl 1 rfl rfl false (decide_eq_false (by omega))) ?_
  simp only [Act.put, pu]
  refine pw_pick (by rfl) true (v := .bool false) rfl rfl rfl ?_
  simp only [Act.put, pu]
  refine pw_mv (by rfl) rfl rfl ?_
  simp only [Act.put, pu]
  refine pw_skip (by rfl) ?_
  simp only [Act.put, pu]
  refine pw_skip (by rfl) ?_
  simp only [Act.put, pu]
  refine pw_skip (by rfl) ?_
  simp only [Act.put, pu]
  refine pw_pick (by rfl) false (v := .bool false) rfl rfl rfl ?_
  simp only [Act.put, pu]
  refine pw_as (by rfl) rfl rfl ?_
  simp only [Act.put, pu]
  refine pw_nil ?_
  go_wp2
  go_ret
  exact ⟨rfl, sb⟩
 by_cases h3 : cl ≤ 4
 rotate_left
 ·rw [show stB sq cl = false from decide_eq_false (by omega)]
  go_enter Try.func17, Try.ntmps17
  (repeat ((fail_if_success with_reducible refine rg ?_); go_step))
  refine wp_region_pw ?_
  refine pw_boxr (by rfl) 32 _ rfl (tsC sq cl) rfl ?_
  intro g1 z0 n0 r1 k
  simp only [Act.put, pu]
  have b1 : w.heap.size ≤ g1 := n0
  clear n0
  have sb := k.below w.heap.size (Nat.le_refl _) (by simp)
  clear k
  refine pw_value (by rfl) (.bool false) (fun _ => rfl) ?_
  simp only [Act.put, pu]
  refine pw_nil ?_
  (repeat ((fail_if_success with_reducible refine rg ?_); go_step))
  refine wp_region_pw ?_
  refine pw_value (by rfl) (.pointer (some ⟨g1, 0, none⟩)) (exec_field 32 _ 0 rfl g1 0 rfl _ Try.underlying32 _ rfl 0 Try.sizeOf3) ?_
  simp only [Act.put, pu]
  refine pw_loadk (by rfl) 3 _ rfl _ (0) rfl r1.r (.int .i64 sq) rfl Try.isAgg3 ?_
  simp only [Act.put, pu]
  refine pw_value (by rfl) (.bool true) (exec_geq_i _ _ _ _ rfl sq 1 rfl rfl true (decide_eq_true (by omega))) ?_
  simp only [Act.put, pu]
  refine pw_mv (by rfl) rfl rfl ?_
  simp only [Act.put, pu]
  refine pw_value (by rfl) (.pointer (some ⟨g1, 0, none⟩)) (exec_field 32 _ 0 rfl g1 0 rfl _ Try.underlying32 _ rfl 0 Try.sizeOf3) ?_
  simp only [Act.put, pu]
  refine pw_loadk (by rfl) 3 _ rfl _ (0) rfl r1.r (.int .i64 sq) rfl Try.isAgg3 ?_
  simp only [Act.put, pu]
  refine pw_value (by rfl) (.bool true) (exec_leq_i _ _ _ _ rfl sq 1099511627776 rfl rfl true (decide_eq_true (by omega))) ?_
  simp only [Act.put, pu]
  refine pw_pick (by rfl) true (v := .bool true) rfl rfl rfl ?_
  simp only [Act.put, pu]
  refine pw_mv (by rfl) rfl rfl ?_
  simp only [Act.put, pu]
  refine pw_value (by rfl) (.pointer (some ⟨g1, 1, none⟩)) (exec_field 32 _ 1 rfl g1 0 rfl _ Try.underlying32 _ rfl 0 Try.sizeOf3) ?_
  simp only [Act.put, pu]
  refine pw_loadk (by rfl) 3 _ rfl _ (1) rfl r1.r (.int .i64 cl) rfl Try.isAgg3 ?_
  simp only [Act.put, pu]
  refine pw_value (by rfl) (.bool true) (exec_geq_i _ _ _ _ rfl cl 1 rfl rfl true (decide_eq_true (by omega))) ?_
  simp only [Act.put, pu]
  refine pw_pick (by rfl) true (v := .bool true) rfl rfl rfl ?_
  simp only [Act.put, pu]
  refine pw_mv (by rfl) rfl rfl ?_
  simp only [Act.put, pu]
  refine pw_value (by rfl) (.pointer (some ⟨g1, 1, none⟩)) (exec_field 32 _ 1 rfl g1 0 rfl _ Try.underlying32 _ rfl 0 Try.sizeOf3) ?_
  simp only [Act.put, pu]
  refine pw_loadk (by rfl) 3 _ rfl _ (1) rfl r1.r (.int .i64 cl) rfl Try.isAgg3 ?_
  simp only [Act.put, pu]
  refine pw_value (by rfl) (.bool false) (exec_leq_i _ _ _ _ rfl cl 4 rfl rfl false (decide_eq_false (by omega))) ?_
  simp only [Act.put, pu]
  refine pw_pick (by rfl) true (v := .bool false) rfl rfl rfl ?_
  simp only [Act.put, pu]
  refine pw_as (by rfl) rfl rfl ?_
  simp only [Act.put, pu]
  refine pw_nil ?_
  go_wp2
  go_ret
  exact ⟨rfl, sb⟩
 rw [show stB sq cl = true from decide_eq_true ⟨h0, h1, h2, h3⟩]
 go_enter Try.func17, Try.ntmps17
 (repeat ((fail_if_success with_reducible refine rg ?_); go_step))
 refine wp_region_pw ?_
 refine pw_boxr (by rfl) 32 _ rfl (tsC sq cl) rfl ?_
 intro g1 z0 n0 r1 k
 simp only [Act.put, pu]
 have b1 : w.heap.size ≤ g1 := n0
 clear n0
 have sb := k.below w.heap.size (Nat.le_refl _) (by simp)
 clear k
 refine pw_value (by rfl) (.bool false) (fun _ => rfl) ?_
 simp only [Act.put, pu]
 refine pw_nil ?_
 (repeat ((fail_if_success with_reducible refine rg ?_); go_step))
 refine wp_region_pw ?_
 refine pw_value (by rfl) (.pointer (some ⟨g1, 0, none⟩)) (exec_field 32 _ 0 rfl g1 0 rfl _ Try.underlying32 _ rfl 0 Try.sizeOf3) ?_
 simp only [Act.put, pu]
 refine pw_loadk (by rfl) 3 _ rfl _ (0) rfl r1.r (.int .i64 sq) rfl Try.isAgg3 ?_
 simp only [Act.put, pu]
 refine pw_value (by rfl) (.bool true) (exec_geq_i _ _ _ _ rfl sq 1 rfl rfl true (decide_eq_true (by omega))) ?_
 simp only [Act.put, pu]
 refine pw_mv (by rfl) rfl rfl ?_
 simp only [Act.put, pu]
 refine pw_value (by rfl) (.pointer (some ⟨g1, 0, none⟩)) (exec_field 32 _ 0 rfl g1 0 rfl _ Try.underlying32 _ rfl 0 Try.sizeOf3) ?_
 simp only [Act.put, pu]
 refine pw_loadk (by rfl) 3 _ rfl _ (0) rfl r1.r (.int .i64 sq) rfl Try.isAgg3 ?_
 simp only [Act.put, pu]
 refine pw_value (by rfl) (.bool true) (exec_leq_i _ _ _ _ rfl sq 1099511627776 rfl rfl true (decide_eq_true (by omega))) ?_
 simp only [Act.put, pu]
 refine pw_pick (by rfl) true (v := .bool true) rfl rfl rfl ?_
 simp only [Act.put, pu]
 refine pw_mv (by rfl) rfl rfl ?_
 simp only [Act.put, pu]
 refine pw_value (by rfl) (.pointer (some ⟨g1, 1, none⟩)) (exec_field 32 _ 1 rfl g1 0 rfl _ Try.underlying32 _ rfl 0 Try.sizeOf3) ?_
 simp only [Act.put, pu]
 refine pw_loadk (by rfl) 3 _ rfl _ (1) rfl r1.r (.int .i64 cl) rfl Try.isAgg3 ?_
 simp only [Act.put, pu]
 refine pw_value (by rfl) (.bool true) (exec_geq_i _ _ _ _ rfl cl 1 rfl rfl true (decide_eq_true (by omega))) ?_
 simp only [Act.put, pu]
 refine pw_pick (by rfl) true (v := .bool true) rfl rfl rfl ?_
 simp only [Act.put, pu]
 refine pw_mv (by rfl) rfl rfl ?_
 simp only [Act.put, pu]
 refine pw_value (by rfl) (.pointer (some ⟨g1, 1, none⟩)) (exec_field 32 _ 1 rfl g1 0 rfl _ Try.underlying32 _ rfl 0 Try.sizeOf3) ?_
 simp only [Act.put, pu]
 refine pw_loadk (by rfl) 3 _ rfl _ (1) rfl r1.r (.int .i64 cl) rfl Try.isAgg3 ?_
 simp only [Act.put, pu]
 refine pw_value (by rfl) (.bool true) (exec_leq_i _ _ _ _ rfl cl 4 rfl rfl true (decide_eq_true (by omega))) ?_
 simp only [Act.put, pu]
 refine pw_pick (by rfl) true (v := .bool true) rfl rfl rfl ?_
 simp only [Act.put, pu]
 refine pw_as (by rfl) rfl rfl ?_
 simp only [Act.put, pu]
 refine pw_nil ?_
 go_wp2
 go_ret
 exact ⟨rfl, sb⟩
set_option maxRecDepth 100000 in
set_option maxHeartbeats 2000000 in
theorem made_nil (w : World) :
  Calls Try.prog 23 #[.pointer none] w fun e w' => e = .returned (.bool false) ∧ Below w.heap.size w w' := by
 go_enter Try.func23, Try.ntmps23
 have sb := sbmk w
 (repeat ((fail_if_success with_reducible refine rg ?_); go_step))
 refine wp_region_pw ?_
 refine pw_value (by rfl) (.bool false) (fun _ => rfl) ?_
 simp only [Act.put, pu]
 refine pw_nil ?_
 (repeat ((fail_if_success with_reducible refine rg ?_); go_step))
 refine wp_region_pw ?_
 refine pw_mv (by rfl) rfl rfl ?_
 simp only [Act.put, pu]
 refine pw_value (by rfl) (.bool false) (exec_neq_nilp _ _ _ _ rfl (none) rfl rfl ptr_vs) ?_
 simp only [Act.put, pu]
 refine pw_mv (by rfl) rfl rfl ?_
 simp only [Act.put, pu]
 refine pw_skip (by rfl) ?_
 simp only [Act.put, pu]
 refine pw_skip (by rfl) ?_
 simp only [Act.put, pu]
 refine pw_skip (by rfl) ?_
 simp only [Act.put, pu]
 refine pw_skip (by rfl) ?_
 simp only [Act.put, pu]
 refine pw_skip (by rfl) ?_
 simp only [Act.put, pu]
 refine pw_pick (by rfl) false (v := .bool false) rfl rfl rfl ?_
 simp only [Act.put, pu]
 refine pw_as (by rfl) rfl rfl ?_
 simp only [Act.put, pu]
 refine pw_nil ?_
 go_wp2
 go_ret
 exact ⟨rfl, sb⟩
set_option maxRecDepth 100000 in
set_option maxHeartbeats 2000000 in
theorem made_yes (g1 : Nat) (n : Int) (V : Nat → Vt) (w : World) (r1 : Row w g1 (voC n V) 51) (hn : 1 ≤ n) :
  Calls Try.prog 23 #[.pointer (some ⟨g1, 0, none⟩)] w fun e w' => e = .returned (.bool true) ∧ Below w.heap.size w w' := by
 go_enter Try.func23, Try.ntmps23
 have sb := sbmk w
 (repeat ((fail_if_success with_reducible refine rg ?_); go_step))
 refine wp_region_pw ?_
 refine pw_value (by rfl) (.bool false) (fun _ => rfl) ?_
 simp only [Act.put, pu]
 refine pw_nil ?_
 (repeat ((fail_if_success with_reducible refine rg ?_); go_step))
 refine wp_region_pw ?_
 refine pw_mv (by rfl) rfl rfl ?_
 simp only [Act.put, pu]
 refine pw_value (by rfl) (.bool true) (exec_neq_nilp _ _ _ _ rfl (some ⟨g1, 0, none⟩) rfl rfl ptr_vs) ?_
 simp only [Act.put, pu]
 refine pw_mv (by rfl) rfl rfl ?_
 simp only [Act.put, pu]
 refine pw_mv (by rfl) rfl rfl ?_
 simp only [Act.put, pu]
 refine pw_value (by rfl) (.pointer (some ⟨g1, 0, none⟩)) (exec_nil _ rfl g1 (0) rfl) ?_
 simp only [Act.put, pu]
 refine pw_value (by rfl) (.pointer (some ⟨g1, 0, none⟩)) (exec_field 51 _ 0 rfl g1 0 rfl _ Try.underlying51 _ rfl 0 Try.sizeOf3) ?_
 simp only [Act.put, pu]
 refine pw_loadk (by rfl) 3 _ rfl _ (0) rfl r1.r (.int .i64 n) (voC_zero _ _) Try.isAgg3 ?_
 simp only [Act.put, pu]
 refine pw_value (by rfl) (.bool true) (exec_gt_i _ _ _ _ rfl (n) (0) rfl rfl true (decide_eq_true (by omega))) ?_
 simp only [Act.put, pu]
 refine pw_pick (by rfl) true (v := .bool true) rfl rfl rfl ?_
 simp only [Act.put, pu]
 refine pw_as (by rfl) rfl rfl ?_
 simp only [Act.put, pu]
 refine pw_nil ?_
 go_wp2
 go_ret
 exact ⟨rfl, sb⟩
set_option maxRecDepth 100000 in
set_option maxHeartbeats 2000000 in
theorem made_no (g1 : Nat) (n : Int) (V : Nat → Vt) (w : World) (r1 : Row w g1 (voC n V) 51) (hn : n ≤ 0) :
  Calls Try.prog 23 #[.pointer (some ⟨g1, 0, none⟩)] w fun e w' => e = .returned (.bool false) ∧ Below w.heap.size w w' := by
 go_enter Try.func23, Try.ntmps23
 have sb := sbmk w
 (repeat ((fail_if_success with_reducible refine rg ?_); go_step))
 refine wp_region_pw ?_
 refine pw_value (by rfl) (.bool false) (fun _ => rfl) ?_
 simp only [Act.put, pu]
 refine pw_nil ?_
 (repeat ((fail_if_success with_reducible refine rg ?_); go_step))
 refine wp_region_pw ?_
 refine pw_mv (by rfl) rfl rfl ?_
 simp only [Act.put, pu]
 refine pw_value (by rfl) (.bool true) (exec_neq_nilp _ _ _ _ rfl (some ⟨g1, 0, none⟩) rfl rfl ptr_vs) ?_
 simp only [Act.put, pu]
 refine pw_mv (by rfl) rfl rfl ?_
 simp only [Act.put, pu]
 refine pw_mv (by rfl) rfl rfl ?_
 simp only [Act.put, pu]
 refine pw_value (by rfl) (.pointer (some ⟨g1, 0, none⟩)) (exec_nil _ rfl g1 (0) rfl) ?_
 simp only [Act.put, pu]
 refine pw_value (by rfl) (.pointer (some ⟨g1, 0, none⟩)) (exec_field 51 _ 0 rfl g1 0 rfl _ Try.underlying51 _ rfl 0 Try.sizeOf3) ?_
 simp only [Act.put, pu]
 refine pw_loadk (by rfl) 3 _ rfl _ (0) rfl r1.r (.int .i64 n) (voC_zero _ _) Try.isAgg3 ?_
 simp only [Act.put, pu]
 refine pw_value (by rfl) (.bool false) (exec_gt_i _ _ _ _ rfl (n) (0) rfl rfl false (decide_eq_false (by omega))) ?_
 simp only [Act.put, pu]
 refine pw_pick (by rfl) true (v := .bool false) rfl rfl rfl ?_
 simp only [Act.put, pu]
 refine pw_as (by rfl) rfl rfl ?_
 simp only [Act.put, pu]
 refine pw_nil ?_
 go_wp2
 go_ret
 exact ⟨rfl, sb⟩
set_option maxRecDepth 100000 in
set_option maxHeartbeats 2000000 in
theorem place_nil (k c o : Int) (w : World) :
  Calls Try.prog 19 #[.pointer none, .int .i64 k, .int .i64 c, .int .i64 o] w fun e w' => e = .returned (.pointer none) ∧ Below w.heap.size w w' := by
 have hM := fun w' => made_nil w'
 go_enter Try.func19, Try.ntmps19
 have sb := sbmk w
 (repeat ((fail_if_success with_reducible refine rg ?_); go_step))
 refine wp_region_pw ?_
 refine pw_value (by rfl) (.pointer none) (fun _ => rfl) ?_
 simp only [Act.put, pu]
 refine pw_nil ?_
 (repeat ((fail_if_success with_reducible refine rg ?_); go_step))
 refine wp_region_pw ?_
 refine pw_mv (by rfl) rfl rfl ?_
 simp only [Act.put, pu]
 refine pw_callB (by rfl) 23 _ _ rfl Try.func23 (by kernel_rfl) #[.pointer none] rfl _ (hM _) ?_
 intro z1001 k
 simp only [Act.put, pu]
 replace sb := sb.trans (k.below w.heap.size sb.size (by simp <;> omega))
 clear k
 refine pw_value (by rfl) (.bool true) (exec_not _ _ rfl false rfl) ?_
 simp only [Act.put, pu]
 refine pw_mv (by rfl) rfl rfl ?_
 simp only [Act.put, pu]
 refine pw_skip (by rfl) ?_
 simp only [Act.put, pu]
 refine pw_skip (by rfl) ?_
 simp only [Act.put, pu]
 refine pw_pick (by rfl) true (v := .bool true) rfl rfl rfl ?_
 simp only [Act.put, pu]
 refine pw_mv (by rfl) rfl rfl ?_
 simp only [Act.put, pu]
 refine pw_skip (by rfl) ?_
 simp only [Act.put, pu]
 refine pw_skip (by rfl) ?_
 simp only [Act.put, pu]
 refine pw_skip (by rfl) ?_
 simp only [Act.put, pu]
 refine pw_skip (by rfl) ?_
 simp only [Act.put, pu]
 refine pw_skip (by rfl) ?_
 simp only [Act.put, pu]
 refine pw_skip (by rfl) ?_
 simp only [Act.put, pu]
 refine pw_pick (by rfl) true (v := .bool true) rfl rfl rfl ?_
 simp only [Act.put, pu]
 refine pw_mv (by rfl) rfl rfl ?_
 simp only [Act.put, pu]
 refine pw_skip (by rfl) ?_
 simp only [Act.put, pu]
 refine pw_skip (by rfl) ?_
 simp only [Act.put, pu]
 refine pw_pick (by rfl) true (v := .bool true) rfl rfl rfl ?_
 simp only [Act.put, pu]
 refine pw_mv (by rfl) rfl rfl ?_
 simp only [Act.put, pu]
 refine pw_skip (by rfl) ?_
 simp only [Act.put, pu]
 refine pw_skip (by rfl) ?_
 simp only [Act.put, pu]
 refine pw_pick (by rfl) true (v := .bool true) rfl rfl rfl ?_
 simp only [Act.put, pu]
 refine pw_mv (by rfl) rfl rfl ?_
 simp only [Act.put, pu]
 refine pw_skip (by rfl) ?_
 simp only [Act.put, pu]
 refine pw_skip (by rfl) ?_
 simp only [Act.put, pu]
 refine pw_pick (by rfl) true (v := .bool true) rfl rfl rfl ?_
 simp only [Act.put, pu]
 refine pw_mv (by rfl) rfl rfl ?_
 simp only [Act.put, pu]
 refine pw_skip (by rfl) ?_
 simp only [Act.put, pu]
 refine pw_skip (by rfl) ?_
 simp only [Act.put, pu]
 refine pw_pick (by rfl) true (v := .bool true) rfl rfl rfl ?_
 simp only [Act.put, pu]
 refine pw_nil ?_
 (repeat ((fail_if_success with_reducible refine rg ?_); go_step))
 refine wp_region_pw ?_
 refine pw_value (by rfl) (.pointer none) (fun _ => rfl) ?_
 simp only [Act.put, pu]
 refine pw_nil ?_
 go_wp2
 go_ret
 exact ⟨rfl, sb⟩
set_option maxRecDepth 100000 in
set_option maxHeartbeats 2000000 in
theorem place_no (g1 : Nat) (n : Int) (V : Nat → Vt) (k c o : Int) (w : World) (r1 : Row w g1 (voC n V) 51) (h : plB n k c o = false) :
  Calls Try.prog 19 #[.pointer (some ⟨g1, 0, none⟩), .int .i64 k, .int .i64 c, .int .i64 o] w fun e w' => e = .returned (.pointer none) ∧ Below w.heap.size w w' := by
 have hp := of_decide_eq_false h
 clear h
 by_cases h0 : n ≤ 0
 ·have hM := fun w' (hb : Below w.heap.size w w') => made_no g1 n V w' (r1.belowAll hb) h0
  go_enter Try.func19, Try.ntmps19
  have sb := sbmk w
  (repeat ((fail_if_success with_reducible refine rg ?_); go_step))
  refine wp_region_pw ?_
  refine pw_value (by rfl) (.pointer none) (fun _ => rfl) ?_
  simp only [Act.put, pu]
  refine pw_nil ?_
  (repeat ((fail_if_success with_reducible refine rg ?_); go_step))
  refine wp_region_pw ?_
  refine pw_mv (by rfl) rfl rfl ?_
  simp only [Act.put, pu]
  refine pw_callB (by rfl) 23 _ _ rfl Try.func23 (by kernel_rfl) #[.pointer (some ⟨g1, 0, none⟩)] rfl _ (hM _ sb) ?_
  intro z1001 k
  simp only [Act.put, pu]
  replace r1 := k.row r1 (by simp <;> omega)
  replace sb := sb.trans (k.below w.heap.size sb.size (by simp <;> omega))
  clear k
  refine pw_value (by rfl) (.bool true) (exec_not _ _ rfl false rfl) ?_
  simp only [Act.put, pu]
  refine pw_mv (by rfl) rfl rfl ?_
  simp only [Act.put, pu]
  refine pw_skip (by rfl) ?_
  simp only [Act.put, pu]
  refine pw_skip (by rfl) ?_
  simp only [Act.put, pu]
  refine pw_pick (by rfl) true (v := .bool true) rfl rfl rfl ?_
  simp only [Act.put, pu]
  refine pw_mv (by rfl) rfl rfl ?_
  simp only [Act.put, pu]
  refine pw_skip (by rfl) ?_
  simp only [Act.put, pu]
  refine pw_skip (by rfl) ?_
  simp only [Act.put, pu]
  refine pw_skip (by rfl) ?_
  simp only [Act.put, pu]
  refine pw_skip (by rfl) ?_
  simp only [Act.put, pu]
  refine pw_skip (by rfl) ?_
  simp only [Act.put, pu]
  refine pw_skip (by rfl) ?_
  simp only [Act.put, pu]
  refine pw_pick (by rfl) true (v := .bool true) rfl rfl rfl ?_
  simp only [Act.put, pu]
  refine pw_mv (by rfl) rfl rfl ?_
  simp only [Act.put, pu]
  refine pw_skip (by rfl) ?_
  simp only [Act.put, pu]
  refine pw_skip (by rfl) ?_
  simp only [Act.put, pu]
  refine pw_pick (by rfl) true (v := .bool true) rfl rfl rfl ?_
  simp only [Act.put, pu]
  refine pw_mv (by rfl) rfl rfl ?_
  simp only [Act.put, pu]
  refine pw_skip (by rfl) ?_
  simp only [Act.put, pu]
  refine pw_skip (by rfl) ?_
  simp only [Act.put, pu]
  refine pw_pick (by rfl) true (v := .bool true) rfl rfl rfl ?_
  simp only [Act.put, pu]
  refine pw_mv (by rfl) rfl rfl ?_
  simp only [Act.put, pu]
  refine pw_skip (by rfl) ?_
  simp only [Act.put, pu]
  refine pw_skip (by rfl) ?_
  simp only [Act.put, pu]
  refine pw_pick (by rfl) true (v := .bool true) rfl rfl rfl ?_
  simp only [Act.put, pu]
  refine pw_mv (by rfl) rfl rfl ?_
  simp only [Act.put, pu]
  refine pw_skip (by rfl) ?_
  simp only [Act.put, pu]
  refine pw_skip (by rfl) ?_
  simp only [Act.put, pu]
  refine pw_pick (by rfl) true (v := .bool true) rfl rfl rfl ?_
  simp only [Act.put, pu]
  refine pw_nil ?_
  (repeat ((fail_if_success with_reducible refine rg ?_); go_step))
  refine wp_region_pw ?_
  refine pw_value (by rfl) (.pointer none) (fun _ => rfl) ?_
  simp only [Act.put, pu]
  refine pw_nil ?_
  go_wp2
  go_ret
  exact ⟨rfl, sb⟩
 have hM := fun w' (hb : Below w.heap.size w w') => made_yes g1 n V w' (r1.belowAll hb) (by omega)
 by_cases h1 : k < 1
 ·clear hp
  go_enter Try.func19, Try.ntmps19
  have sb := sbmk w
  (repeat ((fail_if_success with_reducible refine rg ?_); go_step))
  refine wp_region_pw ?_
  refine pw_value (by rfl) (.pointer none) (fun _ => rfl) ?_
  simp only [Act.put, pu]
  refine pw_nil ?_
  (repeat ((fail_if_success with_reducible refine rg ?_); go_step))
  refine wp_region_pw ?_
  refine pw_mv (by rfl) rfl rfl ?_
  simp only [Act.put, pu]
  refine pw_callB (by rfl) 23 _ _ rfl Try.func23 (by kernel_rfl) #[.pointer (some ⟨g1, 0, none⟩)] rfl _ (hM _ sb) ?_
  intro z1001 k
  simp only [Act.put, pu]
  replace r1 := k.row r1 (by simp <;> omega)
  replace sb := sb.trans (k.below w.heap.size sb.size (by simp <;> omega))
  clear k
  refine pw_value (by rfl) (.bool false) (exec_not _ _ rfl true rfl) ?_
  simp only [Act.put, pu]
  refine pw_mv (by rfl) rfl rfl ?_
  simp only [Act.put, pu]
  refine pw_mv (by rfl) rfl rfl ?_
  simp only [Act.put, pu]
  refine pw_value (by rfl) (.bool true) (exec_lt_b _ _ _ _ rfl (k) (1) rfl rfl true (decide_eq_true (by omega))) ?_
  simp only [Act.put, pu]
  refine pw_pick (by rfl) false (v := .bool true) rfl rfl rfl ?_
  simp only [Act.put, pu]
  refine pw_mv (by rfl) rfl rfl ?_
  simp only [Act.put, pu]
  refine pw_skip (by rfl) ?_
  simp only [Act.put, pu]
  refine pw_skip (by rfl) ?_
  simp only [Act.put, pu]
  refine pw_skip (by rfl) ?_
  simp only [Act.put, pu]
  refine pw_skip (by rfl) ?_
  simp only [Act.put, pu]
  refine pw_skip (by rfl) ?_
  simp only [Act.put, pu]
  refine pw_skip (by rfl) ?_
  simp only [Act.put, pu]
  refine pw_pick (by rfl) true (v := .bool true) rfl rfl rfl ?_
  simp only [Act.put, pu]
  refine pw_mv (by rfl) rfl rfl ?_
  simp only [Act.put, pu]
  refine pw_skip (by rfl) ?_
  simp only [Act.put, pu]
  refine pw_skip (by rfl) ?_
  simp only [Act.put, pu]
  refine pw_pick (by rfl) true (v := .bool true) rfl rfl rfl ?_
  simp only [Act.put, pu]
  refine pw_mv (by rfl) rfl rfl ?_
  simp only [Act.put, pu]
  refine pw_skip (by rfl) ?_
  simp only [Act.put, pu]
  refine pw_skip (by rfl) ?_
  simp only [Act.put, pu]
  refine pw_pick (by rfl) true (v := .bool true) rfl rfl rfl ?_
  simp only [Act.put, pu]
  refine pw_mv (by rfl) rfl rfl ?_
  simp only [Act.put, pu]
  refine pw_skip (by rfl) ?_
  simp only [Act.put, pu]
  refine pw_skip (by rfl) ?_
  simp only [Act.put, pu]
  refine pw_pick (by rfl) true (v := .bool true) rfl rfl rfl ?_
  simp only [Act.put, pu]
  refine pw_mv (by rfl) rfl rfl ?_
  simp only [Act.put, pu]
  refine pw_skip (by rfl) ?_
  simp only [Act.put, pu]
  refine pw_skip (by rfl) ?_
  simp only [Act.put, pu]
  refine pw_pick (by rfl) true (v := .bool true) rfl rfl rfl ?_
  simp only [Act.put, pu]
  refine pw_nil ?_
  (repeat ((fail_if_success with_reducible refine rg ?_); go_step))
  refine wp_region_pw ?_
  refine pw_value (by rfl) (.pointer none) (fun _ => rfl) ?_
  simp only [Act.put, pu]
  refine pw_nil ?_
  go_wp2
  go_ret
  exact ⟨rfl, sb⟩
 by_cases h2 : n < k
 ·clear hp
  go_enter Try.func19, Try.ntmps19
  have sb := sbmk w
  (repeat ((fail_if_success with_reducible refine rg ?_); go_step))
  refine wp_region_pw ?_
  refine pw_value (by rfl) (.pointer none) (fun _ => rfl) ?_
  simp only [Act.put, pu]
  refine pw_nil ?_
  (repeat ((fail_if_success with_reducible refine rg ?_); go_step))
  refine wp_region_pw ?_
  refine pw_mv (by rfl) rfl rfl ?_
  simp only [Act.put, pu]
  refine pw_callB (by rfl) 23 _ _ rfl Try.func23 (by kernel_rfl) #[.pointer (some ⟨g1, 0, none⟩)] rfl _ (hM _ sb) ?_
  intro z1001 k
  simp only [Act.put, pu]
  replace r1 := k.row r1 (by simp <;> omega)
  replace sb := sb.trans (k.below w.heap.size sb.size (by simp <;> omega))
  clear k
  refine pw_value (by rfl) (.bool false) (exec_not _ _ rfl true rfl) ?_
  simp only [Act.put, pu]
  refine pw_mv (by rfl) rfl rfl ?_
  simp only [Act.put, pu]
  refine pw_mv (by rfl) rfl rfl ?_
  simp only [Act.put, pu]
  refine pw_value (by rfl) (.bool false) (exec_lt_b _ _ _ _ rfl (k) (1) rfl rfl false (decide_eq_false (by omega))) ?_
  simp only [Act.put, pu]
  refine pw_pick (by rfl) false (v := .bool false) rfl rfl rfl ?_
  simp only [Act.put, pu]
  refine pw_mv (by rfl) rfl rfl ?_
  simp only [Act.put, pu]
  refine pw_mv (by rfl) rfl rfl ?_
  simp only [Act.put, pu]
  refine pw_mv (by rfl) rfl rfl ?_
  simp only [Act.put, pu]
  refine pw_value (by rfl) (.pointer (some ⟨g1, 0, none⟩)) (exec_nil _ rfl g1 (0) rfl) ?_
  simp only [Act.put, pu]
  refine pw_value (by rfl) (.pointer (some ⟨g1, 0, none⟩)) (exec_field 51 _ 0 rfl g1 0 rfl _ Try.underlying51 _ rfl 0 Try.sizeOf3) ?_
  simp only [Act.put, pu]
  refine pw_loadk (by rfl) 3 _ rfl _ (0) rfl r1.r (.int .i64 n) (voC_zero _ _) Try.isAgg3 ?_
  simp only [Act.put, pu]
  refine pw_value (by rfl) (.bool true) (exec_gt_i _ _ _ _ rfl (k) (n) rfl rfl true (decide_eq_true (by omega))) ?_
  simp only [Act.put, pu]
  refine pw_pick (by rfl) false (v := .bool true) rfl rfl rfl ?_
  simp only [Act.put, pu]
  refine pw_mv (by rfl) rfl rfl ?_
  simp only [Act.put, pu]
  refine pw_skip (by rfl) ?_
  simp only [Act.put, pu]
  refine pw_skip (by rfl) ?_
  simp only [Act.put, pu]
  refine pw_pick (by rfl) true (v := .bool true) rfl rfl rfl ?_
  simp only [Act.put, pu]
  refine pw_mv (by rfl) rfl rfl ?_
  simp only [Act.put, pu]
  refine pw_skip (by rfl) ?_
  simp only [Act.put, pu]
  refine pw_skip (by rfl) ?_
  simp only [Act.put, pu]
  refine pw_pick (by rfl) true (v := .bool true) rfl rfl rfl ?_
  simp only [Act.put, pu]
  refine pw_mv (by rfl) rfl rfl ?_
  simp only [Act.put, pu]
  refine pw_skip (by rfl) ?_
  simp only [Act.put, pu]
  refine pw_skip (by rfl) ?_
  simp only [Act.put, pu]
  refine pw_pick (by rfl) true (v := .bool true) rfl rfl rfl ?_
  simp only [Act.put, pu]
  refine pw_mv (by rfl) rfl rfl ?_
  simp only [Act.put, pu]
  refine pw_skip (by rfl) ?_
  simp only [Act.put, pu]
  refine pw_skip (by rfl) ?_
  simp only [Act.put, pu]
  refine pw_pick (by rfl) true (v := .bool true) rfl rfl rfl ?_
  simp only [Act.put, pu]
  refine pw_nil ?_
  (repeat ((fail_if_success with_reducible refine rg ?_); go_step))
  refine wp_region_pw ?_
  refine pw_value (by rfl) (.pointer none) (fun _ => rfl) ?_
  simp only [Act.put, pu]
  refine pw_nil ?_
  go_wp2
  go_ret
  exact ⟨rfl, sb⟩
 by_cases h3 : c < 1
 ·clear hp
  go_enter Try.func19, Try.ntmps19
  have sb := sbmk w
  (repeat ((fail_if_success with_reducible refine rg ?_); go_step))
  refine wp_region_pw ?_
  refine pw_value (by rfl) (.pointer none) (fun _ => rfl) ?_
  simp only [Act.put, pu]
  refine pw_nil ?_
  (repeat ((fail_if_success with_reducible refine rg ?_); go_step))
  refine wp_region_pw ?_
  refine pw_mv (by rfl) rfl rfl ?_
  simp only [Act.put, pu]
  refine pw_callB (by rfl) 23 _ _ rfl Try.func23 (by kernel_rfl) #[.pointer (some ⟨g1, 0, none⟩)] rfl _ (hM _ sb) ?_
  intro z1001 k
  simp only [Act.put, pu]
  replace r1 := k.row r1 (by simp <;> omega)
  replace sb := sb.trans (k.below w.heap.size sb.size (by simp <;> omega))
  clear k
  refine pw_value (by rfl) (.bool false) (exec_not _ _ rfl true rfl) ?_
  simp only [Act.put, pu]
  refine pw_mv (by rfl) rfl rfl ?_
  simp only [Act.put, pu]
  refine pw_mv (by rfl) rfl rfl ?_
  simp only [Act.put, pu]
  refine pw_value (by rfl) (.bool false) (exec_lt_b _ _ _ _ rfl (k) (1) rfl rfl false (decide_eq_false (by omega))) ?_
  simp only [Act.put, pu]
  refine pw_pick (by rfl) false (v := .bool false) rfl rfl rfl ?_
  simp only [Act.put, pu]
  refine pw_mv (by rfl) rfl rfl ?_
  simp only [Act.put, pu]
  refine pw_mv (by rfl) rfl rfl ?_
  simp only [Act.put, pu]
  refine pw_mv (by rfl) rfl rfl ?_
  simp only [Act.put, pu]
  refine pw_value (by rfl) (.pointer (some ⟨g1, 0, none⟩)) (exec_nil _ rfl g1 (0) rfl) ?_
  simp only [Act.put, pu]
  refine pw_value (by rfl) (.pointer (some ⟨g1, 0, none⟩)) (exec_field 51 _ 0 rfl g1 0 rfl _ Try.underlying51 _ rfl 0 Try.sizeOf3) ?_
  simp only [Act.put, pu]
  refine pw_loadk (by rfl) 3 _ rfl _ (0) rfl r1.r (.int .i64 n) (voC_zero _ _) Try.isAgg3 ?_
  simp only [Act.put, pu]
  refine pw_value (by rfl) (.bool false) (exec_gt_i _ _ _ _ rfl (k) (n) rfl rfl false (decide_eq_false (by omega))) ?_
  simp only [Act.put, pu]
  refine pw_pick (by rfl) false (v := .bool false) rfl rfl rfl ?_
  simp only [Act.put, pu]
  refine pw_mv (by rfl) rfl rfl ?_
  simp only [Act.put, pu]
  refine pw_mv (by rfl) rfl rfl ?_
  simp only [Act.put, pu]
  refine pw_value (by rfl) (.bool true) (exec_lt_b _ _ _ _ rfl (c) (1) rfl rfl true (decide_eq_true (by omega))) ?_
  simp only [Act.put, pu]
  refine pw_pick (by rfl) false (v := .bool true) rfl rfl rfl ?_
  simp only [Act.put, pu]
  refine pw_mv (by rfl) rfl rfl ?_
  simp only [Act.put, pu]
  refine pw_skip (by rfl) ?_
  simp only [Act.put, pu]
  refine pw_skip (by rfl) ?_
  simp only [Act.put, pu]
  refine pw_pick (by rfl) true (v := .bool true) rfl rfl rfl ?_
  simp only [Act.put, pu]
  refine pw_mv (by rfl) rfl rfl ?_
  simp only [Act.put, pu]
  refine pw_skip (by rfl) ?_
  simp only [Act.put, pu]
  refine pw_skip (by rfl) ?_
  simp only [Act.put, pu]
  refine pw_pick (by rfl) true (v := .bool true) rfl rfl rfl ?_
  simp only [Act.put, pu]
  refine pw_mv (by rfl) rfl rfl ?_
  simp only [Act.put, pu]
  refine pw_skip (by rfl) ?_
  simp only [Act.put, pu]
  refine pw_skip (by rfl) ?_
  simp only [Act.put, pu]
  refine pw_pick (by rfl) true (v := .bool true) rfl rfl rfl ?_
  simp only [Act.put, pu]
  refine pw_nil ?_
  (repeat ((fail_if_success with_reducible refine rg ?_); go_step))
  refine wp_region_pw ?_
  refine pw_value (by rfl) (.pointer none) (fun _ => rfl) ?_
  simp only [Act.put, pu]
  refine pw_nil ?_
  go_wp2
  go_ret
  exact ⟨rfl, sb⟩
 by_cases h4 : 4 < c
 ·clear hp
  go_enter Try.func19, Try.ntmps19
  have sb := sbmk w
  (repeat ((fail_if_success with_reducible refine rg ?_); go_step))
  refine wp_region_pw ?_
  refine pw_value (by rfl) (.pointer none) (fun _ => rfl) ?_
  simp only [Act.put, pu]
  refine pw_nil ?_
  (repeat ((fail_if_success with_reducible refine rg ?_); go_step))
  refine wp_region_pw ?_
  refine pw_mv (by rfl) rfl rfl ?_
  simp only [Act.put, pu]
  refine pw_callB (by rfl) 23 _ _ rfl Try.func23 (by kernel_rfl) #[.pointer (some ⟨g1, 0, none⟩)] rfl _ (hM _ sb) ?_
  intro z1001 k
  simp only [Act.put, pu]
  replace r1 := k.row r1 (by simp <;> omega)
  replace sb := sb.trans (k.below w.heap.size sb.size (by simp <;> omega))
  clear k
  refine pw_value (by rfl) (.bool false) (exec_not _ _ rfl true rfl) ?_
  simp only [Act.put, pu]
  refine pw_mv (by rfl) rfl rfl ?_
  simp only [Act.put, pu]
  refine pw_mv (by rfl) rfl rfl ?_
  simp only [Act.put, pu]
  refine pw_value (by rfl) (.bool false) (exec_lt_b _ _ _ _ rfl (k) (1) rfl rfl false (decide_eq_false (by omega))) ?_
  simp only [Act.put, pu]
  refine pw_pick (by rfl) false (v := .bool false) rfl rfl rfl ?_
  simp only [Act.put, pu]
  refine pw_mv (by rfl) rfl rfl ?_
  simp only [Act.put, pu]
  refine pw_mv (by rfl) rfl rfl ?_
  simp only [Act.put, pu]
  refine pw_mv (by rfl) rfl rfl ?_
  simp only [Act.put, pu]
  refine pw_value (by rfl) (.pointer (some ⟨g1, 0, none⟩)) (exec_nil _ rfl g1 (0) rfl) ?_
  simp only [Act.put, pu]
  refine pw_value (by rfl) (.pointer (some ⟨g1, 0, none⟩)) (exec_field 51 _ 0 rfl g1 0 rfl _ Try.underlying51 _ rfl 0 Try.sizeOf3) ?_
  simp only [Act.put, pu]
  refine pw_loadk (by rfl) 3 _ rfl _ (0) rfl r1.r (.int .i64 n) (voC_zero _ _) Try.isAgg3 ?_
  simp only [Act.put, pu]
  refine pw_value (by rfl) (.bool false) (exec_gt_i _ _ _ _ rfl (k) (n) rfl rfl false (decide_eq_false (by omega))) ?_
  simp only [Act.put, pu]
  refine pw_pick (by rfl) false (v := .bool false) rfl rfl rfl ?_
  simp only [Act.put, pu]
  refine pw_mv (by rfl) rfl rfl ?_
  simp only [Act.put, pu]
  refine pw_mv (by rfl) rfl rfl ?_
  simp only [Act.put, pu]
  refine pw_value (by rfl) (.bool false) (exec_lt_b _ _ _ _ rfl (c) (1) rfl rfl false (decide_eq_false (by omega))) ?_
  simp only [Act.put, pu]
  refine pw_pick (by rfl) false (v := .bool false) rfl rfl rfl ?_
  simp only [Act.put, pu]
  refine pw_mv (by rfl) rfl rfl ?_
  simp only [Act.put, pu]
  refine pw_mv (by rfl) rfl rfl ?_
  simp only [Act.put, pu]
  refine pw_value (by rfl) (.bool true) (exec_gt_i _ _ _ _ rfl (c) (4) rfl rfl true (decide_eq_true (by omega))) ?_
  simp only [Act.put, pu]
  refine pw_pick (by rfl) false (v := .bool true) rfl rfl rfl ?_
  simp only [Act.put, pu]
  refine pw_mv (by rfl) rfl rfl ?_
  simp only [Act.put, pu]
  refine pw_skip (by rfl) ?_
  simp only [Act.put, pu]
  refine pw_skip (by rfl) ?_
  simp only [Act.put, pu]
  refine pw_pick (by rfl) true (v := .bool true) rfl rfl rfl ?_
  simp only [Act.put, pu]
  refine pw_mv (by rfl) rfl rfl ?_
  simp only [Act.put, pu]
  refine pw_skip (by rfl) ?_
  simp only [Act.put, pu]
  refine pw_skip (by rfl) ?_
  simp only [Act.put, pu]
  refine pw_pick (by rfl) true (v := .bool true) rfl rfl rfl ?_
  simp only [Act.put, pu]
  refine pw_nil ?_
  (repeat ((fail_if_success with_reducible refine rg ?_); go_step))
  refine wp_region_pw ?_
  refine pw_value (by rfl) (.pointer none) (fun _ => rfl) ?_
  simp only [Act.put, pu]
  refine pw_nil ?_
  go_wp2
  go_ret
  exact ⟨rfl, sb⟩
 by_cases h5 : o < 0
 ·clear hp
  go_enter Try.func19, Try.ntmps19
  have sb := sbmk w
  (repeat ((fail_if_success with_reducible refine rg ?_); go_step))
  refine wp_region_pw ?_
  refine pw_value (by rfl) (.pointer none) (fun _ => rfl) ?_
  simp only [Act.put, pu]
  refine pw_nil ?_
  (repeat ((fail_if_success with_reducible refine rg ?_); go_step))
  refine wp_region_pw ?_
  refine pw_mv (by rfl) rfl rfl ?_
  simp only [Act.put, pu]
  refine pw_callB (by rfl) 23 _ _ rfl Try.func23 (by kernel_rfl) #[.pointer (some ⟨g1, 0, none⟩)] rfl _ (hM _ sb) ?_
  intro z1001 k
  simp only [Act.put, pu]
  replace r1 := k.row r1 (by simp <;> omega)
  replace sb := sb.trans (k.below w.heap.size sb.size (by simp <;> omega))
  clear k
  refine pw_value (by rfl) (.bool false) (exec_not _ _ rfl true rfl) ?_
  simp only [Act.put, pu]
  refine pw_mv (by rfl) rfl rfl ?_
  simp only [Act.put, pu]
  refine pw_mv (by rfl) rfl rfl ?_
  simp only [Act.put, pu]
  refine pw_value (by rfl) (.bool false) (exec_lt_b _ _ _ _ rfl (k) (1) rfl rfl false (decide_eq_false (by omega))) ?_
  simp only [Act.put, pu]
  refine pw_pick (by rfl) false (v := .bool false) rfl rfl rfl ?_
  simp only [Act.put, pu]
  refine pw_mv (by rfl) rfl rfl ?_
  simp only [Act.put, pu]
  refine pw_mv (by rfl) rfl rfl ?_
  simp only [Act.put, pu]
  refine pw_mv (by rfl) rfl rfl ?_
  simp only [Act.put, pu]
  refine pw_value (by rfl) (.pointer (some ⟨g1, 0, none⟩)) (exec_nil _ rfl g1 (0) rfl) ?_
  simp only [Act.put, pu]
  refine pw_value (by rfl) (.pointer (some ⟨g1, 0, none⟩)) (exec_field 51 _ 0 rfl g1 0 rfl _ Try.underlying51 _ rfl 0 Try.sizeOf3) ?_
  simp only [Act.put, pu]
  refine pw_loadk (by rfl) 3 _ rfl _ (0) rfl r1.r (.int .i64 n) (voC_zero _ _) Try.isAgg3 ?_
  simp only [Act.put, pu]
  refine pw_value (by rfl) (.bool false) (exec_gt_i _ _ _ _ rfl (k) (n) rfl rfl false (decide_eq_false (by omega))) ?_
  simp only [Act.put, pu]
  refine pw_pick (by rfl) false (v := .bool false) rfl rfl rfl ?_
  simp only [Act.put, pu]
  refine pw_mv (by rfl) rfl rfl ?_
  simp only [Act.put, pu]
  refine pw_mv (by rfl) rfl rfl ?_
  simp only [Act.put, pu]
  refine pw_value (by rfl) (.bool false) (exec_lt_b _ _ _ _ rfl (c) (1) rfl rfl false (decide_eq_false (by omega))) ?_
  simp only [Act.put, pu]
  refine pw_pick (by rfl) false (v := .bool false) rfl rfl rfl ?_
  simp only [Act.put, pu]
  refine pw_mv (by rfl) rfl rfl ?_
  simp only [Act.put, pu]
  refine pw_mv (by rfl) rfl rfl ?_
  simp only [Act.put, pu]
  refine pw_value (by rfl) (.bool false) (exec_gt_i _ _ _ _ rfl (c) (4) rfl rfl false (decide_eq_false (by omega))) ?_
  simp only [Act.put, pu]
  refine pw_pick (by rfl) false (v := .bool false) rfl rfl rfl ?_
  simp only [Act.put, pu]
  refine pw_mv (by rfl) rfl rfl ?_
  simp only [Act.put, pu]
  refine pw_mv (by rfl) rfl rfl ?_
  simp only [Act.put, pu]
  refine pw_value (by rfl) (.bool true) (exec_lt_b _ _ _ _ rfl (o) (0) rfl rfl true (decide_eq_true (by omega))) ?_
  simp only [Act.put, pu]
  refine pw_pick (by rfl) false (v := .bool true) rfl rfl rfl ?_
  simp only [Act.put, pu]
  refine pw_mv (by rfl) rfl rfl ?_
  simp only [Act.put, pu]
  refine pw_skip (by rfl) ?_
  simp only [Act.put, pu]
  refine pw_skip (by rfl) ?_
  simp only [Act.put, pu]
  refine pw_pick (by rfl) true (v := .bool true) rfl rfl rfl ?_
  simp only [Act.put, pu]
  refine pw_nil ?_
  (repeat ((fail_if_success with_reducible refine rg ?_); go_step))
  refine wp_region_pw ?_
  refine pw_value (by rfl) (.pointer none) (fun _ => rfl) ?_
  simp only [Act.put, pu]
  refine pw_nil ?_
  go_wp2
  go_ret
  exact ⟨rfl, sb⟩
 have h6 : 2 ≤ o := by omega
 clear hp
 go_enter Try.func19, Try.ntmps19
 have sb := sbmk w
 (repeat ((fail_if_success with_reducible refine rg ?_); go_step))
 refine wp_region_pw ?_
 refine pw_value (by rfl) (.pointer none) (fun _ => rfl) ?_
 simp only [Act.put, pu]
 refine pw_nil ?_
 (repeat ((fail_if_success with_reducible refine rg ?_); go_step))
 refine wp_region_pw ?_
 refine pw_mv (by rfl) rfl rfl ?_
 simp only [Act.put, pu]
 refine pw_callB (by rfl) 23 _ _ rfl Try.func23 (by kernel_rfl) #[.pointer (some ⟨g1, 0, none⟩)] rfl _ (hM _ sb) ?_
 intro z1001 k
 simp only [Act.put, pu]
 replace r1 := k.row r1 (by simp <;> omega)
 replace sb := sb.trans (k.below w.heap.size sb.size (by simp <;> omega))
 clear k
 refine pw_value (by rfl) (.bool false) (exec_not _ _ rfl true rfl) ?_
 simp only [Act.put, pu]
 refine pw_mv (by rfl) rfl rfl ?_
 simp only [Act.put, pu]
 refine pw_mv (by rfl) rfl rfl ?_
 simp only [Act.put, pu]
 refine pw_value (by rfl) (.bool false) (exec_lt_b _ _ _ _ rfl (k) (1) rfl rfl false (decide_eq_false (by omega))) ?_
 simp only [Act.put, pu]
 refine pw_pick (by rfl) false (v := .bool false) rfl rfl rfl ?_
 simp only [Act.put, pu]
 refine pw_mv (by rfl) rfl rfl ?_
 simp only [Act.put, pu]
 refine pw_mv (by rfl) rfl rfl ?_
 simp only [Act.put, pu]
 refine pw_mv (by rfl) rfl rfl ?_
 simp only [Act.put, pu]
 refine pw_value (by rfl) (.pointer (some ⟨g1, 0, none⟩)) (exec_nil _ rfl g1 (0) rfl) ?_
 simp only [Act.put, pu]
 refine pw_value (by rfl) (.pointer (some ⟨g1, 0, none⟩)) (exec_field 51 _ 0 rfl g1 0 rfl _ Try.underlying51 _ rfl 0 Try.sizeOf3) ?_
 simp only [Act.put, pu]
 refine pw_loadk (by rfl) 3 _ rfl _ (0) rfl r1.r (.int .i64 n) (voC_zero _ _) Try.isAgg3 ?_
 simp only [Act.put, pu]
 refine pw_value (by rfl) (.bool false) (exec_gt_i _ _ _ _ rfl (k) (n) rfl rfl false (decide_eq_false (by omega))) ?_
 simp only [Act.put, pu]
 refine pw_pick (by rfl) false (v := .bool false) rfl rfl rfl ?_
 simp only [Act.put, pu]
 refine pw_mv (by rfl) rfl rfl ?_
 simp only [Act.put, pu]
 refine pw_mv (by rfl) rfl rfl ?_
 simp only [Act.put, pu]
 refine pw_value (by rfl) (.bool false) (exec_lt_b _ _ _ _ rfl (c) (1) rfl rfl false (decide_eq_false (by omega))) ?_
 simp only [Act.put, pu]
 refine pw_pick (by rfl) false (v := .bool false) rfl rfl rfl ?_
 simp only [Act.put, pu]
 refine pw_mv (by rfl) rfl rfl ?_
 simp only [Act.put, pu]
 refine pw_mv (by rfl) rfl rfl ?_
 simp only [Act.put, pu]
 refine pw_value (by rfl) (.bool false) (exec_gt_i _ _ _ _ rfl (c) (4) rfl rfl false (decide_eq_false (by omega))) ?_
 simp only [Act.put, pu]
 refine pw_pick (by rfl) false (v := .bool false) rfl rfl rfl ?_
 simp only [Act.put, pu]
 refine pw_mv (by rfl) rfl rfl ?_
 simp only [Act.put, pu]
 refine pw_mv (by rfl) rfl rfl ?_
 simp only [Act.put, pu]
 refine pw_value (by rfl) (.bool false) (exec_lt_b _ _ _ _ rfl (o) (0) rfl rfl false (decide_eq_false (by omega))) ?_
 simp only [Act.put, pu]
 refine pw_pick (by rfl) false (v := .bool false) rfl rfl rfl ?_
 simp only [Act.put, pu]
 refine pw_mv (by rfl) rfl rfl ?_
 simp only [Act.put, pu]
 refine pw_mv (by rfl) rfl rfl ?_
 simp only [Act.put, pu]
 refine pw_value (by rfl) (.bool true) (exec_geq_i _ _ _ _ rfl (o) (2) rfl rfl true (decide_eq_true (by omega))) ?_
 simp only [Act.put, pu]
 refine pw_pick (by rfl) false (v := .bool true) rfl rfl rfl ?_
 simp only [Act.put, pu]
 refine pw_nil ?_
 (repeat ((fail_if_success with_reducible refine rg ?_); go_step))
 refine wp_region_pw ?_
 refine pw_value (by rfl) (.pointer none) (fun _ => rfl) ?_
 simp only [Act.put, pu]
 refine pw_nil ?_
 go_wp2
 go_ret
 exact ⟨rfl, sb⟩
set_option maxRecDepth 100000 in
set_option maxHeartbeats 2000000 in
theorem place_yesN (g1 : Nat) (n : Int) (V : Nat → Vt) (k c o : Nat) (w : World) (r1 : Row w g1 (voC n V) 51) (hk : ((k + 1 : Nat) : Int) ≤ n) (hk7 : k < 7) (hc : c < 4) (ho : o < 2) :
  Calls Try.prog 19 #[.pointer (some ⟨g1, 0, none⟩), .int .i64 (k + 1 : Nat), .int .i64 (c + 1 : Nat), .int .i64 o] w fun e w' => e = .returned (.pointer (some ⟨g1, 1 + k * 24 + c * 6 + o * 3, none⟩)) ∧ Below w.heap.size w w' := by
 have hM := fun w' (hb : Below w.heap.size w w') => made_yes g1 n V w' (r1.belowAll hb) (by omega)
 go_enter Try.func19, Try.ntmps19
 have sb := sbmk w
 (repeat ((fail_if_success with_reducible refine rg ?_); go_step))
 refine wp_region_pw ?_
 refine pw_value (by rfl) (.pointer none) (fun _ => rfl) ?_
 simp only [Act.put, pu]
 refine pw_nil ?_
 (repeat ((fail_if_success with_reducible refine rg ?_); go_step))
 refine wp_region_pw ?_
 refine pw_mv (by rfl) rfl rfl ?_
 simp only [Act.put, pu]
 refine pw_callB (by rfl) 23 _ _ rfl Try.func23 (by kernel_rfl) #[.pointer (some ⟨g1, 0, none⟩)] rfl _ (hM _ sb) ?_
 intro z1001 k
 simp only [Act.put, pu]
 replace r1 := k.row r1 (by simp <;> omega)
 replace sb := sb.trans (k.below w.heap.size sb.size (by simp <;> omega))
 clear k
 refine pw_value (by rfl) (.bool false) (exec_not _ _ rfl true rfl) ?_
 simp only [Act.put, pu]
 refine pw_mv (by rfl) rfl rfl ?_
 simp only [Act.put, pu]
 refine pw_mv (by rfl) rfl rfl ?_
 simp only [Act.put, pu]
 refine pw_value (by rfl) (.bool false) (exec_lt_b _ _ _ _ rfl ((k + 1 : Nat) : Int) (1) rfl rfl false (decide_eq_false (by omega))) ?_
 simp only [Act.put, pu]
 refine pw_pick (by rfl) false (v := .bool false) rfl rfl rfl ?_
 simp only [Act.put, pu]
 refine pw_mv (by rfl) rfl rfl ?_
 simp only [Act.put, pu]
 refine pw_mv (by rfl) rfl rfl ?_
 simp only [Act.put, pu]
 refine pw_mv (by rfl) rfl rfl ?_
 simp only [Act.put, pu]
 refine pw_value (by rfl) (.pointer (some ⟨g1, 0, none⟩)) (exec_nil _ rfl g1 (0) rfl) ?_
 simp only [Act.put, pu]
 refine pw_value (by rfl) (.pointer (some ⟨g1, 0, none⟩)) (exec_field 51 _ 0 rfl g1 0 rfl _ Try.underlying51 _ rfl 0 Try.sizeOf3) ?_
 simp only [Act.put, pu]
 refine pw_loadk (by rfl) 3 _ rfl _ (0) rfl r1.r (.int .i64 n) (voC_zero _ _) Try.isAgg3 ?_
 simp only [Act.put, pu]
 refine pw_value (by rfl) (.bool false) (exec_gt_i _ _ _ _ rfl ((k + 1 : Nat) : Int) (n) rfl rfl false (decide_eq_false (by omega))) ?_
 simp only [Act.put, pu]
 refine pw_pick (by rfl) false (v := .bool false) rfl rfl rfl ?_
 simp only [Act.put, pu]
 refine pw_mv (by rfl) rfl rfl ?_
 simp only [Act.put, pu]
 refine pw_mv (by rfl) rfl rfl ?_
 simp only [Act.put, pu]
 refine pw_value (by rfl) (.bool false) (exec_lt_b _ _ _ _ rfl ((c + 1 : Nat) : Int) (1) rfl rfl false (decide_eq_false (by omega))) ?_
 simp only [Act.put, pu]
 refine pw_pick (by rfl) false (v := .bool false) rfl rfl rfl ?_
 simp only [Act.put, pu]
 refine pw_mv (by rfl) rfl rfl ?_
 simp only [Act.put, pu]
 refine pw_mv (by rfl) rfl rfl ?_
 simp only [Act.put, pu]
 refine pw_value (by rfl) (.bool false) (exec_gt_i _ _ _ _ rfl ((c + 1 : Nat) : Int) (4) rfl rfl false (decide_eq_false (by omega))) ?_
 simp only [Act.put, pu]
 refine pw_pick (by rfl) false (v := .bool false) rfl rfl rfl ?_
 simp only [Act.put, pu]
 refine pw_mv (by rfl) rfl rfl ?_
 simp only [Act.put, pu]
 refine pw_mv (by rfl) rfl rfl ?_
 simp only [Act.put, pu]
 refine pw_value (by rfl) (.bool false) (exec_lt_b _ _ _ _ rfl ((o : Nat) : Int) (0) rfl rfl false (decide_eq_false (by omega))) ?_
 simp only [Act.put, pu]
 refine pw_pick (by rfl) false (v := .bool false) rfl rfl rfl ?_
 simp only [Act.put, pu]
 refine pw_mv (by rfl) rfl rfl ?_
 simp only [Act.put, pu]
 refine pw_mv (by rfl) rfl rfl ?_
 simp only [Act.put, pu]
 refine pw_value (by rfl) (.bool false) (exec_geq_i _ _ _ _ rfl ((o : Nat) : Int) (2) rfl rfl false (decide_eq_false (by omega))) ?_
 simp only [Act.put, pu]
 refine pw_pick (by rfl) false (v := .bool false) rfl rfl rfl ?_
 simp only [Act.put, pu]
 refine pw_nil ?_
 (repeat ((fail_if_success with_reducible refine rg ?_); go_step))
 refine wp_region_pw ?_
 refine pw_mv (by rfl) rfl rfl ?_
 simp only [Act.put, pu]
 refine pw_mv (by rfl) rfl rfl ?_
 simp only [Act.put, pu]
 refine pw_value (by rfl) (.int .i64 (k : Nat)) (x_subz _ _ _ _ rfl ((k + 1 : Nat) : Int) 1 ((k : Nat) : Int) rfl rfl (by omega) (by omega) (by omega)) ?_
 simp only [Act.put, pu]
 refine pw_mv (by rfl) rfl rfl ?_
 simp only [Act.put, pu]
 refine pw_value (by rfl) (.int .i64 (c : Nat)) (x_subz _ _ _ _ rfl ((c + 1 : Nat) : Int) 1 ((c : Nat) : Int) rfl rfl (by omega) (by omega) (by omega)) ?_
 simp only [Act.put, pu]
 refine pw_mv (by rfl) rfl rfl ?_
 simp only [Act.put, pu]
 refine pw_value (by rfl) (.pointer (some ⟨g1, 0, none⟩)) (exec_nil _ rfl g1 (0) rfl) ?_
 simp only [Act.put, pu]
 refine pw_value (by rfl) (.pointer (some ⟨g1, 1, none⟩)) (exec_field 51 _ 1 rfl g1 0 rfl _ Try.underlying51 _ rfl 167 Try.sizeOf49) ?_
 simp only [Act.put, pu]
 refine pw_value (by rfl) (.pointer (some ⟨g1, 1 + k * 24, none⟩)) (exec_index_g 49 _ _ rfl g1 (1) rfl k 7 rfl (hk7) _ Try.underlying49 24 Try.sizeOf48) ?_
 simp only [Act.put, pu]
 refine pw_value (by rfl) (.pointer (some ⟨g1, 1 + k * 24 + c * 6, none⟩)) (exec_index_g 48 _ _ rfl g1 (1 + k * 24) rfl c 4 rfl (hc) _ Try.underlying48 6 Try.sizeOf47) ?_
 simp only [Act.put, pu]
 refine pw_value (by rfl) (.pointer (some ⟨g1, 1 + k * 24 + c * 6 + o * 3, none⟩)) (exec_index_g 47 _ _ rfl g1 (1 + k * 24 + c * 6) rfl o 2 rfl (ho) _ Try.underlying47 3 Try.sizeOf46) ?_
 simp only [Act.put, pu]
 refine pw_as (by rfl) rfl rfl ?_
 simp only [Act.put, pu]
 refine pw_nil ?_
 go_wp2
 go_ret
 exact ⟨rfl, sb⟩
theorem place_yes (g1 : Nat) (n : Int) (V : Nat → Vt) (k c o : Int) (w : World) (r1 : Row w g1 (voC n V) 51) (hn : n ≤ 7) (h : plB n k c o = true) :
  Calls Try.prog 19 #[.pointer (some ⟨g1, 0, none⟩), .int .i64 k, .int .i64 c, .int .i64 o] w fun e w' => e = .returned (.pointer (some ⟨g1, 1 + plI k c o * 3, none⟩)) ∧ Below w.heap.size w w' := by
 have hp := of_decide_eq_true h
 have h1 := place_yesN g1 n V (k - 1).toNat (c - 1).toNat o.toNat w r1 (by omega) (by omega) (by omega) (by omega)
 rw [show (((k - 1).toNat + 1 : Nat) : Int) = k by omega, show (((c - 1).toNat + 1 : Nat) : Int) = c by omega, show ((o.toNat : Nat) : Int) = o by omega] at h1
 rw [show 1 + plI k c o * 3 = 1 + (k - 1).toNat * 24 + (c - 1).toNat * 6 + o.toNat * 3 by unfold plI; omega]
 exact h1
theorem plI_lt {n k c o : Int} (hn : n ≤ 7) (h : plB n k c o = true) : plI k c o < 56 := by
 have hp := of_decide_eq_true h
 unfold plI
 omega
set_option maxRecDepth 100000 in
set_option maxHeartbeats 2000000 in
theorem par_any (s c : Int) (w : World) :
  Calls Try.prog 20 #[.agg (tsC s c)] w fun e w' => e = .returned (.int .i64 (s % 2)) ∧ Below w.heap.size w w' := by
 go_enter Try.func20, Try.ntmps20
 have sb := sbmk w
 (repeat ((fail_if_success with_reducible refine rg ?_); go_step))
 refine wp_region_pw ?_
 refine pw_boxr (by rfl) 32 _ rfl (tsC s c) rfl ?_
 intro g1 z0 n0 r1 k
 simp only [Act.put, pu]
 have b1 := Nat.le_trans sb.size n0
 clear n0
 replace sb := sb.trans (k.below w.heap.size sb.size (by simp <;> omega))
 clear k
 refine pw_value (by rfl) (.int .i64 0) (fun _ => rfl) ?_
 simp only [Act.put, pu]
 refine pw_nil ?_
 (repeat ((fail_if_success with_reducible refine rg ?_); go_step))
 refine wp_region_pw ?_
 refine pw_value (by rfl) (.pointer (some ⟨g1, 0, none⟩)) (exec_field 32 _ 0 rfl g1 0 rfl _ Try.underlying32 _ rfl 0 Try.sizeOf3) ?_
 simp only [Act.put, pu]
 refine pw_loadk (by rfl) 3 _ rfl _ (0) rfl r1.r (.int .i64 s) rfl Try.isAgg3 ?_
 simp only [Act.put, pu]
 refine pw_value (by rfl) (.int .i64 (s % 2)) (x_par _ _ _ rfl s rfl rfl) ?_
 simp only [Act.put, pu]
 refine pw_as (by rfl) rfl rfl ?_
 simp only [Act.put, pu]
 refine pw_nil ?_
 go_wp2
 go_ret
 exact ⟨rfl, sb⟩
set_option maxRecDepth 100000 in
set_option maxHeartbeats 2000000 in
theorem vnew_no (n : Int) (w : World) (h : n < 1 ∨ 7 < n) :
  Calls Try.prog 8 #[.int .i64 n] w fun e w' => e = .returned (.tuple #[.pointer none, .int .i64 1]) ∧ Below w.heap.size w w' := by
 by_cases h1 : n < 1
 ·clear h
  go_enter Try.func8, Try.ntmps8
  have sb := sbmk w
  (repeat ((fail_if_success with_reducible refine rg ?_); go_step))
  refine wp_region_pw ?_
  refine pw_value (by rfl) (.pointer none) (fun _ => rfl) ?_
  simp only [Act.put, pu]
  refine pw_value (by rfl) (.int .i64 0) (fun _ => rfl) ?_
  simp only [Act.put, pu]
  refine pw_nil ?_
  (repeat ((fail_if_success with_reducible refine rg ?_); go_step))
  refine wp_region_pw ?_
  refine pw_mv (by rfl) rfl rfl ?_
  simp only [Act.put, pu]
  refine pw_value (by rfl) (.bool true) (exec_lt_b _ _ _ _ rfl (n) (1) rfl rfl true (decide_eq_true (by omega))) ?_
  simp only [Act.put, pu]
  refine pw_mv (by rfl) rfl rfl ?_
  simp only [Act.put, pu]
  refine pw_skip (by rfl) ?_
  simp only [Act.put, pu]
  refine pw_skip (by rfl) ?_
  simp only [Act.put, pu]
  refine pw_pick (by rfl) true (v := .bool true) rfl rfl rfl ?_
  simp only [Act.put, pu]
  refine pw_nil ?_
  (repeat ((fail_if_success with_reducible refine rg ?_); go_step))
  refine wp_region_pw ?_
  refine pw_value (by rfl) (.pointer none) (fun _ => rfl) ?_
  simp only [Act.put, pu]
  refine pw_value (by rfl) (.int .i64 1) (fun _ => rfl) ?_
  simp only [Act.put, pu]
  refine pw_nil ?_
  go_wp2
  go_ret2
  exact ⟨rfl, sb⟩
 have h2 : 7 < n := by omega
 clear h
 go_enter Try.func8, Try.ntmps8
 have sb := sbmk w
 (repeat ((fail_if_success with_reducible refine rg ?_); go_step))
 refine wp_region_pw ?_
 refine pw_value (by rfl) (.pointer none) (fun _ => rfl) ?_
 simp only [Act.put, pu]
 refine pw_value (by rfl) (.int .i64 0) (fun _ => rfl) ?_
 simp only [Act.put, pu]
 refine pw_nil ?_
 (repeat ((fail_if_success with_reducible refine rg ?_); go_step))
 refine wp_region_pw ?_
 refine pw_mv (by rfl) rfl rfl ?_
 simp only [Act.put, pu]
 refine pw_value (by rfl) (.bool false) (exec_lt_b _ _ _ _ rfl (n) (1) rfl rfl false (decide_eq_false (by omega))) ?_
 simp only [Act.put, pu]
 refine pw_mv (by rfl) rfl rfl ?_
 simp only [Act.put, pu]
 refine pw_mv (by rfl) rfl rfl ?_
 simp only [Act.put, pu]
 refine pw_value (by rfl) (.bool true) (exec_gt_i _ _ _ _ rfl (n) (7) rfl rfl true (decide_eq_true (by omega))) ?_
 simp only [Act.put, pu]
 refine pw_pick (by rfl) false (v := .bool true) rfl rfl rfl ?_
 simp only [Act.put, pu]
 refine pw_nil ?_
 (repeat ((fail_if_success with_reducible refine rg ?_); go_step))
 refine wp_region_pw ?_
 refine pw_value (by rfl) (.pointer none) (fun _ => rfl) ?_
 simp only [Act.put, pu]
 refine pw_value (by rfl) (.int .i64 1) (fun _ => rfl) ?_
 simp only [Act.put, pu]
 refine pw_nil ?_
 go_wp2
 go_ret2
 exact ⟨rfl, sb⟩
set_option maxRecDepth 100000 in
set_option maxHeartbeats 2000000 in
theorem vnew_yes (n : Int) (w : World) (h1 : 1 ≤ n) (h7 : n ≤ 7) :
  Calls Try.prog 8 #[.int .i64 n] w fun e w' => ∃ g, e = .returned (.tuple #[.pointer (some ⟨g, 0, none⟩), .int .i64 0]) ∧ w.heap.size ≤ g ∧ Row w' g (voC n fun _ => vt0) 51 ∧ Below w.heap.size w w' := by
 go_enter Try.func8, Try.ntmps8
 have sb := sbmk w
 (repeat ((fail_if_success with_reducible refine rg ?_); go_step))
 refine wp_region_pw ?_
 refine pw_value (by rfl) (.pointer none) (fun _ => rfl) ?_
 simp only [Act.put, pu]
 refine pw_value (by rfl) (.int .i64 0) (fun _ => rfl) ?_
 simp only [Act.put, pu]
 refine pw_nil ?_
 (repeat ((fail_if_success with_reducible refine rg ?_); go_step))
 refine wp_region_pw ?_
 refine pw_mv (by rfl) rfl rfl ?_
 simp only [Act.put, pu]
 refine pw_value (by rfl) (.bool false) (exec_lt_b _ _ _ _ rfl (n) (1) rfl rfl false (decide_eq_false (by omega))) ?_
 simp only [Act.put, pu]
 refine pw_mv (by rfl) rfl rfl ?_
 simp only [Act.put, pu]
 refine pw_mv (by rfl) rfl rfl ?_
 simp only [Act.put, pu]
 refine pw_value (by rfl) (.bool false) (exec_gt_i _ _ _ _ rfl (n) (7) rfl rfl false (decide_eq_false (by omega))) ?_
 simp only [Act.put, pu]
 refine pw_pick (by rfl) false (v := .bool false) rfl rfl rfl ?_
 simp only [Act.put, pu]
 refine pw_nil ?_
 (repeat ((fail_if_success with_reducible refine rg ?_); go_step))
 refine wp_region_pw ?_
 refine pw_mv (by rfl) rfl rfl ?_
 simp only [Act.put, pu]
 refine pw_value (by rfl) (.agg (voC n fun _ => vt0)) (exec_buildv _ [(0, _)] rfl [(0, .int .i64 n)] rfl _ (built_vs n)) ?_
 simp only [Act.put, pu]
 refine pw_boxr (by rfl) 51 _ rfl (voC n fun _ => vt0) rfl ?_
 intro g12 z3002 n0 r12 k
 simp only [Act.put, pu]
 have b12 := Nat.le_trans sb.size n0
 clear n0
 replace sb := sb.trans (k.below w.heap.size sb.size (by simp <;> omega))
 clear k
 refine pw_as (by rfl) rfl rfl ?_
 simp only [Act.put, pu]
 refine pw_value (by rfl) (.int .i64 0) (fun _ => rfl) ?_
 simp only [Act.put, pu]
 refine pw_nil ?_
 go_wp2
 go_ret2
 exact ⟨g12, rfl, b12, r12, sb⟩
end Go.Proofs.Ytdbcikhineghcaa
