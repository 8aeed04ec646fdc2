/- SpacePlays: for any number of servers and clients, and up to 60 keys of few bytes that any ends name: which are new, which are refused, where each stands, and who let it be known, is as the document says; no condition. -/
import Derived.Test.YtchiiphmpkmloaaSpBoth
namespace Go.Proofs.Ytchiiphmpkmloaa
open Go.ChangeShapes Go.WideShapes Go.ChangeAt Go.RowKit
set_option linter.unusedVariables false
set_option linter.unusedSectionVars false
set_option linter.unusedSimpArgs false
namespace spacePlaysP
set_option maxRecDepth 100000 in
set_option maxHeartbeats 2000000 in
theorem walk (n m : Int) (ab : Option Addr) (c : Nat) (L : List Ac) (gb ob : Nat) (bcs : Array Value) (tb : TypeId) (w : World) (hn2 : n ≤ 9223372036854775807) (hm : L.length ≤ maxLen) (hz : ElsAt 2 w ab L.length (acC L) gb ob bcs tb) :
  Calls Try.prog 3 #[.agg #[.int .i64 n, .int .i64 m], .slice ab L.length c] w fun e w' => e = .returned (.bool true) ∧ Below w.heap.size w w' := by
 have hS := fun w' (hb : Below w.heap.size w w') => short_any ab c L gb ob bcs tb w' (hz.below hb)
 have HB : Hid (ElsAt 2 w ab L.length (acC L) gb ob bcs tb) := hz
 clear hm hz hn2
 cases hsh : shB L with
 | false =>
  rw [hsh] at hS
  clear hsh HB
  go_enter Try.func3, Try.ntmps3
  have sb := sbmk w
  (repeat ((fail_if_success with_reducible refine rg ?_); go_step))
  refine wp_region_pw ?_
  refine pw_boxr (by rfl) 22 _ rfl (#[.int .i64 n, .int .i64 m]) rfl ?_
  intro g2 z0 n0 r2 k
  simp only [Act.put, pu]
  have b2 := Nat.le_trans sb.size n0
  clear n0
  replace sb := sb.trans (k.below w.heap.size sb.size (by simp <;> omega))
  clear k
  refine pw_value (by rfl) (.bool false) (fun _ => rfl) ?_
  simp only [Act.put, pu]
  refine pw_nil ?_
  (repeat ((fail_if_success with_reducible refine rg ?_); go_step))
  refine wp_region_pw ?_
  refine pw_mv (by rfl) rfl rfl ?_
  simp only [Act.put, pu]
  refine pw_callB (by rfl) 7 _ _ rfl Try.func7 (by kernel_rfl) #[.slice ab L.length c] rfl _ (hS _ sb) ?_
  intro z1001 k
  simp only [Act.put, pu]
  replace sb := sb.trans (k.below w.heap.size sb.size (by simp <;> omega))
  clear k
  refine pw_value (by rfl) (.bool true) (exec_not _ _ rfl false rfl) ?_
  simp only [Act.put, pu]
  refine pw_nil ?_
  (repeat ((fail_if_success with_reducible refine rg ?_); go_step))
  refine wp_region_pw ?_
  refine pw_callB (by rfl) 8 _ _ rfl Try.func8 (by kernel_rfl) #[] rfl _ (awake_any _) ?_
  intro z2000 k
  simp only [Act.put, pu]
  replace sb := sb.trans (k.below w.heap.size sb.size (by simp <;> omega))
  clear k
  refine pw_as (by rfl) rfl rfl ?_
  simp only [Act.put, pu]
  refine pw_nil ?_
  go_wp2
  go_ret
  exact ⟨rfl, sb⟩
 | true =>
  rw [hsh] at hS
  have hLn := (shB_yes hsh).1
  have HD40 : Hid (∀ j, j < L.length → (L.getD j ac0).1.length ≤ 40) := (shB_yes hsh).2
  clear hsh
  by_cases hbad : n < 1 ∨ 7 < n ∨ m < 1 ∨ 4 < m
  ·have hN := fun w' => snew_no n m w' hbad
   go_enter Try.func3, Try.ntmps3
   have sb := sbmk w
   (repeat ((fail_if_success with_reducible refine rg ?_); go_step))
   refine wp_region_pw ?_
   refine pw_boxr (by rfl) 22 _ rfl (#[.int .i64 n, .int .i64 m]) rfl ?_
   intro g2 z0 n0 r2 k
   simp only [Act.put, pu]
   have b2 := Nat.le_trans sb.size n0
   clear n0
   replace sb := sb.trans (k.below w.heap.size sb.size (by simp <;> omega))
   clear k
   refine pw_value (by rfl) (.bool false) (fun _ => rfl) ?_
   simp only [Act.put, pu]
   refine pw_nil ?_
   (repeat ((fail_if_success with_reducible refine rg ?_); go_step))
   refine wp_region_pw ?_
   refine pw_mv (by rfl) rfl rfl ?_
   simp only [Act.put, pu]
   refine pw_callB (by rfl) 7 _ _ rfl Try.func7 (by kernel_rfl) #[.slice ab L.length c] rfl _ (hS _ sb) ?_
   intro z1001 k
   simp only [Act.put, pu]
   replace r2 := k.row r2 (by simp <;> omega)
   replace sb := sb.trans (k.below w.heap.size sb.size (by simp <;> omega))
   clear k
   refine pw_value (by rfl) (.bool false) (exec_not _ _ rfl true rfl) ?_
   simp only [Act.put, pu]
   refine pw_nil ?_
   (repeat ((fail_if_success with_reducible refine rg ?_); go_step))
   refine wp_region_pw ?_
   refine pw_value (by rfl) (.pointer (some ⟨g2, 0, none⟩)) (exec_index 22 _ _ rfl g2 rfl 0 2 rfl (by decide) _ Try.underlying22 Try.sizeOf3) ?_
   simp only [Act.put, pu]
   refine pw_loadk (by rfl) 3 _ rfl _ (0) rfl r2.r (.int .i64 n) rfl Try.isAgg3 ?_
   simp only [Act.put, pu]
   refine pw_value (by rfl) (.pointer (some ⟨g2, 1, none⟩)) (exec_index 22 _ _ rfl g2 rfl 1 2 rfl (by decide) _ Try.underlying22 Try.sizeOf3) ?_
   simp only [Act.put, pu]
   refine pw_loadk (by rfl) 3 _ rfl _ (1) rfl r2.r (.int .i64 m) rfl Try.isAgg3 ?_
   simp only [Act.put, pu]
   refine pw_callB (by rfl) 9 _ _ rfl Try.func9 (by kernel_rfl) #[.int .i64 n, .int .i64 m] rfl _ (hN _) ?_
   intro z3004 k
   simp only [Act.put, pu]
   replace r2 := k.row r2 (by simp <;> omega)
   replace sb := sb.trans (k.below w.heap.size sb.size (by simp <;> omega))
   clear k
   refine pw_mv (by rfl) rfl rfl ?_
   simp only [Act.put, pu]
   refine pw_ext (by rfl) rfl rfl rfl ?_
   simp only [Act.put, pu]
   refine pw_ext (by rfl) rfl rfl rfl ?_
   simp only [Act.put, pu]
   refine pw_as (by rfl) rfl rfl ?_
   simp only [Act.put, pu]
   refine pw_as (by rfl) rfl rfl ?_
   simp only [Act.put, pu]
   refine pw_nil ?_
   clear hN hS HB HD40
   by_cases h1 : n < 1
   ·clear hbad
    (repeat ((fail_if_success with_reducible refine rg ?_); go_step))
    refine wp_region_pw ?_
    refine pw_value (by rfl) (.pointer (some ⟨g2, 0, none⟩)) (exec_index 22 _ _ rfl g2 rfl 0 2 rfl (by decide) _ Try.underlying22 Try.sizeOf3) ?_
    simp only [Act.put, pu]
    refine pw_loadk (by rfl) 3 _ rfl _ (0) rfl r2.r (.int .i64 n) rfl Try.isAgg3 ?_
    simp only [Act.put, pu]
    refine pw_value (by rfl) (.bool true) (exec_lt_b _ _ _ _ rfl (n) (1) rfl rfl true (decide_eq_true (by omega))) ?_
    simp only [Act.put, pu]
    refine pw_mv (by rfl) rfl rfl ?_
    simp only [Act.put, pu]
    refine pw_skip (by rfl) ?_
    simp only [Act.put, pu]
    refine pw_skip (by rfl) ?_
    simp only [Act.put, pu]
    refine pw_skip (by rfl) ?_
    simp only [Act.put, pu]
    refine pw_pick (by rfl) true (v := .bool true) rfl rfl rfl ?_
    simp only [Act.put, pu]
    refine pw_mv (by rfl) rfl rfl ?_
    simp only [Act.put, pu]
    refine pw_skip (by rfl) ?_
    simp only [Act.put, pu]
    refine pw_skip (by rfl) ?_
    simp only [Act.put, pu]
    refine pw_skip (by rfl) ?_
    simp only [Act.put, pu]
    refine pw_pick (by rfl) true (v := .bool true) rfl rfl rfl ?_
    simp only [Act.put, pu]
    refine pw_mv (by rfl) rfl rfl ?_
    simp only [Act.put, pu]
    refine pw_skip (by rfl) ?_
    simp only [Act.put, pu]
    refine pw_skip (by rfl) ?_
    simp only [Act.put, pu]
    refine pw_skip (by rfl) ?_
    simp only [Act.put, pu]
    refine pw_pick (by rfl) true (v := .bool true) rfl rfl rfl ?_
    simp only [Act.put, pu]
    refine pw_nil ?_
    (repeat ((fail_if_success with_reducible refine rg ?_); go_step))
    refine wp_region_pw ?_
    refine pw_mv (by rfl) rfl rfl ?_
    simp only [Act.put, pu]
    refine pw_value (by rfl) (.bool true) (exec_eql_nilp _ _ _ _ rfl (none) rfl rfl ptr_sp) ?_
    simp only [Act.put, pu]
    refine pw_mv (by rfl) rfl rfl ?_
    simp only [Act.put, pu]
    refine pw_mv (by rfl) rfl rfl ?_
    simp only [Act.put, pu]
    refine pw_value (by rfl) (.bool true) (exec_eql_k .i64 _ _ _ _ rfl (1) (1) rfl rfl true (decide_eq_true rfl)) ?_
    simp only [Act.put, pu]
    refine pw_pick (by rfl) true (v := .bool true) rfl rfl rfl ?_
    simp only [Act.put, pu]
    refine pw_mv (by rfl) rfl rfl ?_
    simp only [Act.put, pu]
    refine pw_callB (by rfl) 8 _ _ rfl Try.func8 (by kernel_rfl) #[] rfl _ (awake_any _) ?_
    intro z5007 k
    simp only [Act.put, pu]
    replace sb := sb.trans (k.below w.heap.size sb.size (by simp <;> omega))
    clear k
    refine pw_pick (by rfl) true (v := .bool true) rfl rfl rfl ?_
    simp only [Act.put, pu]
    refine pw_as (by rfl) rfl rfl ?_
    simp only [Act.put, pu]
    refine pw_nil ?_
    go_wp2
    go_ret
    exact ⟨rfl, sb⟩
   by_cases h2 : 7 < n
   ·clear hbad
    (repeat ((fail_if_success with_reducible refine rg ?_); go_step))
    refine wp_region_pw ?_
    refine pw_value (by rfl) (.pointer (some ⟨g2, 0, none⟩)) (exec_index 22 _ _ rfl g2 rfl 0 2 rfl (by decide) _ Try.underlying22 Try.sizeOf3) ?_
    simp only [Act.put, pu]
    refine pw_loadk (by rfl) 3 _ rfl _ (0) rfl r2.r (.int .i64 n) rfl Try.isAgg3 ?_
    simp only [Act.put, pu]
    refine pw_value (by rfl) (.bool false) (exec_lt_b _ _ _ _ rfl (n) (1) rfl rfl false (decide_eq_false (by omega))) ?_
    simp only [Act.put, pu]
    refine pw_mv (by rfl) rfl rfl ?_
    simp only [Act.put, pu]
    refine pw_value (by rfl) (.pointer (some ⟨g2, 0, none⟩)) (exec_index 22 _ _ rfl g2 rfl 0 2 rfl (by decide) _ Try.underlying22 Try.sizeOf3) ?_
    simp only [Act.put, pu]
    refine pw_loadk (by rfl) 3 _ rfl _ (0) rfl r2.r (.int .i64 n) rfl Try.isAgg3 ?_
    simp only [Act.put, pu]
    refine pw_value (by rfl) (.bool true) (exec_gt_i _ _ _ _ rfl (n) (7) rfl rfl true (decide_eq_true (by omega))) ?_
    simp only [Act.put, pu]
    refine pw_pick (by rfl) false (v := .bool true) rfl rfl rfl ?_
    simp only [Act.put, pu]
    refine pw_mv (by rfl) rfl rfl ?_
    simp only [Act.put, pu]
    refine pw_skip (by rfl) ?_
    simp only [Act.put, pu]
    refine pw_skip (by rfl) ?_
    simp only [Act.put, pu]
    refine pw_skip (by rfl) ?_
    simp only [Act.put, pu]
    refine pw_pick (by rfl) true (v := .bool true) rfl rfl rfl ?_
    simp only [Act.put, pu]
    refine pw_mv (by rfl) rfl rfl ?_
    simp only [Act.put, pu]
    refine pw_skip (by rfl) ?_
    simp only [Act.put, pu]
    refine pw_skip (by rfl) ?_
    simp only [Act.put, pu]
    refine pw_skip (by rfl) ?_
    simp only [Act.put, pu]
    refine pw_pick (by rfl) true (v := .bool true) rfl rfl rfl ?_
    simp only [Act.put, pu]
    refine pw_nil ?_
    (repeat ((fail_if_success with_reducible refine rg ?_); go_step))
    refine wp_region_pw ?_
    refine pw_mv (by rfl) rfl rfl ?_
    simp only [Act.put, pu]
    refine pw_value (by rfl) (.bool true) (exec_eql_nilp _ _ _ _ rfl (none) rfl rfl ptr_sp) ?_
    simp only [Act.put, pu]
    refine pw_mv (by rfl) rfl rfl ?_
    simp only [Act.put, pu]
    refine pw_mv (by rfl) rfl rfl ?_
    simp only [Act.put, pu]
    refine pw_value (by rfl) (.bool true) (exec_eql_k .i64 _ _ _ _ rfl (1) (1) rfl rfl true (decide_eq_true rfl)) ?_
    simp only [Act.put, pu]
    refine pw_pick (by rfl) true (v := .bool true) rfl rfl rfl ?_
    simp only [Act.put, pu]
    refine pw_mv (by rfl) rfl rfl ?_
    simp only [Act.put, pu]
    refine pw_callB (by rfl) 8 _ _ rfl Try.func8 (by kernel_rfl) #[] rfl _ (awake_any _) ?_
    intro z5007 k
    simp only [Act.put, pu]
    replace sb := sb.trans (k.below w.heap.size sb.size (by simp <;> omega))
    clear k
    refine pw_pick (by rfl) true (v := .bool true) rfl rfl rfl ?_
    simp only [Act.put, pu]
    refine pw_as (by rfl) rfl rfl ?_
    simp only [Act.put, pu]
    refine pw_nil ?_
    go_wp2
    go_ret
    exact ⟨rfl, sb⟩
   by_cases h3 : m < 1
   ·clear hbad
    (repeat ((fail_if_success with_reducible refine rg ?_); go_step))
    refine wp_region_pw ?_
    refine pw_value (by rfl) (.pointer (some ⟨g2, 0, none⟩)) (exec_index 22 _ _ rfl g2 rfl 0 2 rfl (by decide) _ Try.underlying22 Try.sizeOf3) ?_
    simp only [Act.put, pu]
    refine pw_loadk (by rfl) 3 _ rfl _ (0) rfl r2.r (.int .i64 n) rfl Try.isAgg3 ?_
    simp only [Act.put, pu]
    refine pw_value (by rfl) (.bool false) (exec_lt_b _ _ _ _ rfl (n) (1) rfl rfl false (decide_eq_false (by omega))) ?_
    simp only [Act.put, pu]
    refine pw_mv (by rfl) rfl rfl ?_
    simp only [Act.put, pu]
    refine pw_value (by rfl) (.pointer (some ⟨g2, 0, none⟩)) (exec_index 22 _ _ rfl g2 rfl 0 2 rfl (by decide) _ Try.underlying22 Try.sizeOf3) ?_
    simp only [Act.put, pu]
    refine pw_loadk (by rfl) 3 _ rfl _ (0) rfl r2.r (.int .i64 n) rfl Try.isAgg3 ?_
    simp only [Act.put, pu]
    refine pw_value (by rfl) (.bool false) (exec_gt_i _ _ _ _ rfl (n) (7) rfl rfl false (decide_eq_false (by omega))) ?_
    simp only [Act.put, pu]
    refine pw_pick (by rfl) false (v := .bool false) rfl rfl rfl ?_
    simp only [Act.put, pu]
    refine pw_mv (by rfl) rfl rfl ?_
    simp only [Act.put, pu]
    refine pw_value (by rfl) (.pointer (some ⟨g2, 1, none⟩)) (exec_index 22 _ _ rfl g2 rfl 1 2 rfl (by decide) _ Try.underlying22 Try.sizeOf3) ?_
    simp only [Act.put, pu]
    refine pw_loadk (by rfl) 3 _ rfl _ (1) rfl r2.r (.int .i64 m) rfl Try.isAgg3 ?_
    simp only [Act.put, pu]
    refine pw_value (by rfl) (.bool true) (exec_lt_b _ _ _ _ rfl (m) (1) rfl rfl true (decide_eq_true (by omega))) ?_
    simp only [Act.put, pu]
    refine pw_pick (by rfl) false (v := .bool true) rfl rfl rfl ?_
    simp only [Act.put, pu]
    refine pw_mv (by rfl) rfl rfl ?_
    simp only [Act.put, pu]
    refine pw_skip (by rfl) ?_
    simp only [Act.put, pu]
    refine pw_skip (by rfl) ?_
    simp only [Act.put, pu]
    refine pw_skip (by rfl) ?_
    simp only [Act.put, pu]
    refine pw_pick (by rfl) true (v := .bool true) rfl rfl rfl ?_
    simp only [Act.put, pu]
    refine pw_nil ?_
    (repeat ((fail_if_success with_reducible refine rg ?_); go_step))
    refine wp_region_pw ?_
    refine pw_mv (by rfl) rfl rfl ?_
    simp only [Act.put, pu]
    refine pw_value (by rfl) (.bool true) (exec_eql_nilp _ _ _ _ rfl (none) rfl rfl ptr_sp) ?_
    simp only [Act.put, pu]
    refine pw_mv (by rfl) rfl rfl ?_
    simp only [Act.put, pu]
    refine pw_mv (by rfl) rfl rfl ?_
    simp only [Act.put, pu]
    refine pw_value (by rfl) (.bool true) (exec_eql_k .i64 _ _ _ _ rfl (1) (1) rfl rfl true (decide_eq_true rfl)) ?_
    simp only [Act.put, pu]
    refine pw_pick (by rfl) true (v := .bool true) rfl rfl rfl ?_
    simp only [Act.put, pu]
    refine pw_mv (by rfl) rfl rfl ?_
    simp only [Act.put, pu]
    refine pw_callB (by rfl) 8 _ _ rfl Try.func8 (by kernel_rfl) #[] rfl _ (awake_any _) ?_
    intro z5007 k
    simp only [Act.put, pu]
    replace sb := sb.trans (k.below w.heap.size sb.size (by simp <;> omega))
    clear k
    refine pw_pick (by rfl) true (v := .bool true) rfl rfl rfl ?_
    simp only [Act.put, pu]
    refine pw_as (by rfl) rfl rfl ?_
    simp only [Act.put, pu]
    refine pw_nil ?_
    go_wp2
    go_ret
    exact ⟨rfl, sb⟩
   have h4 : 4 < m := by omega
   clear hbad
   (repeat ((fail_if_success with_reducible refine rg ?_); go_step))
   refine wp_region_pw ?_
   refine pw_value (by rfl) (.pointer (some ⟨g2, 0, none⟩)) (exec_index 22 _ _ rfl g2 rfl 0 2 rfl (by decide) _ Try.underlying22 Try.sizeOf3) ?_
   simp only [Act.put, pu]
   refine pw_loadk (by rfl) 3 _ rfl _ (0) rfl r2.r (.int .i64 n) rfl Try.isAgg3 ?_
   simp only [Act.put, pu]
   refine pw_value (by rfl) (.bool false) (exec_lt_b _ _ _ _ rfl (n) (1) rfl rfl false (decide_eq_false (by omega))) ?_
   simp only [Act.put, pu]
   refine pw_mv (by rfl) rfl rfl ?_
   simp only [Act.put, pu]
   refine pw_value (by rfl) (.pointer (some ⟨g2, 0, none⟩)) (exec_index 22 _ _ rfl g2 rfl 0 2 rfl (by decide) _ Try.underlying22 Try.sizeOf3) ?_
   simp only [Act.put, pu]
   refine pw_loadk (by rfl) 3 _ rfl _ (0) rfl r2.r (.int .i64 n) rfl Try.isAgg3 ?_
   simp only [Act.put, pu]
   refine pw_value (by rfl) (.bool false) (exec_gt_i _ _ _ _ rfl (n) (7) rfl rfl false (decide_eq_false (by omega))) ?_
   simp only [Act.put, pu]
   refine pw_pick (by rfl) false (v := .bool false) rfl rfl rfl ?_
   simp only [Act.put, pu]
   refine pw_mv (by rfl) rfl rfl ?_
   simp only [Act.put, pu]
   refine pw_value (by rfl) (.pointer (some ⟨g2, 1, none⟩)) (exec_index 22 _ _ rfl g2 rfl 1 2 rfl (by decide) _ Try.underlying22 Try.sizeOf3) ?_
   simp only [Act.put, pu]
   refine pw_loadk (by rfl) 3 _ rfl _ (1) rfl r2.r (.int .i64 m) rfl Try.isAgg3 ?_
   simp only [Act.put, pu]
   refine pw_value (by rfl) (.bool false) (exec_lt_b _ _ _ _ rfl (m) (1) rfl rfl false (decide_eq_false (by omega))) ?_
   simp only [Act.put, pu]
   refine pw_pick (by rfl) false (v := .bool false) rfl rfl rfl ?_
   simp only [Act.put, pu]
   refine pw_mv (by rfl) rfl rfl ?_
   simp only [Act.put, pu]
   refine pw_value (by rfl) (.pointer (some ⟨g2, 1, none⟩)) (exec_index 22 _ _ rfl g2 rfl 1 2 rfl (by decide) _ Try.underlying22 Try.sizeOf3) ?_
   simp only [Act.put, pu]
   refine pw_loadk (by rfl) 3 _ rfl _ (1) rfl r2.r (.int .i64 m) rfl Try.isAgg3 ?_
   simp only [Act.put, pu]
   refine pw_value (by rfl) (.bool true) (exec_gt_i _ _ _ _ rfl (m) (4) rfl rfl true (decide_eq_true (by omega))) ?_
   simp only [Act.put, pu]
   refine pw_pick (by rfl) false (v := .bool true) rfl rfl rfl ?_
   simp only [Act.put, pu]
   refine pw_nil ?_
   (repeat ((fail_if_success with_reducible refine rg ?_); go_step))
   refine wp_region_pw ?_
   refine pw_mv (by rfl) rfl rfl ?_
   simp only [Act.put, pu]
   refine pw_value (by rfl) (.bool true) (exec_eql_nilp _ _ _ _ rfl (none) rfl rfl ptr_sp) ?_
   simp only [Act.put, pu]
   refine pw_mv (by rfl) rfl rfl ?_
   simp only [Act.put, pu]
   refine pw_mv (by rfl) rfl rfl ?_
   simp only [Act.put, pu]
   refine pw_value (by rfl) (.bool true) (exec_eql_k .i64 _ _ _ _ rfl (1) (1) rfl rfl true (decide_eq_true rfl)) ?_
   simp only [Act.put, pu]
   refine pw_pick (by rfl) true (v := .bool true) rfl rfl rfl ?_
   simp only [Act.put, pu]
   refine pw_mv (by rfl) rfl rfl ?_
   simp only [Act.put, pu]
   refine pw_callB (by rfl) 8 _ _ rfl Try.func8 (by kernel_rfl) #[] rfl _ (awake_any _) ?_
   intro z5007 k
   simp only [Act.put, pu]
   replace sb := sb.trans (k.below w.heap.size sb.size (by simp <;> omega))
   clear k
   refine pw_pick (by rfl) true (v := .bool true) rfl rfl rfl ?_
   simp only [Act.put, pu]
   refine pw_as (by rfl) rfl rfl ?_
   simp only [Act.put, pu]
   refine pw_nil ?_
   go_wp2
   go_ret
   exact ⟨rfl, sb⟩
  obtain ⟨h1, h7, h2, h4⟩ : 1 ≤ n ∧ n ≤ 7 ∧ 1 ≤ m ∧ m ≤ 4 := by omega
  clear hbad
  go_enter Try.func3, Try.ntmps3
  have sb := sbmk w
  (repeat ((fail_if_success with_reducible refine rg ?_); go_step))
  refine wp_region_pw ?_
  refine pw_boxr (by rfl) 22 _ rfl (#[.int .i64 n, .int .i64 m]) rfl ?_
  intro g2 z0 n0 r2 k
  simp only [Act.put, pu]
  have b2 := Nat.le_trans sb.size n0
  clear n0
  replace sb := sb.trans (k.below w.heap.size sb.size (by simp <;> omega))
  clear k
  refine pw_value (by rfl) (.bool false) (fun _ => rfl) ?_
  simp only [Act.put, pu]
  refine pw_nil ?_
  (repeat ((fail_if_success with_reducible refine rg ?_); go_step))
  refine wp_region_pw ?_
  refine pw_mv (by rfl) rfl rfl ?_
  simp only [Act.put, pu]
  refine pw_callB (by rfl) 7 _ _ rfl Try.func7 (by kernel_rfl) #[.slice ab L.length c] rfl _ (hS _ sb) ?_
  intro z1001 k
  simp only [Act.put, pu]
  replace r2 := k.row r2 (by simp <;> omega)
  replace sb := sb.trans (k.below w.heap.size sb.size (by simp <;> omega))
  clear k
  refine pw_value (by rfl) (.bool false) (exec_not _ _ rfl true rfl) ?_
  simp only [Act.put, pu]
  refine pw_nil ?_
  (repeat ((fail_if_success with_reducible refine rg ?_); go_step))
  refine wp_region_pw ?_
  refine pw_value (by rfl) (.pointer (some ⟨g2, 0, none⟩)) (exec_index 22 _ _ rfl g2 rfl 0 2 rfl (by decide) _ Try.underlying22 Try.sizeOf3) ?_
  simp only [Act.put, pu]
  refine pw_loadk (by rfl) 3 _ rfl _ (0) rfl r2.r (.int .i64 n) rfl Try.isAgg3 ?_
  simp only [Act.put, pu]
  refine pw_value (by rfl) (.pointer (some ⟨g2, 1, none⟩)) (exec_index 22 _ _ rfl g2 rfl 1 2 rfl (by decide) _ Try.underlying22 Try.sizeOf3) ?_
  simp only [Act.put, pu]
  refine pw_loadk (by rfl) 3 _ rfl _ (1) rfl r2.r (.int .i64 m) rfl Try.isAgg3 ?_
  simp only [Act.put, pu]
  refine pw_callE (by rfl) 9 _ _ rfl Try.func9 (by kernel_rfl) #[.int .i64 n, .int .i64 m] rfl (new_at (base := w.heap.size) sb.size h1 h7 h2 h4) ?_
  rintro _ z3004 ⟨g5, B, rfl, hA, _, hb⟩
  refine ⟨_, rfl, ?_⟩
  simp only [Act.put, pu]
  have k := Kept.ofBelow hb
  clear hb
  replace r2 := k.row r2 (by simp <;> omega)
  replace sb := sb.trans (k.below w.heap.size sb.size (by simp <;> omega))
  clear k
  refine pw_mv (by rfl) rfl rfl ?_
  simp only [Act.put, pu]
  refine pw_ext (by rfl) rfl rfl rfl ?_
  simp only [Act.put, pu]
  refine pw_ext (by rfl) rfl rfl rfl ?_
  simp only [Act.put, pu]
  refine pw_as (by rfl) rfl rfl ?_
  simp only [Act.put, pu]
  refine pw_as (by rfl) rfl rfl ?_
  simp only [Act.put, pu]
  refine pw_nil ?_
  clear hS
  (repeat ((fail_if_success with_reducible refine rg ?_); go_step))
  refine wp_region_pw ?_
  refine pw_value (by rfl) (.pointer (some ⟨g2, 0, none⟩)) (exec_index 22 _ _ rfl g2 rfl 0 2 rfl (by decide) _ Try.underlying22 Try.sizeOf3) ?_
  simp only [Act.put, pu]
  refine pw_loadk (by rfl) 3 _ rfl _ (0) rfl r2.r (.int .i64 n) rfl Try.isAgg3 ?_
  simp only [Act.put, pu]
  refine pw_value (by rfl) (.bool false) (exec_lt_b _ _ _ _ rfl (n) (1) rfl rfl false (decide_eq_false (by omega))) ?_
  simp only [Act.put, pu]
  refine pw_mv (by rfl) rfl rfl ?_
  simp only [Act.put, pu]
  refine pw_value (by rfl) (.pointer (some ⟨g2, 0, none⟩)) (exec_index 22 _ _ rfl g2 rfl 0 2 rfl (by decide) _ Try.underlying22 Try.sizeOf3) ?_
  simp only [Act.put, pu]
  refine pw_loadk (by rfl) 3 _ rfl _ (0) rfl r2.r (.int .i64 n) rfl Try.isAgg3 ?_
  simp only [Act.put, pu]
  refine pw_value (by rfl) (.bool false) (exec_gt_i _ _ _ _ rfl (n) (7) rfl rfl false (decide_eq_false (by omega))) ?_
  simp only [Act.put, pu]
  refine pw_pick (by rfl) false (v := .bool false) rfl rfl rfl ?_
  simp only [Act.put, pu]
  refine pw_mv (by rfl) rfl rfl ?_
  simp only [Act.put, pu]
  refine pw_value (by rfl) (.pointer (some ⟨g2, 1, none⟩)) (exec_index 22 _ _ rfl g2 rfl 1 2 rfl (by decide) _ Try.underlying22 Try.sizeOf3) ?_
  simp only [Act.put, pu]
  refine pw_loadk (by rfl) 3 _ rfl _ (1) rfl r2.r (.int .i64 m) rfl Try.isAgg3 ?_
  simp only [Act.put, pu]
  refine pw_value (by rfl) (.bool false) (exec_lt_b _ _ _ _ rfl (m) (1) rfl rfl false (decide_eq_false (by omega))) ?_
  simp only [Act.put, pu]
  refine pw_pick (by rfl) false (v := .bool false) rfl rfl rfl ?_
  simp only [Act.put, pu]
  refine pw_mv (by rfl) rfl rfl ?_
  simp only [Act.put, pu]
  refine pw_value (by rfl) (.pointer (some ⟨g2, 1, none⟩)) (exec_index 22 _ _ rfl g2 rfl 1 2 rfl (by decide) _ Try.underlying22 Try.sizeOf3) ?_
  simp only [Act.put, pu]
  refine pw_loadk (by rfl) 3 _ rfl _ (1) rfl r2.r (.int .i64 m) rfl Try.isAgg3 ?_
  simp only [Act.put, pu]
  refine pw_value (by rfl) (.bool false) (exec_gt_i _ _ _ _ rfl (m) (4) rfl rfl false (decide_eq_false (by omega))) ?_
  simp only [Act.put, pu]
  refine pw_pick (by rfl) false (v := .bool false) rfl rfl rfl ?_
  simp only [Act.put, pu]
  refine pw_nil ?_
  (repeat ((fail_if_success with_reducible refine rg ?_); go_step))
  refine wp_region_pw ?_
  refine pw_mv (by rfl) rfl rfl ?_
  simp only [Act.put, pu]
  refine pw_value (by rfl) (.bool false) (exec_neq_k .i64 _ _ _ _ rfl (0) (0) rfl rfl false (by rw [decide_eq_true (by omega)]; rfl)) ?_
  simp only [Act.put, pu]
  refine pw_mv (by rfl) rfl rfl ?_
  simp only [Act.put, pu]
  refine pw_mv (by rfl) rfl rfl ?_
  simp only [Act.put, pu]
  refine pw_value (by rfl) (.bool false) (exec_eql_nilp _ _ _ _ rfl (some ⟨g5, 0, none⟩) rfl rfl ptr_sp) ?_
  simp only [Act.put, pu]
  refine pw_pick (by rfl) false (v := .bool false) rfl rfl rfl ?_
  simp only [Act.put, pu]
  refine pw_nil ?_
  have sd := sbmk z3004
  (repeat ((fail_if_success with_reducible refine rg ?_); go_step))
  refine wp_region_pw ?_
  refine pw_value (by rfl) (.pointer (some ⟨g2, 0, none⟩)) (exec_index 22 _ _ rfl g2 rfl 0 2 rfl (by decide) _ Try.underlying22 Try.sizeOf3) ?_
  simp only [Act.put, pu]
  refine pw_loadk (by rfl) 3 _ rfl _ (0) rfl r2.r (.int .i64 n) rfl Try.isAgg3 ?_
  simp only [Act.put, pu]
  refine pw_value (by rfl) (.pointer (some ⟨g2, 1, none⟩)) (exec_index 22 _ _ rfl g2 rfl 1 2 rfl (by decide) _ Try.underlying22 Try.sizeOf3) ?_
  simp only [Act.put, pu]
  refine pw_loadk (by rfl) 3 _ rfl _ (1) rfl r2.r (.int .i64 m) rfl Try.isAgg3 ?_
  simp only [Act.put, pu]
  refine pw_value (by rfl) (.agg (sxC n m (.slice none 0 0) (.slice none 0 0))) (exec_buildv _ [(0, _), (1, _)] rfl [(0, .int .i64 n), (1, .int .i64 m)] rfl _ (built_rf0 n m)) ?_
  simp only [Act.put, pu]
  refine pw_new (by rfl) 33 rfl _ zero_rf ?_
  intro g7 z8005 n0 r7 k
  simp only [Act.put, pu]
  have d2x7 := Nat.lt_of_lt_of_le r2.lt n0
  have b7 := Nat.le_trans sd.size n0
  clear n0
  replace r2 := k.row r2 (by simp <;> omega)
  replace sd := sd.trans (k.below z3004.heap.size sd.size (by simp <;> omega))
  clear k
  refine pw_put (by rfl) 33 _ _ rfl _ rfl r7 (sxC n m (.slice none 0 0) (.slice none 0 0)) rfl (by rw [sxC_size]; exact size_rf) (by simp only [sxC_size]) (sx_one _ _ _ _ (by rfl) (by rfl)) ?_
  clear r7
  intro z8006 r7 k
  simp only [Act.put]
  replace r2 := k.row r2 (by simp <;> omega)
  replace sd := sd.trans (k.below z3004.heap.size sd.size (by simp <;> omega))
  clear k
  refine pw_nil ?_
  have hg7 : g7 ∉ B := fun h9 => by have := hA.lt _ h9; omega
  have b7w : w.heap.size ≤ g7 := Nat.le_trans sb.size b7
  replace hA := hA.below sd
  replace sb := below_on sb (Nat.le_refl _) sd
  clear sd r2
  (repeat ((fail_if_success with_reducible refine rg ?_); go_step))
  refine wp_region_pw ?_
  refine pw_value (by rfl) (.int .i64 0) (fun _ => rfl) ?_
  simp only [Act.put, pu]
  refine pw_nil ?_
  go_wp2_with fail
  go_loopg [4, 8, 9, 10, 11, 12, 13, 14, 15, 16, 17, 18, 19] L.length (fun x s4 s8 s9 s10 s11 s12 s13 s14 s15 s16 s17 s18 s19 wr => ∃ (i : Nat) (ks : List Ky) (U : Int → Int) (us : List Ky) (es : List Int) (B : List Nat) (a1 : Option Addr) (c1 : Nat) (a2 : Option Addr) (c2 : Nat), i + x = L.length ∧ s8 = .int .i64 i ∧ SpAt wr w.heap.size g5 n m ks U B ∧ Row wr g7 (sxC n m (.slice a1 us.length c1) (.slice a2 es.length c2)) 33 ∧ RfAt wr (g7 :: B) a1 a2 us es ∧ g7 ∉ B ∧ SRel ks U us es ∧ ks.length ≤ i ∧ us.length ≤ i ∧ Below w.heap.size w wr)
  case atStart => exact ⟨0, [], _, [], [], B, none, 0, none, 0, by omega, rfl, hA, r7, RfAt.nil _ _, hg7, SRel.nil, Nat.le_refl _, Nat.le_refl _, sb⟩
  case round =>
   clear sb r7 hA hg7
   obtain ⟨i, ks, U, us, es, B, a1, c1, a2, c2, hi, rfl, hA, r7, hR, hg7, hrel', hki, hui, sb⟩ := hrel
   have HV : Hid (SRel ks U us es) := hrel'
   have hel := hrel'.len
   clear hrel'
   cases gk with
   | zero =>
    have h10 : ¬ (i : Int) < (L.length : Int) := by omega
    (repeat ((fail_if_success with_reducible refine rg ?_); go_step))
    refine wp_region_pw ?_
    refine pw_mv (by rfl) rfl rfl ?_
    simp only [Act.put, pu]
    refine pw_mv (by rfl) rfl rfl ?_
    simp only [Act.put, pu]
    refine pw_value (by rfl) (.int .i64 (L.length : Nat)) (exec_len_s 23 _ rfl (ab) (L.length) (c) rfl sl_acs) ?_
    simp only [Act.put, pu]
    refine pw_value (by rfl) (.bool false) (exec_lt_b _ _ _ _ rfl ((i : Nat)) ((L.length : Nat)) rfl rfl false (decide_eq_false h10)) ?_
    simp only [Act.put, pu]
    refine pw_nil ?_
    have hk60 : ks.length ≤ 60 := by omega
    have hu60 : us.length ≤ 60 := by omega
    clear hi h10
    obtain ⟨gy, oy, by0, ty, _, _, _, _, hY, _, _, _⟩ := hR.out
    (repeat ((fail_if_success with_reducible refine rg ?_); go_step))
    refine wp_region_ewb2 (by kernel_rfl) [] 1 3 (by decide) [(0, false), (2, false), (1, true), (3, true), (4, true), (5, false), (6, false), (7, false), (8, false)] [(0, false), (2, false), (3, true), (1, true), (4, true), (5, false), (6, false), (7, false), (8, false)] (by kernel_rfl) (by kernel_rfl) (by kernel_rfl) ?_ ?_
    ·skip
     have or7 := r7
     have cb := below_self sb
     have osb := sb
     have ohA := hA
     have ohY := hY
     refine ew_mv (by rfl) rfl rfl ?_
     simp only [Act.put, pu]
     refine ew_loadm (by rfl) 33 _ rfl _ 0 rfl (fun _ hb => (or7.belowAll hb).r) _ (part_all _) _ Try.underlying33 rfl (by rw [sxC_size]; exact size_rf) ?_
     simp only [Act.put, pu]
     refine ew_callE (by rfl) 19 _ _ rfl Try.func19 (by kernel_rfl) #[.pointer (some ⟨g5, 0, none⟩)] rfl ?_
     intro wa1 hqb
     replace r7 := r7.belowAll hqb
     replace hA := hA.below hqb
     replace hY := hY.below hqb
     replace sb := below_on sb (Nat.le_refl _) hqb
     replace cb := below_on cb (Nat.le_refl _) hqb
     clear hqb
     refine (keys_at hA (by omega)).mono ?_
     rintro _ wb1 ⟨aK, cK, gK, csK, rfl, hE, hb⟩
     refine ⟨_, rfl, fun _ => below_on cb (Nat.le_refl _) hb, ?_⟩
     simp only [Act.put, pu]
     replace r7 := r7.belowAll hb
     replace hA := hA.below hb
     replace hY := hY.below hb
     replace sb := below_on sb (Nat.le_refl _) hb
     replace cb := below_on cb (Nat.le_refl _) hb
     clear hb
     refine ew_callE (by rfl) 20 _ _ rfl Try.func20 (by kernel_rfl) #[.agg (sxC n m (.slice a1 us.length c1) (.slice a2 es.length c2))] rfl ?_
     intro wa3 hqb
     replace r7 := r7.belowAll hqb
     replace hA := hA.below hqb
     replace hY := hY.below hqb
     replace hE := hE.below hqb
     replace sb := below_on sb (Nat.le_refl _) hqb
     replace cb := below_on cb (Nat.le_refl _) hqb
     clear hqb
     refine (rsrt_any n m _ a1 c1 us ks gy oy by0 ty _ (by omega) HV.out.srt HV.out.perm hY).mono ?_
     rintro _ wb3 ⟨gO, rfl, ⟨csO, hO⟩, hb⟩
     refine ⟨_, rfl, fun _ => below_on cb (Nat.le_refl _) hb, ?_⟩
     simp only [Act.put, pu]
     replace r7 := r7.belowAll hb
     replace hA := hA.below hb
     replace hY := hY.below hb
     replace hE := hE.below hb
     replace sb := below_on sb (Nat.le_refl _) hb
     replace cb := below_on cb (Nat.le_refl _) hb
     clear hb
     refine ew_callE (by rfl) 18 _ _ rfl Try.func18 (by kernel_rfl) #[.slice aK ks.length cK, .slice (some ⟨gO, 0, none⟩) ks.length ks.length] rfl ?_
     intro wa4 hqb
     replace r7 := r7.belowAll hqb
     replace hA := hA.below hqb
     replace hY := hY.below hqb
     replace hE := hE.below hqb
     replace hO := hO.below hqb
     replace sb := below_on sb (Nat.le_refl _) hqb
     replace cb := below_on cb (Nat.le_refl _) hqb
     clear hqb
     refine (rsame_self aK cK ks gK 0 csK _ (some ⟨gO, 0, none⟩) ks.length gO 0 csO _ _ (by omega) hE hO).mono ?_
     rintro _ wb4 ⟨rfl, hb⟩
     refine ⟨_, rfl, fun _ => below_on cb (Nat.le_refl _) hb, ?_⟩
     simp only [Act.put, pu]
     replace r7 := r7.belowAll hb
     replace hA := hA.below hb
     replace hY := hY.below hb
     replace hE := hE.below hb
     replace hO := hO.below hb
     replace sb := below_on sb (Nat.le_refl _) hb
     replace cb := below_on cb (Nat.le_refl _) hb
     clear hb
     refine ew_mv (by rfl) rfl rfl ?_
     simp only [Act.put, pu]
     refine ew_call (by rfl) 8 _ _ rfl Try.func8 (by kernel_rfl) #[] rfl _ (fun w _ => awake_any w) ?_
     simp only [Act.put, pu]
     refine ew_pick (by rfl) true (v := .bool true) rfl rfl rfl ?_
     simp only [Act.put, pu]
     refine ew_as (by rfl) rfl rfl ?_
     simp only [Act.put, pu]
     refine ew_nil ?_
     intro wz hqb
     replace r7 := r7.belowAll hqb
     replace hA := hA.below hqb
     replace hY := hY.below hqb
     replace hE := hE.below hqb
     replace hO := hO.below hqb
     replace sb := below_on sb (Nat.le_refl _) hqb
     clear hqb cb osb ohA ohY or7
     go_wp2
     go_ret
     exact ⟨rfl, sb⟩
    ·skip
     have or7 := r7
     have cb := below_self sb
     have osb := sb
     have ohA := hA
     have ohY := hY
     refine ew_mv (by rfl) rfl rfl ?_
     simp only [Act.put, pu]
     refine ew_loadm (by rfl) 33 _ rfl _ 0 rfl (fun _ hb => (or7.belowAll hb).r) _ (part_all _) _ Try.underlying33 rfl (by rw [sxC_size]; exact size_rf) ?_
     simp only [Act.put, pu]
     refine ew_callE (by rfl) 20 _ _ rfl Try.func20 (by kernel_rfl) #[.agg (sxC n m (.slice a1 us.length c1) (.slice a2 es.length c2))] rfl ?_
     intro wa3 hqb
     replace r7 := r7.belowAll hqb
     replace hA := hA.below hqb
     replace hY := hY.below hqb
     replace sb := below_on sb (Nat.le_refl _) hqb
     replace cb := below_on cb (Nat.le_refl _) hqb
     clear hqb
     refine (rsrt_any n m _ a1 c1 us ks gy oy by0 ty _ (by omega) HV.out.srt HV.out.perm hY).mono ?_
     rintro _ wb3 ⟨gO, rfl, ⟨csO, hO⟩, hb⟩
     refine ⟨_, rfl, fun _ => below_on cb (Nat.le_refl _) hb, ?_⟩
     simp only [Act.put, pu]
     replace r7 := r7.belowAll hb
     replace hA := hA.below hb
     replace hY := hY.below hb
     replace sb := below_on sb (Nat.le_refl _) hb
     replace cb := below_on cb (Nat.le_refl _) hb
     clear hb
     refine ew_callE (by rfl) 19 _ _ rfl Try.func19 (by kernel_rfl) #[.pointer (some ⟨g5, 0, none⟩)] rfl ?_
     intro wa1 hqb
     replace r7 := r7.belowAll hqb
     replace hA := hA.below hqb
     replace hY := hY.below hqb
     replace hO := hO.below hqb
     replace sb := below_on sb (Nat.le_refl _) hqb
     replace cb := below_on cb (Nat.le_refl _) hqb
     clear hqb
     refine (keys_at hA (by omega)).mono ?_
     rintro _ wb1 ⟨aK, cK, gK, csK, rfl, hE, hb⟩
     refine ⟨_, rfl, fun _ => below_on cb (Nat.le_refl _) hb, ?_⟩
     simp only [Act.put, pu]
     replace r7 := r7.belowAll hb
     replace hA := hA.below hb
     replace hY := hY.below hb
     replace hO := hO.below hb
     replace sb := below_on sb (Nat.le_refl _) hb
     replace cb := below_on cb (Nat.le_refl _) hb
     clear hb
     refine ew_callE (by rfl) 18 _ _ rfl Try.func18 (by kernel_rfl) #[.slice aK ks.length cK, .slice (some ⟨gO, 0, none⟩) ks.length ks.length] rfl ?_
     intro wa4 hqb
     replace r7 := r7.belowAll hqb
     replace hA := hA.below hqb
     replace hY := hY.below hqb
     replace hO := hO.below hqb
     replace hE := hE.below hqb
     replace sb := below_on sb (Nat.le_refl _) hqb
     replace cb := below_on cb (Nat.le_refl _) hqb
     clear hqb
     refine (rsame_self aK cK ks gK 0 csK _ (some ⟨gO, 0, none⟩) ks.length gO 0 csO _ _ (by omega) hE hO).mono ?_
     rintro _ wb4 ⟨rfl, hb⟩
     refine ⟨_, rfl, fun _ => below_on cb (Nat.le_refl _) hb, ?_⟩
     simp only [Act.put, pu]
     replace r7 := r7.belowAll hb
     replace hA := hA.below hb
     replace hY := hY.below hb
     replace hO := hO.below hb
     replace hE := hE.below hb
     replace sb := below_on sb (Nat.le_refl _) hb
     replace cb := below_on cb (Nat.le_refl _) hb
     clear hb
     refine ew_mv (by rfl) rfl rfl ?_
     simp only [Act.put, pu]
     refine ew_call (by rfl) 8 _ _ rfl Try.func8 (by kernel_rfl) #[] rfl _ (fun w _ => awake_any w) ?_
     simp only [Act.put, pu]
     refine ew_pick (by rfl) true (v := .bool true) rfl rfl rfl ?_
     simp only [Act.put, pu]
     refine ew_as (by rfl) rfl rfl ?_
     simp only [Act.put, pu]
     refine ew_nil ?_
     intro wz hqb
     replace r7 := r7.belowAll hqb
     replace hA := hA.below hqb
     replace hY := hY.below hqb
     replace hO := hO.below hqb
     replace hE := hE.below hqb
     replace sb := below_on sb (Nat.le_refl _) hqb
     clear hqb cb osb ohA ohY or7
     go_wp2
     go_ret
     exact ⟨rfl, sb⟩
   | succ y =>
    have hlt : i < L.length := by omega
    have h10 : (i : Int) < (L.length : Int) := by omega
    obtain ⟨x, hxg, hx⟩ := ac_at hlt
    have hx40 := HD40.out i hlt
    rw [hxg] at hx40
    have HXg : Hid (acC L i = acA x) := hx
    have hS0 : ∀ b ∈ g7 :: B, b < wr.heap.size := fun b hb => by
     rcases List.mem_cons.1 hb with rfl | hb
     ·exact r7.lt
     ·exact hA.lt b hb
    have hbo := both_open (n := n) (m := m) HV.out x.1 x.2
    have hv2 := HV.out.opn n m x.1 x.2
    have hlk := opK_len (n := n) (m := m) (l := ks) (u := U x.2) (x := x.1) (e := x.2)
    have hlu := opL_len (n := n) (m := m) (us := us) (es := es) (x := x.1) (e := x.2)
    have hRO := fun (S : List Nat) wa (h : RfAt wa S a1 a2 us es) (hs : ∀ b ∈ S, b < wa.heap.size) => ropn_any n m a1 c1 us a2 c2 es S x.1 x.2 wa h hs (by omega) (by omega) (by omega) h1 h7 h2 h4
    have hPO := fun wa (h : SpAt wa w.heap.size g5 n m ks U B) (hb : w.heap.size ≤ wa.heap.size) => opn_any h hb x.1 x.2 (by omega) (by omega)
    rw [hbo.1, hbo.2.1, hbo.2.2] at hRO
    obtain ⟨PP, hPP⟩ : ∃ PP, opP n m ks (U x.2) x.1 x.2 = PP := ⟨_, rfl⟩
    obtain ⟨FF, hFF⟩ : ∃ FF, opF n m ks (U x.2) x.1 x.2 = FF := ⟨_, rfl⟩
    obtain ⟨EE, hEE⟩ : ∃ EE, opE n m ks (U x.2) x.1 x.2 = EE := ⟨_, rfl⟩
    obtain ⟨ks2, hk2⟩ : ∃ ks2, opK n m ks (U x.2) x.1 x.2 = ks2 := ⟨_, rfl⟩
    obtain ⟨U2, hU2⟩ : ∃ U2, opU n m ks U x.1 x.2 = U2 := ⟨_, rfl⟩
    obtain ⟨us2, hu2⟩ : ∃ us2, opL n m us es x.1 x.2 = us2 := ⟨_, rfl⟩
    obtain ⟨es2, he2⟩ : ∃ es2, opS n m us es x.1 x.2 = es2 := ⟨_, rfl⟩
    rw [hPP, hFF, hEE, hu2, he2] at hRO
    rw [hPP, hFF, hEE, hk2, hU2] at hPO
    rw [hk2, hU2, hu2, he2] at hv2
    rw [hk2] at hlk
    rw [hu2] at hlu
    have HV2 : Hid (SRel ks2 U2 us2 es2) := hv2
    have hel2 := hv2.len
    have hFF2 : (FF != FF) = false := by cases FF <;> rfl
    have hki2 : ks2.length ≤ i + 1 := by omega
    have hui2 : us2.length ≤ i + 1 := by omega
    have hfd := fd_perm hv2.perm x.1
    clear hbo hPP hFF hEE hk2 hU2 hu2 he2 hlk hlu hv2 HV hxg hx
    obtain h0 | ⟨rfl, rW, hbw⟩ := HB.out.at'
    ·exact absurd h0 (by omega)
    obtain ⟨hbk, hbe⟩ := ac_part HXg.out (hbw i hlt)
    clear hbw
    (repeat ((fail_if_success with_reducible refine rg ?_); go_step))
    refine wp_region_pw ?_
    refine pw_mv (by rfl) rfl rfl ?_
    simp only [Act.put, pu]
    refine pw_mv (by rfl) rfl rfl ?_
    simp only [Act.put, pu]
    refine pw_value (by rfl) (.int .i64 (L.length : Nat)) (exec_len_s 23 _ rfl (some ⟨gb, ob, none⟩) (L.length) (c) rfl sl_acs) ?_
    simp only [Act.put, pu]
    refine pw_value (by rfl) (.bool true) (exec_lt_b _ _ _ _ rfl ((i : Nat)) ((L.length : Nat)) rfl rfl true (decide_eq_true h10)) ?_
    simp only [Act.put, pu]
    refine pw_nil ?_
    (repeat ((fail_if_success with_reducible refine rg ?_); go_step))
    refine wp_region_otb (by kernel_rfl) [] (.node 11 17 (.leaf [(0, false), (1, false), (2, false), (3, false), (4, false), (5, false), (6, false), (7, false), (8, false), (9, false), (10, false), (11, true), (12, false), (13, false), (14, false), (15, false), (16, false), (17, true), (18, true), (19, false), (20, false), (21, false)]) (.leaf [(0, false), (1, false), (2, false), (3, false), (4, false), (5, false), (6, false), (7, false), (8, false), (9, false), (10, false), (17, true), (11, true), (12, false), (13, false), (14, false), (15, false), (16, false), (18, true), (19, false), (20, false), (21, false)])) ?_ (by kernel_rfl)
    refine ⟨?_, ?_⟩
    ·show EW _ _ _ _ _ _ _ _
     have cb := Below.refl wr.heap.size wr
     refine ew_loadm (by rfl) 33 _ rfl _ 0 rfl (fun _ hb => (r7.belowAll hb).r) (sxC n m (.slice a1 us.length c1) (.slice a2 es.length c2)) (part_all _) _ Try.underlying33 rfl size_rf ?_
     simp only [Act.put, pu]
     refine ew_mv (by rfl) rfl rfl ?_
     simp only [Act.put, pu]
     refine ew_mv (by rfl) rfl rfl ?_
     simp only [Act.put, pu]
     refine ew_value (by rfl) (.pointer (some ⟨gb, ob + i * 2, none⟩)) ((exec_index_s 23 _ _ rfl (gb) (ob) (L.length) (c) rfl (i) rfl (hlt) _ Try.underlying23 2 Try.sizeOf37)) ?_
     simp only [Act.put, pu]
     refine ew_value (by rfl) (.pointer (some ⟨gb, ob + i * 2, none⟩)) (exec_field 37 _ 0 rfl gb (ob + i * 2) rfl _ Try.underlying37 _ rfl 0 Try.sizeOf9) ?_
     simp only [Act.put, pu]
     refine ew_loadk (by rfl) 9 _ rfl _ (ob + i * 2) rfl (fun _ hb => rW.belowAll (below_on sb (Nat.le_refl _) hb)) (.string ⟨x.1.toArray⟩) hbk Try.isAgg9 ?_
     simp only [Act.put, pu]
     refine ew_mv (by rfl) rfl rfl ?_
     simp only [Act.put, pu]
     refine ew_mv (by rfl) rfl rfl ?_
     simp only [Act.put, pu]
     refine ew_value (by rfl) (.pointer (some ⟨gb, ob + i * 2, none⟩)) ((exec_index_s 23 _ _ rfl (gb) (ob) (L.length) (c) rfl (i) rfl (hlt) _ Try.underlying23 2 Try.sizeOf37)) ?_
     simp only [Act.put, pu]
     refine ew_value (by rfl) (.pointer (some ⟨gb, ob + i * 2 + 1, none⟩)) (exec_field 37 _ 1 rfl gb (ob + i * 2) rfl _ Try.underlying37 _ rfl 0 Try.sizeOf3) ?_
     simp only [Act.put, pu]
     refine ew_loadk (by rfl) 3 _ rfl _ (ob + i * 2 + 1) rfl (fun _ hb => rW.belowAll (below_on sb (Nat.le_refl _) hb)) (.int .i64 x.2) hbe Try.isAgg3 ?_
     simp only [Act.put, pu]
     refine ew_callE (by rfl) 10 _ _ rfl Try.func10 (by kernel_rfl) #[.agg (sxC n m (.slice a1 us.length c1) (.slice a2 es.length c2)), .string ⟨x.1.toArray⟩, .int .i64 x.2] rfl ?_
     intro wa hq1
     replace cb := below_on cb (Nat.le_refl _) hq1
     refine (hRO (g7 :: B) wa (hR.below cb) (fun b hb => Nat.lt_of_lt_of_le (hS0 b hb) cb.size)).mono ?_
     rintro _ wb ⟨c3, c4, a3, a4, rfl, hN, hb1⟩
     replace cb := below_on cb (Nat.le_refl _) hb1
     refine ⟨_, rfl, fun _ => cb, ?_⟩
     simp only [Act.put, pu]
     refine ew_mv (by rfl) rfl rfl ?_
     simp only [Act.put, pu]
     refine ew_ext (by rfl) rfl rfl rfl ?_
     simp only [Act.put, pu]
     refine ew_ext (by rfl) rfl rfl rfl ?_
     simp only [Act.put, pu]
     refine ew_ext (by rfl) rfl rfl rfl ?_
     simp only [Act.put, pu]
     refine ew_ext (by rfl) rfl rfl rfl ?_
     simp only [Act.put, pu]
     refine ew_newr (by rfl) 33 rfl _ zero_rf ?_
     intro wc hq2 g9 wd n9 r9 hb2
     replace hN := (hN.below hq2).on (Kept.ofBelow hb2) (S2 := g9 :: g7 :: B) (by simp) (fun b hb => (List.mem_cons.1 hb).elim (fun e => .inr (e ▸ n9)) .inl)
     replace cb := below_on cb (Nat.le_refl _) hq2
     have q9 := Nat.le_trans cb.size n9
     replace cb := below_on cb (Nat.le_refl _) hb2
     refine ⟨fun _ => cb, ?_⟩
     simp only [Act.put, pu]
     refine ew_putr (by rfl) 33 _ _ rfl g9 rfl r9 (sxC n m (.slice a3 us2.length c3) (.slice a4 es2.length c4)) rfl size_rf rfl (sx_one _ _ _ _ rfl rfl) ?_
     intro we hq3 wf r9n k
     replace hN := (hN.below hq3).on k (S2 := g9 :: g7 :: B) (by simp) (fun b hb => .inl hb)
     replace cb := (below_on cb (Nat.le_refl _) hq3).trans (k.below _ (Nat.le_trans cb.size hq3.size) (by simp; exact q9))
     refine ⟨fun _ => cb, ?_⟩
     simp only [Act.put]
     clear r9 k
     refine ew_as (by rfl) rfl rfl ?_
     simp only [Act.put, pu]
     refine ew_as (by rfl) rfl rfl ?_
     simp only [Act.put, pu]
     refine ew_as (by rfl) rfl rfl ?_
     simp only [Act.put, pu]
     refine ew_nil ?_
     intro wz hq4
     replace hN := hN.below hq4
     have r9 := r9n.belowAll hq4
     replace cb := below_on cb (Nat.le_refl _) hq4
     have q9w := q9
     clear q9 hq1 hq2 hq3 hq4 hb1 hb2 n9 r9n
     replace r7 := r7.belowAll cb
     replace hA := hA.belowAll cb
     replace sb := below_on sb (Nat.le_refl _) cb
     have d97 : g9 ≠ g7 := fun e => by have := hS0 g7 (by simp); omega
     have h9B : g9 ∉ B := fun h => by have := hS0 g9 (List.mem_cons_of_mem _ h); omega
     have hlo := hA.lo
     have c7 := r7.lt
     have c9 := r9.lt
     clear hR hS0 hRO q9w cb
     (repeat ((fail_if_success with_reducible refine rg ?_); go_step))
     refine wp_region_ew (by kernel_rfl) (fun z => Below w.heap.size w z) (fun _ _ u1 u2 => below_on u1 (Nat.le_refl _) u2) sb [] [(0, false), (1, false), (2, false), (3, false), (4, false), (5, false), (6, false), (7, false), (8, false), (9, false), (10, false), (11, true), (12, false), (13, false), (14, false), (15, false), (16, false), (17, false), (18, false)] ?_ (by kernel_rfl)
     refine ew_mv (by rfl) rfl rfl ?_
     simp only [Act.put, pu]
     refine ew_mv (by rfl) rfl rfl ?_
     simp only [Act.put, pu]
     refine ew_mv (by rfl) rfl rfl ?_
     simp only [Act.put, pu]
     refine ew_value (by rfl) (.pointer (some ⟨gb, ob + i * 2, none⟩)) ((exec_index_s 23 _ _ rfl (gb) (ob) (L.length) (c) rfl (i) rfl (hlt) _ Try.underlying23 2 Try.sizeOf37)) ?_
     simp only [Act.put, pu]
     refine ew_value (by rfl) (.pointer (some ⟨gb, ob + i * 2, none⟩)) (exec_field 37 _ 0 rfl gb (ob + i * 2) rfl _ Try.underlying37 _ rfl 0 Try.sizeOf9) ?_
     simp only [Act.put, pu]
     refine ew_loadk (by rfl) 9 _ rfl _ (ob + i * 2) rfl (fun _ hb => rW.belowAll hb) (.string ⟨x.1.toArray⟩) hbk Try.isAgg9 ?_
     simp only [Act.put, pu]
     refine ew_mv (by rfl) rfl rfl ?_
     simp only [Act.put, pu]
     refine ew_mv (by rfl) rfl rfl ?_
     simp only [Act.put, pu]
     refine ew_value (by rfl) (.pointer (some ⟨gb, ob + i * 2, none⟩)) ((exec_index_s 23 _ _ rfl (gb) (ob) (L.length) (c) rfl (i) rfl (hlt) _ Try.underlying23 2 Try.sizeOf37)) ?_
     simp only [Act.put, pu]
     refine ew_value (by rfl) (.pointer (some ⟨gb, ob + i * 2 + 1, none⟩)) (exec_field 37 _ 1 rfl gb (ob + i * 2) rfl _ Try.underlying37 _ rfl 0 Try.sizeOf3) ?_
     simp only [Act.put, pu]
     refine ew_loadk (by rfl) 3 _ rfl _ (ob + i * 2 + 1) rfl (fun _ hb => rW.belowAll hb) (.int .i64 x.2) hbe Try.isAgg3 ?_
     simp only [Act.put, pu]
     refine ew_callE (by rfl) 11 _ _ rfl Try.func11 (by kernel_rfl) #[.pointer (some ⟨g5, 0, none⟩), .string ⟨x.1.toArray⟩, .int .i64 x.2] rfl ?_
     intro wu hqu
     refine (hPO wu (hA.belowAll hqu) (Nat.le_trans sb.size hqu.size)).mono ?_
     rintro _ wv ⟨B2, rfl, hA2, k, hB2⟩
     replace r7 := k.row (r7.belowAll hqu) hg7
     replace r9 := k.row (r9.belowAll hqu) h9B
     replace hN := (hN.below hqu).on k (S2 := g9 :: g7 :: B2) (fun b hb => List.mem_cons_of_mem _ (List.mem_cons_of_mem _ hb)) (fun b hb => by
      rcases List.mem_cons.1 hb with rfl | hb
      ·exact .inl (by simp)
      ·rcases List.mem_cons.1 hb with rfl | hb
       ·exact .inl (by simp)
       ·exact (hB2 b hb).imp (fun h => List.mem_cons_of_mem _ (List.mem_cons_of_mem _ h)) id)
     have h7B : g7 ∉ B2 := fun h => (hB2 _ h).elim hg7 fun h => by have := hqu.size; omega
     have h9B2 : g9 ∉ B2 := fun h => (hB2 _ h).elim h9B fun h => by have := hqu.size; omega
     replace sb := (below_on sb (Nat.le_refl _) hqu).trans (k.below _ (Nat.le_trans sb.size hqu.size) hlo)
     refine ⟨_, rfl, fun _ => sb, ?_⟩
     simp only [Act.put, pu]
     clear hA k hB2 hlo hqu hPO hg7 h9B c7 c9
     refine ew_mv (by rfl) rfl rfl ?_
     simp only [Act.put, pu]
     refine ew_ext (by rfl) rfl rfl rfl ?_
     simp only [Act.put, pu]
     refine ew_ext (by rfl) rfl rfl rfl ?_
     simp only [Act.put, pu]
     refine ew_ext (by rfl) rfl rfl rfl ?_
     simp only [Act.put, pu]
     refine ew_as (by rfl) rfl rfl ?_
     simp only [Act.put, pu]
     refine ew_as (by rfl) rfl rfl ?_
     simp only [Act.put, pu]
     refine ew_as (by rfl) rfl rfl ?_
     simp only [Act.put, pu]
     refine ew_nil ?_
     intro wz2 hq5
     replace r7 := r7.belowAll hq5
     replace r9 := r9.belowAll hq5
     replace hA2 := hA2.belowAll hq5
     replace hN := hN.belowAll hq5
     replace sb := below_on sb (Nat.le_refl _) hq5
     clear hq5
     (repeat ((fail_if_success with_reducible refine rg ?_); go_step))
     refine wp_region_pw ?_
     refine pw_mv (by rfl) rfl rfl ?_
     simp only [Act.put, pu]
     refine pw_mv (by rfl) rfl rfl ?_
     simp only [Act.put, pu]
     refine pw_value (by rfl) (.bool false) (exec_neq_k .i64 _ _ _ _ rfl ((PP : Nat)) ((PP : Nat)) rfl rfl false (by rw [decide_eq_true rfl]; rfl)) ?_
     simp only [Act.put, pu]
     refine pw_mv (by rfl) rfl rfl ?_
     simp only [Act.put, pu]
     refine pw_mv (by rfl) rfl rfl ?_
     simp only [Act.put, pu]
     refine pw_mv (by rfl) rfl rfl ?_
     simp only [Act.put, pu]
     refine pw_value (by rfl) (.bool false) (x_nb _ _ _ _ rfl FF FF rfl rfl Try.underlying4 false hFF2) ?_
     simp only [Act.put, pu]
     refine pw_pick (by rfl) false (v := .bool false) rfl rfl rfl ?_
     simp only [Act.put, pu]
     refine pw_mv (by rfl) rfl rfl ?_
     simp only [Act.put, pu]
     refine pw_mv (by rfl) rfl rfl ?_
     simp only [Act.put, pu]
     refine pw_mv (by rfl) rfl rfl ?_
     simp only [Act.put, pu]
     refine pw_value (by rfl) (.bool false) (exec_neq_k .i64 _ _ _ _ rfl (EE) (EE) rfl rfl false (by rw [decide_eq_true rfl]; rfl)) ?_
     simp only [Act.put, pu]
     refine pw_pick (by rfl) false (v := .bool false) rfl rfl rfl ?_
     simp only [Act.put, pu]
     refine pw_nil ?_
     have sk : Kept [g7] wz2 wz2 := Kept.refl _ _
     (repeat ((fail_if_success with_reducible refine rg ?_); go_step))
     refine wp_region_pw ?_
     refine pw_loadm (by rfl) 33 _ rfl _ 0 rfl r9.r _ (part_all _) _ Try.underlying33 rfl (by rw [sxC_size]; exact size_rf) ?_
     simp only [Act.put, pu]
     refine pw_put (by rfl) 33 _ _ rfl _ rfl r7 (sxC n m (.slice a3 us2.length c3) (.slice a4 es2.length c4)) rfl (by rw [sxC_size]; exact size_rf) (by simp only [sxC_size]) (sx_one _ _ _ _ (by rfl) (by rfl)) ?_
     clear r7
     intro z16001 r7 k
     simp only [Act.put]
     replace r9 := k.row r9 (by simp <;> omega)
     replace sk := sk.trans k (by simp <;> omega)
     clear k
     refine pw_nil ?_
     replace hA2 := hA2.on sk (fun b hb h9 => h7B (List.mem_singleton.1 h9 ▸ hb))
     replace hN := (hN.on sk (S2 := g9 :: g7 :: B2) (by simp) (fun b hb => .inl hb)).weak (S2 := g7 :: B2) (fun b hb => List.mem_cons_of_mem _ hb)
     replace sb := sb.trans (sk.below _ sb.size (by simp; exact b7w))
     clear sk r9 d97 h9B2
     obtain h0 | ⟨_, rB, _⟩ := (HB.out.below sb).at'
     ·exact absurd h0 (by omega)
     have hf2 := fnd_at hA2 x.1 (by omega)
     (repeat ((fail_if_success with_reducible refine rg ?_); go_step))
     refine wp_region_pw ?_
     refine pw_mv (by rfl) rfl rfl ?_
     simp only [Act.put, pu]
     refine pw_mv (by rfl) rfl rfl ?_
     simp only [Act.put, pu]
     refine pw_mv (by rfl) rfl rfl ?_
     simp only [Act.put, pu]
     refine pw_value (by rfl) (.pointer (some ⟨gb, ob + i * 2, none⟩)) ((exec_index_s 23 _ _ rfl (gb) (ob) (L.length) (c) rfl (i) rfl (hlt) _ Try.underlying23 2 Try.sizeOf37)) ?_
     simp only [Act.put, pu]
     refine pw_value (by rfl) (.pointer (some ⟨gb, ob + i * 2, none⟩)) (exec_field 37 _ 0 rfl gb (ob + i * 2) rfl _ Try.underlying37 _ rfl 0 Try.sizeOf9) ?_
     simp only [Act.put, pu]
     refine pw_loadk (by rfl) 9 _ rfl _ (ob + i * 2) rfl rB (.string ⟨x.1.toArray⟩) hbk Try.isAgg9 ?_
     simp only [Act.put, pu]
     refine pw_callB (by rfl) 12 _ _ rfl Try.func12 (by kernel_rfl) #[.pointer (some ⟨g5, 0, none⟩), .string ⟨x.1.toArray⟩] rfl _ (hf2) ?_
     intro z17006 k
     simp only [Act.put, pu]
     replace r7 := k.row r7 (by simp <;> omega)
     replace hA2 := hA2.below k.nil
     replace hN := hN.below k.nil
     replace sb := sb.trans (k.below w.heap.size sb.size (by simp <;> omega))
     clear k
     refine pw_mv (by rfl) rfl rfl ?_
     simp only [Act.put, pu]
     refine pw_ext (by rfl) rfl rfl rfl ?_
     simp only [Act.put, pu]
     refine pw_ext (by rfl) rfl rfl rfl ?_
     simp only [Act.put, pu]
     refine pw_as (by rfl) rfl rfl ?_
     simp only [Act.put, pu]
     refine pw_as (by rfl) rfl rfl ?_
     simp only [Act.put, pu]
     refine pw_nil ?_
     clear rB
     obtain h0 | ⟨_, rB, _⟩ := (HB.out.below sb).at'
     ·exact absurd h0 (by omega)
     have hf3 := fun w' (hb : Below _ _ w') => rfnd_at (hN.below hb) n m c3 c4 x.1 (by omega)
     rw [hfd.1, hfd.2] at hf3
     (repeat ((fail_if_success with_reducible refine rg ?_); go_step))
     refine wp_region_qw (by kernel_rfl) (by kernel_rfl) ?_
     refine qw_loadm (by rfl) 33 _ rfl _ (0) rfl r7 ((sxC n m (.slice a3 us2.length c3) (.slice a4 es2.length c4))) (part_all _) _ Try.underlying33 rfl (by rw [sxC_size]; exact size_rf) ?_
     simp only [Act.put, pu]
     refine qw_move (by rfl) rfl rfl ?_
     simp only [Act.put, pu]
     refine qw_move (by rfl) rfl rfl ?_
     simp only [Act.put, pu]
     refine qw_value (by rfl) (.pointer (some ⟨gb, ob + i * 2, none⟩)) ((exec_index_s 23 _ _ rfl (gb) (ob) (L.length) (c) rfl (i) rfl (hlt) _ Try.underlying23 2 Try.sizeOf37)) ?_
     simp only [Act.put, pu]
     refine qw_value (by rfl) (.pointer (some ⟨gb, ob + i * 2, none⟩)) (exec_field 37 _ 0 rfl gb (ob + i * 2) rfl _ Try.underlying37 _ rfl 0 Try.sizeOf9) ?_
     simp only [Act.put, pu]
     refine qw_loadcR (by rfl) 9 _ rfl _ (ob + i * 2) rfl rB (.string ⟨x.1.toArray⟩) hbk Try.isAgg9 ?_
     simp only [Act.put, pu]
     refine qw_callK (by rfl) 13 _ _ rfl Try.func13 (by kernel_rfl) #[.agg (sxC n m (.slice a3 us2.length c3) (.slice a4 es2.length c4)), .string ⟨x.1.toArray⟩] rfl _ (fun w' hb => hf3 w' hb) ?_
     simp only [Act.put, pu]
     refine qw_move (by rfl) rfl rfl ?_
     simp only [Act.put, pu]
     refine qw_ext (by rfl) rfl rfl rfl ?_
     simp only [Act.put, pu]
     refine qw_ext (by rfl) rfl rfl rfl ?_
     simp only [Act.put, pu]
     refine qw_asg (by rfl) rfl rfl ?_
     simp only [Act.put, pu]
     refine qw_asg (by rfl) rfl rfl ?_
     simp only [Act.put, pu]
     refine qw_nil ?_
     intro w9 hqb
     replace r7 := r7.belowAll hqb
     replace hA2 := hA2.belowAll hqb
     replace hN := hN.belowAll hqb
     replace sb := below_on sb (Nat.le_refl _) hqb
     clear hqb
     clear rB
     obtain h0 | ⟨_, rB, _⟩ := (HB.out.below sb).at'
     ·exact absurd h0 (by omega)
     have hu3 := fun w' (hb : Below _ _ w') => rusd_at (hN.below hb) n m c3 c4 x.2 (by omega)
     rw [← HV2.out.used x.2] at hu3
     have hFB3 : (fdB ks2 x.1 != fdB ks2 x.1) = false := by cases fdB ks2 x.1 <;> rfl
     (repeat ((fail_if_success with_reducible refine rg ?_); go_step))
     refine wp_region_qw (by kernel_rfl) (by kernel_rfl) ?_
     refine qw_move (by rfl) rfl rfl ?_
     simp only [Act.put, pu]
     refine qw_move (by rfl) rfl rfl ?_
     simp only [Act.put, pu]
     refine qw_value (by rfl) (.bool false) (exec_neq_k .i64 _ _ _ _ rfl ((fdP ks2 x.1 : Nat)) ((fdP ks2 x.1 : Nat)) rfl rfl false (by rw [decide_eq_true rfl]; rfl)) ?_
     simp only [Act.put, pu]
     refine qw_move (by rfl) rfl rfl ?_
     simp only [Act.put, pu]
     refine qw_move (by rfl) rfl rfl ?_
     simp only [Act.put, pu]
     refine qw_move (by rfl) rfl rfl ?_
     simp only [Act.put, pu]
     refine qw_value (by rfl) (.bool false) (x_nb _ _ _ _ rfl (fdB ks2 x.1) (fdB ks2 x.1) rfl rfl Try.underlying4 false hFB3) ?_
     simp only [Act.put, pu]
     refine qw_pick false (v := .bool false) (by rfl) rfl rfl rfl ?_
     simp only [Act.put, pu]
     refine qw_move (by rfl) rfl rfl ?_
     simp only [Act.put, pu]
     refine qw_move (by rfl) rfl rfl ?_
     simp only [Act.put, pu]
     refine qw_move (by rfl) rfl rfl ?_
     simp only [Act.put, pu]
     refine qw_move (by rfl) rfl rfl ?_
     simp only [Act.put, pu]
     refine qw_value (by rfl) (.pointer (some ⟨gb, ob + i * 2, none⟩)) ((exec_index_s 23 _ _ rfl (gb) (ob) (L.length) (c) rfl (i) rfl (hlt) _ Try.underlying23 2 Try.sizeOf37)) ?_
     simp only [Act.put, pu]
     refine qw_value (by rfl) (.pointer (some ⟨gb, ob + i * 2 + 1, none⟩)) (exec_field 37 _ 1 rfl gb (ob + i * 2) rfl _ Try.underlying37 _ rfl 0 Try.sizeOf3) ?_
     simp only [Act.put, pu]
     refine qw_loadcR (by rfl) 3 _ rfl _ (ob + i * 2 + 1) rfl rB (.int .i64 x.2) hbe Try.isAgg3 ?_
     simp only [Act.put, pu]
     refine qw_callK (by rfl) 14 _ _ rfl Try.func14 (by kernel_rfl) #[.pointer (some ⟨g5, 0, none⟩), .int .i64 x.2] rfl _ (fun w' hb => usd_at (hA2.below hb) x.2) ?_
     simp only [Act.put, pu]
     refine qw_loadm (by rfl) 33 _ rfl _ (0) rfl r7 ((sxC n m (.slice a3 us2.length c3) (.slice a4 es2.length c4))) (part_all _) _ Try.underlying33 rfl (by rw [sxC_size]; exact size_rf) ?_
     simp only [Act.put, pu]
     refine qw_move (by rfl) rfl rfl ?_
     simp only [Act.put, pu]
     refine qw_move (by rfl) rfl rfl ?_
     simp only [Act.put, pu]
     refine qw_value (by rfl) (.pointer (some ⟨gb, ob + i * 2, none⟩)) ((exec_index_s 23 _ _ rfl (gb) (ob) (L.length) (c) rfl (i) rfl (hlt) _ Try.underlying23 2 Try.sizeOf37)) ?_
     simp only [Act.put, pu]
     refine qw_value (by rfl) (.pointer (some ⟨gb, ob + i * 2 + 1, none⟩)) (exec_field 37 _ 1 rfl gb (ob + i * 2) rfl _ Try.underlying37 _ rfl 0 Try.sizeOf3) ?_
     simp only [Act.put, pu]
     refine qw_loadcR (by rfl) 3 _ rfl _ (ob + i * 2 + 1) rfl rB (.int .i64 x.2) hbe Try.isAgg3 ?_
     simp only [Act.put, pu]
     refine qw_callK (by rfl) 15 _ _ rfl Try.func15 (by kernel_rfl) #[.agg (sxC n m (.slice a3 us2.length c3) (.slice a4 es2.length c4)), .int .i64 x.2] rfl _ (fun w' hb => hu3 w' hb) ?_
     simp only [Act.put, pu]
     refine qw_value (by rfl) (.bool false) (exec_neq_k .i64 _ _ _ _ rfl (U2 x.2) (U2 x.2) rfl rfl false (by rw [decide_eq_true rfl]; rfl)) ?_
     simp only [Act.put, pu]
     refine qw_pick false (v := .bool false) (by rfl) rfl rfl rfl ?_
     simp only [Act.put, pu]
     refine qw_move (by rfl) rfl rfl ?_
     simp only [Act.put, pu]
     refine qw_move (by rfl) rfl rfl ?_
     simp only [Act.put, pu]
     refine qw_move (by rfl) rfl rfl ?_
     simp only [Act.put, pu]
     refine qw_move (by rfl) rfl rfl ?_
     simp only [Act.put, pu]
     refine qw_value (by rfl) (.pointer (some ⟨gb, ob + i * 2, none⟩)) ((exec_index_s 23 _ _ rfl (gb) (ob) (L.length) (c) rfl (i) rfl (hlt) _ Try.underlying23 2 Try.sizeOf37)) ?_
     simp only [Act.put, pu]
     refine qw_value (by rfl) (.pointer (some ⟨gb, ob + i * 2 + 1, none⟩)) (exec_field 37 _ 1 rfl gb (ob + i * 2) rfl _ Try.underlying37 _ rfl 0 Try.sizeOf3) ?_
     simp only [Act.put, pu]
     refine qw_loadcR (by rfl) 3 _ rfl _ (ob + i * 2 + 1) rfl rB (.int .i64 x.2) hbe Try.isAgg3 ?_
     simp only [Act.put, pu]
     refine qw_callK (by rfl) 16 _ _ rfl Try.func16 (by kernel_rfl) #[.pointer (some ⟨g5, 0, none⟩), .int .i64 x.2] rfl _ (fun w' hb => quo_at (hA2.below hb) x.2) ?_
     simp only [Act.put, pu]
     refine qw_loadm (by rfl) 33 _ rfl _ (0) rfl r7 ((sxC n m (.slice a3 us2.length c3) (.slice a4 es2.length c4))) (part_all _) _ Try.underlying33 rfl (by rw [sxC_size]; exact size_rf) ?_
     simp only [Act.put, pu]
     refine qw_move (by rfl) rfl rfl ?_
     simp only [Act.put, pu]
     refine qw_move (by rfl) rfl rfl ?_
     simp only [Act.put, pu]
     refine qw_value (by rfl) (.pointer (some ⟨gb, ob + i * 2, none⟩)) ((exec_index_s 23 _ _ rfl (gb) (ob) (L.length) (c) rfl (i) rfl (hlt) _ Try.underlying23 2 Try.sizeOf37)) ?_
     simp only [Act.put, pu]
     refine qw_value (by rfl) (.pointer (some ⟨gb, ob + i * 2 + 1, none⟩)) (exec_field 37 _ 1 rfl gb (ob + i * 2) rfl _ Try.underlying37 _ rfl 0 Try.sizeOf3) ?_
     simp only [Act.put, pu]
     refine qw_loadcR (by rfl) 3 _ rfl _ (ob + i * 2 + 1) rfl rB (.int .i64 x.2) hbe Try.isAgg3 ?_
     simp only [Act.put, pu]
     refine qw_callK (by rfl) 17 _ _ rfl Try.func17 (by kernel_rfl) #[.agg (sxC n m (.slice a3 us2.length c3) (.slice a4 es2.length c4)), .int .i64 x.2] rfl _ (fun w' hb => rquo_any n m _ _ x.2 w' h1 h7 (by omega) h4) ?_
     simp only [Act.put, pu]
     refine qw_value (by rfl) (.bool false) (exec_neq_k .i64 _ _ _ _ rfl (quo n m x.2) (quo n m x.2) rfl rfl false (by rw [decide_eq_true rfl]; rfl)) ?_
     simp only [Act.put, pu]
     refine qw_pick false (v := .bool false) (by rfl) rfl rfl rfl ?_
     simp only [Act.put, pu]
     refine qw_nil ?_
     intro w9 hqb
     replace r7 := r7.belowAll hqb
     replace hA2 := hA2.belowAll hqb
     replace hN := hN.belowAll hqb
     replace sb := below_on sb (Nat.le_refl _) hqb
     clear hqb
     clear rB
     (repeat ((fail_if_success with_reducible refine rg ?_); go_step))
     refine wp_region_pw ?_
     refine pw_mv (by rfl) rfl rfl ?_
     simp only [Act.put, pu]
     refine pw_value (by rfl) (.int .i64 (((i + 1 : Nat) : Int))) (x_addz _ _ _ _ rfl ((i : Nat)) (1) (((i + 1 : Nat) : Int)) rfl rfl (by omega) (by omega) (by omega)) ?_
     simp only [Act.put, pu]
     refine pw_as (by rfl) rfl rfl ?_
     simp only [Act.put, pu]
     refine pw_nil ?_
     go_wp2
     go_roundg y
     case measure => omega
     case rel => exact ⟨i + 1, ks2, U2, us2, es2, B2, a3, c3, a4, c4, by omega, rfl, hA2, r7, hN, h7B, HV2.out, hki2, hui2, sb⟩
    ·show EW _ _ _ _ _ _ _ _
     have cb := Below.refl wr.heap.size wr
     refine ew_loadm (by rfl) 33 _ rfl _ 0 rfl (fun _ hb => (r7.belowAll hb).r) (sxC n m (.slice a1 us.length c1) (.slice a2 es.length c2)) (part_all _) _ Try.underlying33 rfl size_rf ?_
     simp only [Act.put, pu]
     refine ew_mv (by rfl) rfl rfl ?_
     simp only [Act.put, pu]
     refine ew_mv (by rfl) rfl rfl ?_
     simp only [Act.put, pu]
     refine ew_value (by rfl) (.pointer (some ⟨gb, ob + i * 2, none⟩)) ((exec_index_s 23 _ _ rfl (gb) (ob) (L.length) (c) rfl (i) rfl (hlt) _ Try.underlying23 2 Try.sizeOf37)) ?_
     simp only [Act.put, pu]
     refine ew_value (by rfl) (.pointer (some ⟨gb, ob + i * 2, none⟩)) (exec_field 37 _ 0 rfl gb (ob + i * 2) rfl _ Try.underlying37 _ rfl 0 Try.sizeOf9) ?_
     simp only [Act.put, pu]
     refine ew_loadk (by rfl) 9 _ rfl _ (ob + i * 2) rfl (fun _ hb => rW.belowAll (below_on sb (Nat.le_refl _) hb)) (.string ⟨x.1.toArray⟩) hbk Try.isAgg9 ?_
     simp only [Act.put, pu]
     refine ew_mv (by rfl) rfl rfl ?_
     simp only [Act.put, pu]
     refine ew_mv (by rfl) rfl rfl ?_
     simp only [Act.put, pu]
     refine ew_value (by rfl) (.pointer (some ⟨gb, ob + i * 2, none⟩)) ((exec_index_s 23 _ _ rfl (gb) (ob) (L.length) (c) rfl (i) rfl (hlt) _ Try.underlying23 2 Try.sizeOf37)) ?_
     simp only [Act.put, pu]
     refine ew_value (by rfl) (.pointer (some ⟨gb, ob + i * 2 + 1, none⟩)) (exec_field 37 _ 1 rfl gb (ob + i * 2) rfl _ Try.underlying37 _ rfl 0 Try.sizeOf3) ?_
     simp only [Act.put, pu]
     refine ew_loadk (by rfl) 3 _ rfl _ (ob + i * 2 + 1) rfl (fun _ hb => rW.belowAll (below_on sb (Nat.le_refl _) hb)) (.int .i64 x.2) hbe Try.isAgg3 ?_
     simp only [Act.put, pu]
     refine ew_newr (by rfl) 33 rfl _ zero_rf ?_
     intro wc hq2 g9 wd n9 r9 hb2
     replace cb := below_on cb (Nat.le_refl _) hq2
     have q9 := Nat.le_trans cb.size n9
     replace cb := below_on cb (Nat.le_refl _) hb2
     have hR9 : RfAt wd (g9 :: g7 :: B) a1 a2 us es := hR.on (Kept.ofBelow cb) (by simp) (fun b hb => (List.mem_cons.1 hb).elim (fun e => .inr (e ▸ q9)) .inl)
     have hS9 : ∀ b ∈ g9 :: g7 :: B, b < wd.heap.size := fun b hb => by
      rcases List.mem_cons.1 hb with rfl | hb
      ·exact r9.lt
      ·exact Nat.lt_of_lt_of_le (hS0 b hb) cb.size
     refine ⟨fun _ => cb, ?_⟩
     simp only [Act.put, pu]
     refine ew_callE (by rfl) 10 _ _ rfl Try.func10 (by kernel_rfl) #[.agg (sxC n m (.slice a1 us.length c1) (.slice a2 es.length c2)), .string ⟨x.1.toArray⟩, .int .i64 x.2] rfl ?_
     intro wa hq1
     replace cb := below_on cb (Nat.le_refl _) hq1
     refine (hRO (g9 :: g7 :: B) wa (hR9.below hq1) (fun b hb => Nat.lt_of_lt_of_le (hS9 b hb) hq1.size)).mono ?_
     rintro _ wb ⟨c3, c4, a3, a4, rfl, hN, hb1⟩
     replace cb := below_on cb (Nat.le_refl _) hb1
     refine ⟨_, rfl, fun _ => cb, ?_⟩
     simp only [Act.put, pu]
     replace r9 := (r9.belowAll hq1).belowAll hb1
     refine ew_mv (by rfl) rfl rfl ?_
     simp only [Act.put, pu]
     refine ew_ext (by rfl) rfl rfl rfl ?_
     simp only [Act.put, pu]
     refine ew_ext (by rfl) rfl rfl rfl ?_
     simp only [Act.put, pu]
     refine ew_ext (by rfl) rfl rfl rfl ?_
     simp only [Act.put, pu]
     refine ew_ext (by rfl) rfl rfl rfl ?_
     simp only [Act.put, pu]
     refine ew_putr (by rfl) 33 _ _ rfl g9 rfl r9 (sxC n m (.slice a3 us2.length c3) (.slice a4 es2.length c4)) rfl size_rf rfl (sx_one _ _ _ _ rfl rfl) ?_
     intro we hq3 wf r9n k
     replace hN := (hN.below hq3).on k (S2 := g9 :: g7 :: B) (by simp) (fun b hb => .inl hb)
     replace cb := (below_on cb (Nat.le_refl _) hq3).trans (k.below _ (Nat.le_trans cb.size hq3.size) (by simp; exact q9))
     refine ⟨fun _ => cb, ?_⟩
     simp only [Act.put]
     clear r9 k
     refine ew_as (by rfl) rfl rfl ?_
     simp only [Act.put, pu]
     refine ew_as (by rfl) rfl rfl ?_
     simp only [Act.put, pu]
     refine ew_as (by rfl) rfl rfl ?_
     simp only [Act.put, pu]
     refine ew_nil ?_
     intro wz hq4
     replace hN := hN.below hq4
     have r9 := r9n.belowAll hq4
     replace cb := below_on cb (Nat.le_refl _) hq4
     have q9w := q9
     clear q9 hq1 hq2 hq3 hq4 hb1 hb2 n9 r9n hR9 hS9
     replace r7 := r7.belowAll cb
     replace hA := hA.belowAll cb
     replace sb := below_on sb (Nat.le_refl _) cb
     have d97 : g9 ≠ g7 := fun e => by have := hS0 g7 (by simp); omega
     have h9B : g9 ∉ B := fun h => by have := hS0 g9 (List.mem_cons_of_mem _ h); omega
     have hlo := hA.lo
     have c7 := r7.lt
     have c9 := r9.lt
     clear hR hS0 hRO q9w cb
     (repeat ((fail_if_success with_reducible refine rg ?_); go_step))
     refine wp_region_ew (by kernel_rfl) (fun z => Below w.heap.size w z) (fun _ _ u1 u2 => below_on u1 (Nat.le_refl _) u2) sb [] [(0, false), (1, false), (2, false), (3, false), (4, false), (5, false), (6, false), (7, false), (8, false), (9, false), (10, false), (11, true), (12, false), (13, false), (14, false), (15, false), (16, false), (17, false), (18, false)] ?_ (by kernel_rfl)
     refine ew_mv (by rfl) rfl rfl ?_
     simp only [Act.put, pu]
     refine ew_mv (by rfl) rfl rfl ?_
     simp only [Act.put, pu]
     refine ew_mv (by rfl) rfl rfl ?_
     simp only [Act.put, pu]
     refine ew_value (by rfl) (.pointer (some ⟨gb, ob + i * 2, none⟩)) ((exec_index_s 23 _ _ rfl (gb) (ob) (L.length) (c) rfl (i) rfl (hlt) _ Try.underlying23 2 Try.sizeOf37)) ?_
     simp only [Act.put, pu]
     refine ew_value (by rfl) (.pointer (some ⟨gb, ob + i * 2, none⟩)) (exec_field 37 _ 0 rfl gb (ob + i * 2) rfl _ Try.underlying37 _ rfl 0 Try.sizeOf9) ?_
     simp only [Act.put, pu]
     refine ew_loadk (by rfl) 9 _ rfl _ (ob + i * 2) rfl (fun _ hb => rW.belowAll hb) (.string ⟨x.1.toArray⟩) hbk Try.isAgg9 ?_
     simp only [Act.put, pu]
     refine ew_mv (by rfl) rfl rfl ?_
     simp only [Act.put, pu]
     refine ew_mv (by rfl) rfl rfl ?_
     simp only [Act.put, pu]
     refine ew_value (by rfl) (.pointer (some ⟨gb, ob + i * 2, none⟩)) ((exec_index_s 23 _ _ rfl (gb) (ob) (L.length) (c) rfl (i) rfl (hlt) _ Try.underlying23 2 Try.sizeOf37)) ?_
     simp only [Act.put, pu]
     refine ew_value (by rfl) (.pointer (some ⟨gb, ob + i * 2 + 1, none⟩)) (exec_field 37 _ 1 rfl gb (ob + i * 2) rfl _ Try.underlying37 _ rfl 0 Try.sizeOf3) ?_
     simp only [Act.put, pu]
     refine ew_loadk (by rfl) 3 _ rfl _ (ob + i * 2 + 1) rfl (fun _ hb => rW.belowAll hb) (.int .i64 x.2) hbe Try.isAgg3 ?_
     simp only [Act.put, pu]
     refine ew_callE (by rfl) 11 _ _ rfl Try.func11 (by kernel_rfl) #[.pointer (some ⟨g5, 0, none⟩), .string ⟨x.1.toArray⟩, .int .i64 x.2] rfl ?_
     intro wu hqu
     refine (hPO wu (hA.belowAll hqu) (Nat.le_trans sb.size hqu.size)).mono ?_
     rintro _ wv ⟨B2, rfl, hA2, k, hB2⟩
     replace r7 := k.row (r7.belowAll hqu) hg7
     replace r9 := k.row (r9.belowAll hqu) h9B
     replace hN := (hN.below hqu).on k (S2 := g9 :: g7 :: B2) (fun b hb => List.mem_cons_of_mem _ (List.mem_cons_of_mem _ hb)) (fun b hb => by
      rcases List.mem_cons.1 hb with rfl | hb
      ·exact .inl (by simp)
      ·rcases List.mem_cons.1 hb with rfl | hb
       ·exact .inl (by simp)
       ·exact (hB2 b hb).imp (fun h => List.mem_cons_of_mem _ (List.mem_cons_of_mem _ h)) id)
     have h7B : g7 ∉ B2 := fun h => (hB2 _ h).elim hg7 fun h => by have := hqu.size; omega
     have h9B2 : g9 ∉ B2 := fun h => (hB2 _ h).elim h9B fun h => by have := hqu.size; omega
     replace sb := (below_on sb (Nat.le_refl _) hqu).trans (k.below _ (Nat.le_trans sb.size hqu.size) hlo)
     refine ⟨_, rfl, fun _ => sb, ?_⟩
     simp only [Act.put, pu]
     clear hA k hB2 hlo hqu hPO hg7 h9B c7 c9
     refine ew_mv (by rfl) rfl rfl ?_
     simp only [Act.put, pu]
     refine ew_ext (by rfl) rfl rfl rfl ?_
     simp only [Act.put, pu]
     refine ew_ext (by rfl) rfl rfl rfl ?_
     simp only [Act.put, pu]
     refine ew_ext (by rfl) rfl rfl rfl ?_
     simp only [Act.put, pu]
     refine ew_as (by rfl) rfl rfl ?_
     simp only [Act.put, pu]
     refine ew_as (by rfl) rfl rfl ?_
     simp only [Act.put, pu]
     refine ew_as (by rfl) rfl rfl ?_
     simp only [Act.put, pu]
     refine ew_nil ?_
     intro wz2 hq5
     replace r7 := r7.belowAll hq5
     replace r9 := r9.belowAll hq5
     replace hA2 := hA2.belowAll hq5
     replace hN := hN.belowAll hq5
     replace sb := below_on sb (Nat.le_refl _) hq5
     clear hq5
     (repeat ((fail_if_success with_reducible refine rg ?_); go_step))
     refine wp_region_pw ?_
     refine pw_mv (by rfl) rfl rfl ?_
     simp only [Act.put, pu]
     refine pw_mv (by rfl) rfl rfl ?_
     simp only [Act.put, pu]
     refine pw_value (by rfl) (.bool false) (exec_neq_k .i64 _ _ _ _ rfl ((PP : Nat)) ((PP : Nat)) rfl rfl false (by rw [decide_eq_true rfl]; rfl)) ?_
     simp only [Act.put, pu]
     refine pw_mv (by rfl) rfl rfl ?_
     simp only [Act.put, pu]
     refine pw_mv (by rfl) rfl rfl ?_
     simp only [Act.put, pu]
     refine pw_mv (by rfl) rfl rfl ?_
     simp only [Act.put, pu]
     refine pw_value (by rfl) (.bool false) (x_nb _ _ _ _ rfl FF FF rfl rfl Try.underlying4 false hFF2) ?_
     simp only [Act.put, pu]
     refine pw_pick (by rfl) false (v := .bool false) rfl rfl rfl ?_
     simp only [Act.put, pu]
     refine pw_mv (by rfl) rfl rfl ?_
     simp only [Act.put, pu]
     refine pw_mv (by rfl) rfl rfl ?_
     simp only [Act.put, pu]
     refine pw_mv (by rfl) rfl rfl ?_
     simp only [Act.put, pu]
     refine pw_value (by rfl) (.bool false) (exec_neq_k .i64 _ _ _ _ rfl (EE) (EE) rfl rfl false (by rw [decide_eq_true rfl]; rfl)) ?_
     simp only [Act.put, pu]
     refine pw_pick (by rfl) false (v := .bool false) rfl rfl rfl ?_
     simp only [Act.put, pu]
     refine pw_nil ?_
     have sk : Kept [g7] wz2 wz2 := Kept.refl _ _
     (repeat ((fail_if_success with_reducible refine rg ?_); go_step))
     refine wp_region_pw ?_
     refine pw_loadm (by rfl) 33 _ rfl _ 0 rfl r9.r _ (part_all _) _ Try.underlying33 rfl (by rw [sxC_size]; exact size_rf) ?_
     simp only [Act.put, pu]
     refine pw_put (by rfl) 33 _ _ rfl _ rfl r7 (sxC n m (.slice a3 us2.length c3) (.slice a4 es2.length c4)) rfl (by rw [sxC_size]; exact size_rf) (by simp only [sxC_size]) (sx_one _ _ _ _ (by rfl) (by rfl)) ?_
     clear r7
     intro z16001 r7 k
     simp only [Act.put]
     replace r9 := k.row r9 (by simp <;> omega)
     replace sk := sk.trans k (by simp <;> omega)
     clear k
     refine pw_nil ?_
     replace hA2 := hA2.on sk (fun b hb h9 => h7B (List.mem_singleton.1 h9 ▸ hb))
     replace hN := (hN.on sk (S2 := g9 :: g7 :: B2) (by simp) (fun b hb => .inl hb)).weak (S2 := g7 :: B2) (fun b hb => List.mem_cons_of_mem _ hb)
     replace sb := sb.trans (sk.below _ sb.size (by simp; exact b7w))
     clear sk r9 d97 h9B2
     obtain h0 | ⟨_, rB, _⟩ := (HB.out.below sb).at'
     ·exact absurd h0 (by omega)
     have hf2 := fnd_at hA2 x.1 (by omega)
     (repeat ((fail_if_success with_reducible refine rg ?_); go_step))
     refine wp_region_pw ?_
     refine pw_mv (by rfl) rfl rfl ?_
     simp only [Act.put, pu]
     refine pw_mv (by rfl) rfl rfl ?_
     simp only [Act.put, pu]
     refine pw_mv (by rfl) rfl rfl ?_
     simp only [Act.put, pu]
     refine pw_value (by rfl) (.pointer (some ⟨gb, ob + i * 2, none⟩)) ((exec_index_s 23 _ _ rfl (gb) (ob) (L.length) (c) rfl (i) rfl (hlt) _ Try.underlying23 2 Try.sizeOf37)) ?_
     simp only [Act.put, pu]
     refine pw_value (by rfl) (.pointer (some ⟨gb, ob + i * 2, none⟩)) (exec_field 37 _ 0 rfl gb (ob + i * 2) rfl _ Try.underlying37 _ rfl 0 Try.sizeOf9) ?_
     simp only [Act.put, pu]
     refine pw_loadk (by rfl) 9 _ rfl _ (ob + i * 2) rfl rB (.string ⟨x.1.toArray⟩) hbk Try.isAgg9 ?_
     simp only [Act.put, pu]
     refine pw_callB (by rfl) 12 _ _ rfl Try.func12 (by kernel_rfl) #[.pointer (some ⟨g5, 0, none⟩), .string ⟨x.1.toArray⟩] rfl _ (hf2) ?_
     intro z17006 k
     simp only [Act.put, pu]
     replace r7 := k.row r7 (by simp <;> omega)
     replace hA2 := hA2.below k.nil
     replace hN := hN.below k.nil
     replace sb := sb.trans (k.below w.heap.size sb.size (by simp <;> omega))
     clear k
     refine pw_mv (by rfl) rfl rfl ?_
     simp only [Act.put, pu]
     refine pw_ext (by rfl) rfl rfl rfl ?_
     simp only [Act.put, pu]
     refine pw_ext (by rfl) rfl rfl rfl ?_
     simp only [Act.put, pu]
     refine pw_as (by rfl) rfl rfl ?_
     simp only [Act.put, pu]
     refine pw_as (by rfl) rfl rfl ?_
     simp only [Act.put, pu]
     refine pw_nil ?_
     clear rB
     obtain h0 | ⟨_, rB, _⟩ := (HB.out.below sb).at'
     ·exact absurd h0 (by omega)
     have hf3 := fun w' (hb : Below _ _ w') => rfnd_at (hN.below hb) n m c3 c4 x.1 (by omega)
     rw [hfd.1, hfd.2] at hf3
     (repeat ((fail_if_success with_reducible refine rg ?_); go_step))
     refine wp_region_qw (by kernel_rfl) (by kernel_rfl) ?_
     refine qw_loadm (by rfl) 33 _ rfl _ (0) rfl r7 ((sxC n m (.slice a3 us2.length c3) (.slice a4 es2.length c4))) (part_all _) _ Try.underlying33 rfl (by rw [sxC_size]; exact size_rf) ?_
     simp only [Act.put, pu]
     refine qw_move (by rfl) rfl rfl ?_
     simp only [Act.put, pu]
     refine qw_move (by rfl) rfl rfl ?_
     simp only [Act.put, pu]
     refine qw_value (by rfl) (.pointer (some ⟨gb, ob + i * 2, none⟩)) ((exec_index_s 23 _ _ rfl (gb) (ob) (L.length) (c) rfl (i) rfl (hlt) _ Try.underlying23 2 Try.sizeOf37)) ?_
     simp only [Act.put, pu]
     refine qw_value (by rfl) (.pointer (some ⟨gb, ob + i * 2, none⟩)) (exec_field 37 _ 0 rfl gb (ob + i * 2) rfl _ Try.underlying37 _ rfl 0 Try.sizeOf9) ?_
     simp only [Act.put, pu]
     refine qw_loadcR (by rfl) 9 _ rfl _ (ob + i * 2) rfl rB (.string ⟨x.1.toArray⟩) hbk Try.isAgg9 ?_
     simp only [Act.put, pu]
     refine qw_callK (by rfl) 13 _ _ rfl Try.func13 (by kernel_rfl) #[.agg (sxC n m (.slice a3 us2.length c3) (.slice a4 es2.length c4)), .string ⟨x.1.toArray⟩] rfl _ (fun w' hb => hf3 w' hb) ?_
     simp only [Act.put, pu]
     refine qw_move (by rfl) rfl rfl ?_
     simp only [Act.put, pu]
     refine qw_ext (by rfl) rfl rfl rfl ?_
     simp only [Act.put, pu]
     refine qw_ext (by rfl) rfl rfl rfl ?_
     simp only [Act.put, pu]
     refine qw_asg (by rfl) rfl rfl ?_
     simp only [Act.put, pu]
     refine qw_asg (by rfl) rfl rfl ?_
     simp only [Act.put, pu]
     refine qw_nil ?_
     intro w9 hqb
     replace r7 := r7.belowAll hqb
     replace hA2 := hA2.belowAll hqb
     replace hN := hN.belowAll hqb
     replace sb := below_on sb (Nat.le_refl _) hqb
     clear hqb
     clear rB
     obtain h0 | ⟨_, rB, _⟩ := (HB.out.below sb).at'
     ·exact absurd h0 (by omega)
     have hu3 := fun w' (hb : Below _ _ w') => rusd_at (hN.below hb) n m c3 c4 x.2 (by omega)
     rw [← HV2.out.used x.2] at hu3
     have hFB3 : (fdB ks2 x.1 != fdB ks2 x.1) = false := by cases fdB ks2 x.1 <;> rfl
     (repeat ((fail_if_success with_reducible refine rg ?_); go_step))
     refine wp_region_qw (by kernel_rfl) (by kernel_rfl) ?_
     refine qw_move (by rfl) rfl rfl ?_
     simp only [Act.put, pu]
     refine qw_move (by rfl) rfl rfl ?_
     simp only [Act.put, pu]
     refine qw_value (by rfl) (.bool false) (exec_neq_k .i64 _ _ _ _ rfl ((fdP ks2 x.1 : Nat)) ((fdP ks2 x.1 : Nat)) rfl rfl false (by rw [decide_eq_true rfl]; rfl)) ?_
     simp only [Act.put, pu]
     refine qw_move (by rfl) rfl rfl ?_
     simp only [Act.put, pu]
     refine qw_move (by rfl) rfl rfl ?_
     simp only [Act.put, pu]
     refine qw_move (by rfl) rfl rfl ?_
     simp only [Act.put, pu]
     refine qw_value (by rfl) (.bool false) (x_nb _ _ _ _ rfl (fdB ks2 x.1) (fdB ks2 x.1) rfl rfl Try.underlying4 false hFB3) ?_
     simp only [Act.put, pu]
     refine qw_pick false (v := .bool false) (by rfl) rfl rfl rfl ?_
     simp only [Act.put, pu]
     refine qw_move (by rfl) rfl rfl ?_
     simp only [Act.put, pu]
     refine qw_move (by rfl) rfl rfl ?_
     simp only [Act.put, pu]
     refine qw_move (by rfl) rfl rfl ?_
     simp only [Act.put, pu]
     refine qw_move (by rfl) rfl rfl ?_
     simp only [Act.put, pu]
     refine qw_value (by rfl) (.pointer (some ⟨gb, ob + i * 2, none⟩)) ((exec_index_s 23 _ _ rfl (gb) (ob) (L.length) (c) rfl (i) rfl (hlt) _ Try.underlying23 2 Try.sizeOf37)) ?_
     simp only [Act.put, pu]
     refine qw_value (by rfl) (.pointer (some ⟨gb, ob + i * 2 + 1, none⟩)) (exec_field 37 _ 1 rfl gb (ob + i * 2) rfl _ Try.underlying37 _ rfl 0 Try.sizeOf3) ?_
     simp only [Act.put, pu]
     refine qw_loadcR (by rfl) 3 _ rfl _ (ob + i * 2 + 1) rfl rB (.int .i64 x.2) hbe Try.isAgg3 ?_
     simp only [Act.put, pu]
     refine qw_callK (by rfl) 14 _ _ rfl Try.func14 (by kernel_rfl) #[.pointer (some ⟨g5, 0, none⟩), .int .i64 x.2] rfl _ (fun w' hb => usd_at (hA2.below hb) x.2) ?_
     simp only [Act.put, pu]
     refine qw_loadm (by rfl) 33 _ rfl _ (0) rfl r7 ((sxC n m (.slice a3 us2.length c3) (.slice a4 es2.length c4))) (part_all _) _ Try.underlying33 rfl (by rw [sxC_size]; exact size_rf) ?_
     simp only [Act.put, pu]
     refine qw_move (by rfl) rfl rfl ?_
     simp only [Act.put, pu]
     refine qw_move (by rfl) rfl rfl ?_
     simp only [Act.put, pu]
     refine qw_value (by rfl) (.pointer (some ⟨gb, ob + i * 2, none⟩)) ((exec_index_s 23 _ _ rfl (gb) (ob) (L.length) (c) rfl (i) rfl (hlt) _ Try.underlying23 2 Try.sizeOf37)) ?_
     simp only [Act.put, pu]
     refine qw_value (by rfl) (.pointer (some ⟨gb, ob + i * 2 + 1, none⟩)) (exec_field 37 _ 1 rfl gb (ob + i * 2) rfl _ Try.underlying37 _ rfl 0 Try.sizeOf3) ?_
     simp only [Act.put, pu]
     refine qw_loadcR (by rfl) 3 _ rfl _ (ob + i * 2 + 1) rfl rB (.int .i64 x.2) hbe Try.isAgg3 ?_
     simp only [Act.put, pu]
     refine qw_callK (by rfl) 15 _ _ rfl Try.func15 (by kernel_rfl) #[.agg (sxC n m (.slice a3 us2.length c3) (.slice a4 es2.length c4)), .int .i64 x.2] rfl _ (fun w' hb => hu3 w' hb) ?_
     simp only [Act.put, pu]
     refine qw_value (by rfl) (.bool false) (exec_neq_k .i64 _ _ _ _ rfl (U2 x.2) (U2 x.2) rfl rfl false (by rw [decide_eq_true rfl]; rfl)) ?_
     simp only [Act.put, pu]
     refine qw_pick false (v := .bool false) (by rfl) rfl rfl rfl ?_
     simp only [Act.put, pu]
     refine qw_move (by rfl) rfl rfl ?_
     simp only [Act.put, pu]
     refine qw_move (by rfl) rfl rfl ?_
     simp only [Act.put, pu]
     refine qw_move (by rfl) rfl rfl ?_
     simp only [Act.put, pu]
     refine qw_move (by rfl) rfl rfl ?_
     simp only [Act.put, pu]
     refine qw_value (by rfl) (.pointer (some ⟨gb, ob + i * 2, none⟩)) ((exec_index_s 23 _ _ rfl (gb) (ob) (L.length) (c) rfl (i) rfl (hlt) _ Try.underlying23 2 Try.sizeOf37)) ?_
     simp only [Act.put, pu]
     refine qw_value (by rfl) (.pointer (some ⟨gb, ob + i * 2 + 1, none⟩)) (exec_field 37 _ 1 rfl gb (ob + i * 2) rfl _ Try.underlying37 _ rfl 0 Try.sizeOf3) ?_
     simp only [Act.put, pu]
     refine qw_loadcR (by rfl) 3 _ rfl _ (ob + i * 2 + 1) rfl rB (.int .i64 x.2) hbe Try.isAgg3 ?_
     simp only [Act.put, pu]
     refine qw_callK (by rfl) 16 _ _ rfl Try.func16 (by kernel_rfl) #[.pointer (some ⟨g5, 0, none⟩), .int .i64 x.2] rfl _ (fun w' hb => quo_at (hA2.below hb) x.2) ?_
     simp only [Act.put, pu]
     refine qw_loadm (by rfl) 33 _ rfl _ (0) rfl r7 ((sxC n m (.slice a3 us2.length c3) (.slice a4 es2.length c4))) (part_all _) _ Try.underlying33 rfl (by rw [sxC_size]; exact size_rf) ?_
     simp only [Act.put, pu]
     refine qw_move (by rfl) rfl rfl ?_
     simp only [Act.put, pu]
     refine qw_move (by rfl) rfl rfl ?_
     simp only [Act.put, pu]
     refine qw_value (by rfl) (.pointer (some ⟨gb, ob + i * 2, none⟩)) ((exec_index_s 23 _ _ rfl (gb) (ob) (L.length) (c) rfl (i) rfl (hlt) _ Try.underlying23 2 Try.sizeOf37)) ?_
     simp only [Act.put, pu]
     refine qw_value (by rfl) (.pointer (some ⟨gb, ob + i * 2 + 1, none⟩)) (exec_field 37 _ 1 rfl gb (ob + i * 2) rfl _ Try.underlying37 _ rfl 0 Try.sizeOf3) ?_
     simp only [Act.put, pu]
     refine qw_loadcR (by rfl) 3 _ rfl _ (ob + i * 2 + 1) rfl rB (.int .i64 x.2) hbe Try.isAgg3 ?_
     simp only [Act.put, pu]
     refine qw_callK (by rfl) 17 _ _ rfl Try.func17 (by kernel_rfl) #[.agg (sxC n m (.slice a3 us2.length c3) (.slice a4 es2.length c4)), .int .i64 x.2] rfl _ (fun w' hb => rquo_any n m _ _ x.2 w' h1 h7 (by omega) h4) ?_
     simp only [Act.put, pu]
     refine qw_value (by rfl) (.bool false) (exec_neq_k .i64 _ _ _ _ rfl (quo n m x.2) (quo n m x.2) rfl rfl false (by rw [decide_eq_true rfl]; rfl)) ?_
     simp only [Act.put, pu]
     refine qw_pick false (v := .bool false) (by rfl) rfl rfl rfl ?_
     simp only [Act.put, pu]
     refine qw_nil ?_
     intro w9 hqb
     replace r7 := r7.belowAll hqb
     replace hA2 := hA2.belowAll hqb
     replace hN := hN.belowAll hqb
     replace sb := below_on sb (Nat.le_refl _) hqb
     clear hqb
     clear rB
     (repeat ((fail_if_success with_reducible refine rg ?_); go_step))
     refine wp_region_pw ?_
     refine pw_mv (by rfl) rfl rfl ?_
     simp only [Act.put, pu]
     refine pw_value (by rfl) (.int .i64 (((i + 1 : Nat) : Int))) (x_addz _ _ _ _ rfl ((i : Nat)) (1) (((i + 1 : Nat) : Int)) rfl rfl (by omega) (by omega) (by omega)) ?_
     simp only [Act.put, pu]
     refine pw_as (by rfl) rfl rfl ?_
     simp only [Act.put, pu]
     refine pw_nil ?_
     go_wp2
     go_roundg y
     case measure => omega
     case rel => exact ⟨i + 1, ks2, U2, us2, es2, B2, a3, c3, a4, c4, by omega, rfl, hA2, r7, hN, h7B, HV2.out, hki2, hui2, sb⟩
set_option maxRecDepth 100000 in
theorem lifted (os : Os) (started : os.Started) (H : Type) (enc : TypeId × Value → H) :
  ReturnsInHanded {} Try.checked os 3 .any (Rows.spacePlaysSpec.pre6 enc Try.prog Try.f3 Rows.spacePlaysRow.domain false) (Rows.spacePlaysSpec.post enc Try.prog Try.f3 false true false false) := by
 refine returnsInHanded_of_change (C := Try.checked) own started (by kernel_rfl) Try.func3
  (ChangeSpec.witness6 (enc := enc) (C := Try.checked) false ⟨#[], #[.agg #[.int .i64 0, .int .i64 0], .slice none 0 0], []⟩ 8 (by kernel_rfl) (by kernel_rfl) (by kernel_rfl) (by kernel_rfl)) ?_
 intro W base args ds gs before hval0 hW hcnd _
 have hval : ∀ (j : Nat) t v, Try.f3.params[j]? = some t → args[j]? = some v → Value.okWide Try.prog W .any base t v := hval0
 have hW' := hW
 obtain ⟨p, q, hA0, hV, rfl, hfz, hnd⟩ := hW
 have hA : DataW.TrodAll enc Try.prog W 0 (fun _ => true) true Try.f3.params.toList args.toList ds p := hA0
 rw [Try.params3] at hA hval
 obtain ⟨v0, vs0, d0, ds0, p0, q0, hargs, rfl, rfl, h0, r0⟩ := trodAll_cons hA
 obtain ⟨v1, vs1, d1, ds1, p1, q1, rfl, rfl, rfl, h1, r1⟩ := trodAll_cons r0
 obtain ⟨rfl, rfl, rfl⟩ := trodAll_nil r1
 obtain rfl : args = #[v0, v1] := by cases args; simp_all
 obtain ⟨rfl, rfl⟩ := trodVars_none hV
 have k0 := h0
 have lt0 := lt_of_trod h0
 obtain ⟨x0, y0, rfl, hx0⟩ := open_i2 (hval 0 22 v0 rfl rfl) h0
 have k1 := h1
 have lt1 := lt_of_trod h1
 obtain ⟨ab1, c1, L1, gb1, ob1, bcs1, tb1, rfl, hn1, hz1⟩ := open_acs (hval 1 23 v1 rfl rfl) h1
 clear hA0 hval0
 refine (walk x0 y0 ab1 c1 L1 gb1 ob1 bcs1 tb1 W hx0 hn1 hz1).mono fun e W' ⟨he, bel⟩ => ?_
 subst he
 exact ⟨_, rfl, _, _, _, [], _, [], hW', trodAll_mk1 (shut_bool Try.underlying4 _), (trodAll_cons_mk (Below.trod laidOut (by kernel_rfl) (of_decide_eq_true (by kernel_rfl)) k0 bel lt0) (trodAll_cons_mk (Below.trod laidOut (by kernel_rfl) (of_decide_eq_true (by kernel_rfl)) k1 bel lt1) trodAll_mk0)), rfl, bel.frame _, fun h => by cases h⟩
theorem over : Rows.spacePlaysRow.holds Try.pinned (OpenSpec.ofChange Rows.spacePlaysSpec) :=
 OpenClaim.holds_of_wide 3 Try.f3 rfl rfl rfl rfl rfl rfl rfl ⟨rfl, rfl, rfl, rfl, rfl⟩ rfl rfl rfl rfl rfl (by kernel_rfl) Try.func3 (by kernel_rfl)
  (of_decide_eq_true (by kernel_rfl)) (by unfold Func.isWrapper; first | (rw [if_pos (by decide +kernel)]; kernel_rfl) | (rw [if_neg (by decide +kernel)]; exact ⟨rfl, rfl⟩))
  (fun os started H enc _ => lifted os started H enc)
end spacePlaysP
/-- for any number of servers and clients, and up to 60 keys of few bytes that any ends name: which are new, which are refused, where each stands, and who let it be known, is as the document says; no condition. -/
theorem spacePlays_holds : Rows.SpacePlaysSaid := spacePlaysP.over
end Go.Proofs.Ytchiiphmpkmloaa
