/- The law FrameSeals of layer 19 holds for every input: frame.Seal answers the document's frame, and what is sealed opens. No condition (the constants are tied to the program's text). -/
import Derived.Test.YtdanmnhknmepiaaDoorFrOpen
import Derived.Test.YtdanmnhknmepiaaDoorFrAwake
namespace Go.Proofs.YtdanmnhknmepiaaDoor.frameSealsP
open Go.ChangeShapes Go.WideShapes Go.ChangeAt Go.RowKit
open Go.ChangeMaps (open_string shut_string)
set_option linter.unusedVariables false
set_option maxRecDepth 100000 in
set_option maxHeartbeats 2000000 in
theorem long1 (k : List UInt8) (x y : Int) (b : List UInt8) (w : World) (kT : KT w) (h : 100 < k.length) :
  Calls Tryd.prog 3 #[.string ⟨k.toArray⟩, .agg #[.int .i64 x, .int .i64 y], .string ⟨b.toArray⟩] w fun e w' => e = .returned (.bool true) ∧ Below w.heap.size w w' := by
 go_enter Tryd.func3, Tryd.ntmps3
 (repeat ((fail_if_success with_reducible refine rg ?_); go_step))
 refine wp_region_pw ?_
 refine pw_boxr (by rfl) 22 _ rfl (#[.int .i64 x, .int .i64 y]) rfl ?_
 intro g4 z0 n0 r4 k
 simp only [Act.put, pu]
 have b4 : w.heap.size ≤ g4 := n0
 clear n0
 have sb := k.below w.heap.size (Nat.le_refl _) (by simp)
 clear k
 refine pw_value (by rfl) (.bool false) (fun _ => rfl) ?_
 simp only [Act.put, pu]
 refine pw_nil ?_
 (repeat ((fail_if_success with_reducible refine rg ?_); go_step))
 refine wp_region_pw ?_
 refine pw_mv (by rfl) rfl rfl ?_
 simp only [Act.put, pu]
 refine pw_value (by rfl) (.int .i64 (k.length : Nat)) (y_lenS _ _ rfl k rfl Tryd.underlying9) ?_
 simp only [Act.put, pu]
 refine pw_value (by rfl) (.bool true) (x_gt _ _ _ _ rfl (k.length : Nat) 100 rfl rfl true (decide_eq_true (by omega))) ?_
 simp only [Act.put, pu]
 refine pw_mv (by rfl) rfl rfl ?_
 simp only [Act.put, pu]
 refine pw_skip (by rfl) ?_
 simp only [Act.put, pu]
 refine pw_skip (by rfl) ?_
 simp only [Act.put, pu]
 refine pw_skip (by rfl) ?_
 simp only [Act.put, pu]
 refine pw_pick (by rfl) true (v := .bool true) rfl rfl rfl ?_
 simp only [Act.put, pu]
 refine pw_nil ?_
 (repeat ((fail_if_success with_reducible refine rg ?_); go_step))
 refine wp_region_pw ?_
 refine pw_callB (by rfl) 7 _ _ rfl Tryd.func7 (by kernel_rfl) #[] rfl _ (awake19_any _ (kT.below sb)) ?_
 intro z2000 k
 simp only [Act.put, pu]
 replace sb := sb.trans (k.below w.heap.size sb.size (by simp <;> omega))
 clear k
 refine pw_as (by rfl) rfl rfl ?_
 simp only [Act.put, pu]
 refine pw_nil ?_
 go_wp2
 go_ret
 exact ⟨rfl, sb⟩
set_option maxRecDepth 100000 in
set_option maxHeartbeats 2000000 in
theorem long2 (k : List UInt8) (x y : Int) (b : List UInt8) (w : World) (kT : KT w) (h : k.length ≤ 100) (h2 : 512 < b.length) :
  Calls Tryd.prog 3 #[.string ⟨k.toArray⟩, .agg #[.int .i64 x, .int .i64 y], .string ⟨b.toArray⟩] w fun e w' => e = .returned (.bool true) ∧ Below w.heap.size w w' := by
 go_enter Tryd.func3, Tryd.ntmps3
 (repeat ((fail_if_success with_reducible refine rg ?_); go_step))
 refine wp_region_pw ?_
 refine pw_boxr (by rfl) 22 _ rfl (#[.int .i64 x, .int .i64 y]) rfl ?_
 intro g4 z0 n0 r4 k
 simp only [Act.put, pu]
 have b4 : w.heap.size ≤ g4 := n0
 clear n0
 have sb := k.below w.heap.size (Nat.le_refl _) (by simp)
 clear k
 refine pw_value (by rfl) (.bool false) (fun _ => rfl) ?_
 simp only [Act.put, pu]
 refine pw_nil ?_
 (repeat ((fail_if_success with_reducible refine rg ?_); go_step))
 refine wp_region_pw ?_
 refine pw_mv (by rfl) rfl rfl ?_
 simp only [Act.put, pu]
 refine pw_value (by rfl) (.int .i64 (k.length : Nat)) (y_lenS _ _ rfl k rfl Tryd.underlying9) ?_
 simp only [Act.put, pu]
 refine pw_value (by rfl) (.bool false) (x_gt _ _ _ _ rfl (k.length : Nat) 100 rfl rfl false (decide_eq_false (by omega))) ?_
 simp only [Act.put, pu]
 refine pw_mv (by rfl) rfl rfl ?_
 simp only [Act.put, pu]
 refine pw_mv (by rfl) rfl rfl ?_
 simp only [Act.put, pu]
 refine pw_value (by rfl) (.int .i64 (b.length : Nat)) (y_lenS _ _ rfl b rfl Tryd.underlying9) ?_
 simp only [Act.put, pu]
 refine pw_value (by rfl) (.bool true) (x_gt _ _ _ _ rfl (b.length : Nat) 512 rfl rfl true (decide_eq_true (by omega))) ?_
 simp only [Act.put, pu]
 refine pw_pick (by rfl) false (v := .bool true) rfl rfl rfl ?_
 simp only [Act.put, pu]
 refine pw_nil ?_
 (repeat ((fail_if_success with_reducible refine rg ?_); go_step))
 refine wp_region_pw ?_
 refine pw_callB (by rfl) 7 _ _ rfl Tryd.func7 (by kernel_rfl) #[] rfl _ (awake19_any _ (kT.below sb)) ?_
 intro z2000 k
 simp only [Act.put, pu]
 replace sb := sb.trans (k.below w.heap.size sb.size (by simp <;> omega))
 clear k
 refine pw_as (by rfl) rfl rfl ?_
 simp only [Act.put, pu]
 refine pw_nil ?_
 go_wp2
 go_ret
 exact ⟨rfl, sb⟩
set_option maxRecDepth 100000 in
set_option maxHeartbeats 2000000 in
theorem no (k : List UInt8) (x y : Int) (b : List UInt8) (w : World) (kT : KT w) (h1 : k.length ≤ 100) (h2 : b.length ≤ 512) (h : enB x y = false) :
  Calls Tryd.prog 3 #[.string ⟨k.toArray⟩, .agg #[.int .i64 x, .int .i64 y], .string ⟨b.toArray⟩] w fun e w' => e = .returned (.bool true) ∧ Below w.heap.size w w' := by
 go_enter Tryd.func3, Tryd.ntmps3
 (repeat ((fail_if_success with_reducible refine rg ?_); go_step))
 refine wp_region_pw ?_
 refine pw_boxr (by rfl) 22 _ rfl (#[.int .i64 x, .int .i64 y]) rfl ?_
 intro g4 z0 n0 r4 k
 simp only [Act.put, pu]
 have b4 : w.heap.size ≤ g4 := n0
 clear n0
 have sb := k.below w.heap.size (Nat.le_refl _) (by simp)
 clear k
 refine pw_value (by rfl) (.bool false) (fun _ => rfl) ?_
 simp only [Act.put, pu]
 refine pw_nil ?_
 (repeat ((fail_if_success with_reducible refine rg ?_); go_step))
 refine wp_region_pw ?_
 refine pw_mv (by rfl) rfl rfl ?_
 simp only [Act.put, pu]
 refine pw_value (by rfl) (.int .i64 (k.length : Nat)) (y_lenS _ _ rfl k rfl Tryd.underlying9) ?_
 simp only [Act.put, pu]
 refine pw_value (by rfl) (.bool false) (x_gt _ _ _ _ rfl (k.length : Nat) 100 rfl rfl false (decide_eq_false (by omega))) ?_
 simp only [Act.put, pu]
 refine pw_mv (by rfl) rfl rfl ?_
 simp only [Act.put, pu]
 refine pw_mv (by rfl) rfl rfl ?_
 simp only [Act.put, pu]
 refine pw_value (by rfl) (.int .i64 (b.length : Nat)) (y_lenS _ _ rfl b rfl Tryd.underlying9) ?_
 simp only [Act.put, pu]
 refine pw_value (by rfl) (.bool false) (x_gt _ _ _ _ rfl (b.length : Nat) 512 rfl rfl false (decide_eq_false (by omega))) ?_
 simp only [Act.put, pu]
 refine pw_pick (by rfl) false (v := .bool false) rfl rfl rfl ?_
 simp only [Act.put, pu]
 refine pw_nil ?_
 (repeat ((fail_if_success with_reducible refine rg ?_); go_step))
 refine wp_region_pw ?_
 refine pw_mv (by rfl) rfl rfl ?_
 simp only [Act.put, pu]
 refine pw_value (by rfl) (.pointer (some ⟨g4, 0, none⟩)) (x_idxA _ _ _ rfl g4 0 rfl 0 2 rfl (by decide) _ Tryd.underlying22 Tryd.sizeOf3 0 rfl) ?_
 simp only [Act.put, pu]
 refine pw_loadk (by rfl) 3 _ rfl _ (0) rfl r4.r (.int .i64 x) rfl Tryd.isAgg3 ?_
 simp only [Act.put, pu]
 refine pw_value (by rfl) (.pointer (some ⟨g4, 1, none⟩)) (x_idxA _ _ _ rfl g4 0 rfl 1 2 rfl (by decide) _ Tryd.underlying22 Tryd.sizeOf3 1 rfl) ?_
 simp only [Act.put, pu]
 refine pw_loadk (by rfl) 3 _ rfl _ (1) rfl r4.r (.int .i64 y) rfl Tryd.isAgg3 ?_
 simp only [Act.put, pu]
 refine pw_mv (by rfl) rfl rfl ?_
 simp only [Act.put, pu]
 refine pw_callB (by rfl) 8 _ _ rfl Tryd.func8 (by kernel_rfl) #[.string ⟨k.toArray⟩, .int .i64 x, .int .i64 y, .string ⟨b.toArray⟩] rfl _ (seal_ends k b x y _ h) ?_
 intro z3006 k
 simp only [Act.put, pu]
 replace r4 := k.row r4 (by simp <;> omega)
 replace sb := sb.trans (k.below w.heap.size sb.size (by simp <;> omega))
 clear k
 refine pw_mv (by rfl) rfl rfl ?_
 simp only [Act.put, pu]
 refine pw_ext (by rfl) rfl rfl rfl ?_
 simp only [Act.put, pu]
 refine pw_ext (by rfl) rfl rfl rfl ?_
 simp only [Act.put, pu]
 refine pw_new (by rfl) 25 rfl _ zero_fr ?_
 intro g7 z3010 n0 r7 k
 simp only [Act.put, pu]
 have d4x7 := Nat.lt_of_lt_of_le r4.lt n0
 have b7 := Nat.le_trans sb.size n0
 clear n0
 replace r4 := k.row r4 (by simp <;> omega)
 replace sb := sb.trans (k.below w.heap.size sb.size (by simp <;> omega))
 clear k
 refine pw_put (by rfl) 25 _ _ rfl _ rfl r7 (frC 0 0 [] []) rfl (by exact size_fr) (by rfl) (fr_one _ _ _ _) ?_
 clear r7
 intro z3011 r7 k
 simp only [Act.put]
 replace r4 := k.row r4 (by simp <;> omega)
 replace sb := sb.trans (k.below w.heap.size sb.size (by simp <;> omega))
 clear k
 refine pw_as (by rfl) rfl rfl ?_
 simp only [Act.put, pu]
 refine pw_nil ?_
 (repeat ((fail_if_success with_reducible refine rg ?_); go_step))
 refine wp_region_pw ?_
 refine pw_mv (by rfl) rfl rfl ?_
 simp only [Act.put, pu]
 refine pw_value (by rfl) (.pointer (some ⟨g4, 0, none⟩)) (x_idxA _ _ _ rfl g4 0 rfl 0 2 rfl (by decide) _ Tryd.underlying22 Tryd.sizeOf3 0 rfl) ?_
 simp only [Act.put, pu]
 refine pw_loadk (by rfl) 3 _ rfl _ (0) rfl r4.r (.int .i64 x) rfl Tryd.isAgg3 ?_
 simp only [Act.put, pu]
 refine pw_value (by rfl) (.pointer (some ⟨g4, 1, none⟩)) (x_idxA _ _ _ rfl g4 0 rfl 1 2 rfl (by decide) _ Tryd.underlying22 Tryd.sizeOf3 1 rfl) ?_
 simp only [Act.put, pu]
 refine pw_loadk (by rfl) 3 _ rfl _ (1) rfl r4.r (.int .i64 y) rfl Tryd.isAgg3 ?_
 simp only [Act.put, pu]
 refine pw_mv (by rfl) rfl rfl ?_
 simp only [Act.put, pu]
 refine pw_callB (by rfl) 9 _ _ rfl Tryd.func9 (by kernel_rfl) #[.string ⟨k.toArray⟩, .int .i64 x, .int .i64 y, .string ⟨b.toArray⟩] rfl _ (rseal_no k b x y _ h) ?_
 intro z4006 k
 simp only [Act.put, pu]
 replace r4 := k.row r4 (by simp <;> omega)
 replace r7 := k.row r7 (by simp <;> omega)
 replace sb := sb.trans (k.below w.heap.size sb.size (by simp <;> omega))
 clear k
 refine pw_mv (by rfl) rfl rfl ?_
 simp only [Act.put, pu]
 refine pw_ext (by rfl) rfl rfl rfl ?_
 simp only [Act.put, pu]
 refine pw_ext (by rfl) rfl rfl rfl ?_
 simp only [Act.put, pu]
 refine pw_new (by rfl) 25 rfl _ zero_fr ?_
 intro g9 z4010 n0 r9 k
 simp only [Act.put, pu]
 have d4x9 := Nat.lt_of_lt_of_le r4.lt n0
 have d7x9 := Nat.lt_of_lt_of_le r7.lt n0
 have b9 := Nat.le_trans sb.size n0
 clear n0
 replace r4 := k.row r4 (by simp <;> omega)
 replace r7 := k.row r7 (by simp <;> omega)
 replace sb := sb.trans (k.below w.heap.size sb.size (by simp <;> omega))
 clear k
 refine pw_put (by rfl) 25 _ _ rfl _ rfl r9 (frC 0 0 [] []) rfl (by exact size_fr) (by rfl) (fr_one _ _ _ _) ?_
 clear r9
 intro z4011 r9 k
 simp only [Act.put]
 replace r4 := k.row r4 (by simp <;> omega)
 replace r7 := k.row r7 (by simp <;> omega)
 replace sb := sb.trans (k.below w.heap.size sb.size (by simp <;> omega))
 clear k
 refine pw_as (by rfl) rfl rfl ?_
 simp only [Act.put, pu]
 refine pw_nil ?_
 (repeat ((fail_if_success with_reducible refine rg ?_); go_step))
 refine wp_region_pw ?_
 refine pw_loadm (by rfl) 25 _ rfl _ (0) rfl r7.r (frC 0 0 [] []) (part_allF _) _ Tryd.underlying25 rfl size_fr ?_
 simp only [Act.put, pu]
 refine pw_loadm (by rfl) 25 _ rfl _ (0) rfl r9.r (frC 0 0 [] []) (part_allF _) _ Tryd.underlying25 rfl size_fr ?_
 simp only [Act.put, pu]
 refine pw_value (by rfl) (.bool true) (exec_eql_fr _ _ _ rfl 0 0 0 0 [] [] [] [] rfl rfl true (by simp)) ?_
 simp only [Act.put, pu]
 refine pw_mv (by rfl) rfl rfl ?_
 simp only [Act.put, pu]
 refine pw_mv (by rfl) rfl rfl ?_
 simp only [Act.put, pu]
 refine pw_mv (by rfl) rfl rfl ?_
 simp only [Act.put, pu]
 refine pw_value (by rfl) (.bool true) (x_eqI _ _ _ _ rfl .i64 1 1 rfl rfl true (by decide)) ?_
 simp only [Act.put, pu]
 refine pw_pick (by rfl) true (v := .bool true) rfl rfl rfl ?_
 simp only [Act.put, pu]
 refine pw_mv (by rfl) rfl rfl ?_
 simp only [Act.put, pu]
 refine pw_mv (by rfl) rfl rfl ?_
 simp only [Act.put, pu]
 refine pw_value (by rfl) (.bool true) (x_neI _ _ _ _ rfl .i64 1 0 rfl rfl true (by decide)) ?_
 simp only [Act.put, pu]
 refine pw_mv (by rfl) rfl rfl ?_
 simp only [Act.put, pu]
 refine pw_skip (by rfl) ?_
 simp only [Act.put, pu]
 refine pw_skip (by rfl) ?_
 simp only [Act.put, pu]
 refine pw_skip (by rfl) ?_
 simp only [Act.put, pu]
 refine pw_pick (by rfl) true (v := .bool true) rfl rfl rfl ?_
 simp only [Act.put, pu]
 refine pw_pick (by rfl) true (v := .bool true) rfl rfl rfl ?_
 simp only [Act.put, pu]
 refine pw_mv (by rfl) rfl rfl ?_
 simp only [Act.put, pu]
 refine pw_callB (by rfl) 7 _ _ rfl Tryd.func7 (by kernel_rfl) #[] rfl _ (awake19_any _ (kT.below sb)) ?_
 intro z5018 k
 simp only [Act.put, pu]
 replace r7 := k.row r7 (by simp <;> omega)
 replace r9 := k.row r9 (by simp <;> omega)
 replace sb := sb.trans (k.below w.heap.size sb.size (by simp <;> omega))
 clear k
 refine pw_pick (by rfl) true (v := .bool true) rfl rfl rfl ?_
 simp only [Act.put, pu]
 refine pw_as (by rfl) rfl rfl ?_
 simp only [Act.put, pu]
 refine pw_nil ?_
 go_wp2
 go_ret
 exact ⟨rfl, sb⟩
set_option maxRecDepth 100000 in
set_option maxHeartbeats 2000000 in
theorem ok (k : List UInt8) (x y : Int) (b : List UInt8) (w : World) (kT : KT w) (h1 : k.length ≤ 100) (h2 : b.length ≤ 512) (h : enB x y = true) :
  Calls Tryd.prog 3 #[.string ⟨k.toArray⟩, .agg #[.int .i64 x, .int .i64 y], .string ⟨b.toArray⟩] w fun e w' => e = .returned (.bool true) ∧ Below w.heap.size w w' := by
 go_enter Tryd.func3, Tryd.ntmps3
 (repeat ((fail_if_success with_reducible refine rg ?_); go_step))
 refine wp_region_pw ?_
 refine pw_boxr (by rfl) 22 _ rfl (#[.int .i64 x, .int .i64 y]) rfl ?_
 intro g4 z0 n0 r4 k
 simp only [Act.put, pu]
 have b4 : w.heap.size ≤ g4 := n0
 clear n0
 have sb := k.below w.heap.size (Nat.le_refl _) (by simp)
 clear k
 refine pw_value (by rfl) (.bool false) (fun _ => rfl) ?_
 simp only [Act.put, pu]
 refine pw_nil ?_
 (repeat ((fail_if_success with_reducible refine rg ?_); go_step))
 refine wp_region_pw ?_
 refine pw_mv (by rfl) rfl rfl ?_
 simp only [Act.put, pu]
 refine pw_value (by rfl) (.int .i64 (k.length : Nat)) (y_lenS _ _ rfl k rfl Tryd.underlying9) ?_
 simp only [Act.put, pu]
 refine pw_value (by rfl) (.bool false) (x_gt _ _ _ _ rfl (k.length : Nat) 100 rfl rfl false (decide_eq_false (by omega))) ?_
 simp only [Act.put, pu]
 refine pw_mv (by rfl) rfl rfl ?_
 simp only [Act.put, pu]
 refine pw_mv (by rfl) rfl rfl ?_
 simp only [Act.put, pu]
 refine pw_value (by rfl) (.int .i64 (b.length : Nat)) (y_lenS _ _ rfl b rfl Tryd.underlying9) ?_
 simp only [Act.put, pu]
 refine pw_value (by rfl) (.bool false) (x_gt _ _ _ _ rfl (b.length : Nat) 512 rfl rfl false (decide_eq_false (by omega))) ?_
 simp only [Act.put, pu]
 refine pw_pick (by rfl) false (v := .bool false) rfl rfl rfl ?_
 simp only [Act.put, pu]
 refine pw_nil ?_
 (repeat ((fail_if_success with_reducible refine rg ?_); go_step))
 refine wp_region_pw ?_
 refine pw_mv (by rfl) rfl rfl ?_
 simp only [Act.put, pu]
 refine pw_value (by rfl) (.pointer (some ⟨g4, 0, none⟩)) (x_idxA _ _ _ rfl g4 0 rfl 0 2 rfl (by decide) _ Tryd.underlying22 Tryd.sizeOf3 0 rfl) ?_
 simp only [Act.put, pu]
 refine pw_loadk (by rfl) 3 _ rfl _ (0) rfl r4.r (.int .i64 x) rfl Tryd.isAgg3 ?_
 simp only [Act.put, pu]
 refine pw_value (by rfl) (.pointer (some ⟨g4, 1, none⟩)) (x_idxA _ _ _ rfl g4 0 rfl 1 2 rfl (by decide) _ Tryd.underlying22 Tryd.sizeOf3 1 rfl) ?_
 simp only [Act.put, pu]
 refine pw_loadk (by rfl) 3 _ rfl _ (1) rfl r4.r (.int .i64 y) rfl Tryd.isAgg3 ?_
 simp only [Act.put, pu]
 refine pw_mv (by rfl) rfl rfl ?_
 simp only [Act.put, pu]
 refine pw_callB (by rfl) 8 _ _ rfl Tryd.func8 (by kernel_rfl) #[.string ⟨k.toArray⟩, .int .i64 x, .int .i64 y, .string ⟨b.toArray⟩] rfl _ (seal_ok k b x y _ h (by omega) (by omega) (kT.below sb)) ?_
 intro z3006 k
 simp only [Act.put, pu]
 replace r4 := k.row r4 (by simp <;> omega)
 replace sb := sb.trans (k.below w.heap.size sb.size (by simp <;> omega))
 clear k
 refine pw_mv (by rfl) rfl rfl ?_
 simp only [Act.put, pu]
 refine pw_ext (by rfl) rfl rfl rfl ?_
 simp only [Act.put, pu]
 refine pw_ext (by rfl) rfl rfl rfl ?_
 simp only [Act.put, pu]
 refine pw_new (by rfl) 25 rfl _ zero_fr ?_
 intro g7 z3010 n0 r7 k
 simp only [Act.put, pu]
 have d4x7 := Nat.lt_of_lt_of_le r4.lt n0
 have b7 := Nat.le_trans sb.size n0
 clear n0
 replace r4 := k.row r4 (by simp <;> omega)
 replace sb := sb.trans (k.below w.heap.size sb.size (by simp <;> omega))
 clear k
 refine pw_put (by rfl) 25 _ _ rfl _ rfl r7 (frC x y b (tagL k b x y)) rfl (by exact size_fr) (by rfl) (fr_one _ _ _ _) ?_
 clear r7
 intro z3011 r7 k
 simp only [Act.put]
 replace r4 := k.row r4 (by simp <;> omega)
 replace sb := sb.trans (k.below w.heap.size sb.size (by simp <;> omega))
 clear k
 refine pw_as (by rfl) rfl rfl ?_
 simp only [Act.put, pu]
 refine pw_nil ?_
 (repeat ((fail_if_success with_reducible refine rg ?_); go_step))
 refine wp_region_pw ?_
 refine pw_mv (by rfl) rfl rfl ?_
 simp only [Act.put, pu]
 refine pw_value (by rfl) (.pointer (some ⟨g4, 0, none⟩)) (x_idxA _ _ _ rfl g4 0 rfl 0 2 rfl (by decide) _ Tryd.underlying22 Tryd.sizeOf3 0 rfl) ?_
 simp only [Act.put, pu]
 refine pw_loadk (by rfl) 3 _ rfl _ (0) rfl r4.r (.int .i64 x) rfl Tryd.isAgg3 ?_
 simp only [Act.put, pu]
 refine pw_value (by rfl) (.pointer (some ⟨g4, 1, none⟩)) (x_idxA _ _ _ rfl g4 0 rfl 1 2 rfl (by decide) _ Tryd.underlying22 Tryd.sizeOf3 1 rfl) ?_
 simp only [Act.put, pu]
 refine pw_loadk (by rfl) 3 _ rfl _ (1) rfl r4.r (.int .i64 y) rfl Tryd.isAgg3 ?_
 simp only [Act.put, pu]
 refine pw_mv (by rfl) rfl rfl ?_
 simp only [Act.put, pu]
 refine pw_callB (by rfl) 9 _ _ rfl Tryd.func9 (by kernel_rfl) #[.string ⟨k.toArray⟩, .int .i64 x, .int .i64 y, .string ⟨b.toArray⟩] rfl _ (rseal_ok k b x y _ h (by omega) (by omega)) ?_
 intro z4006 k
 simp only [Act.put, pu]
 replace r4 := k.row r4 (by simp <;> omega)
 replace r7 := k.row r7 (by simp <;> omega)
 replace sb := sb.trans (k.below w.heap.size sb.size (by simp <;> omega))
 clear k
 refine pw_mv (by rfl) rfl rfl ?_
 simp only [Act.put, pu]
 refine pw_ext (by rfl) rfl rfl rfl ?_
 simp only [Act.put, pu]
 refine pw_ext (by rfl) rfl rfl rfl ?_
 simp only [Act.put, pu]
 refine pw_new (by rfl) 25 rfl _ zero_fr ?_
 intro g9 z4010 n0 r9 k
 simp only [Act.put, pu]
 have d4x9 := Nat.lt_of_lt_of_le r4.lt n0
 have d7x9 := Nat.lt_of_lt_of_le r7.lt n0
 have b9 := Nat.le_trans sb.size n0
 clear n0
 replace r4 := k.row r4 (by simp <;> omega)
 replace r7 := k.row r7 (by simp <;> omega)
 replace sb := sb.trans (k.below w.heap.size sb.size (by simp <;> omega))
 clear k
 refine pw_put (by rfl) 25 _ _ rfl _ rfl r9 (frC x y b (tagL k b x y)) rfl (by exact size_fr) (by rfl) (fr_one _ _ _ _) ?_
 clear r9
 intro z4011 r9 k
 simp only [Act.put]
 replace r4 := k.row r4 (by simp <;> omega)
 replace r7 := k.row r7 (by simp <;> omega)
 replace sb := sb.trans (k.below w.heap.size sb.size (by simp <;> omega))
 clear k
 refine pw_as (by rfl) rfl rfl ?_
 simp only [Act.put, pu]
 refine pw_nil ?_
 (repeat ((fail_if_success with_reducible refine rg ?_); go_step))
 refine wp_region_pw ?_
 refine pw_loadm (by rfl) 25 _ rfl _ (0) rfl r7.r (frC x y b (tagL k b x y)) (part_allF _) _ Tryd.underlying25 rfl size_fr ?_
 simp only [Act.put, pu]
 refine pw_loadm (by rfl) 25 _ rfl _ (0) rfl r9.r (frC x y b (tagL k b x y)) (part_allF _) _ Tryd.underlying25 rfl size_fr ?_
 simp only [Act.put, pu]
 refine pw_value (by rfl) (.bool true) (exec_eql_fr _ _ _ rfl x y x y b (tagL k b x y) b (tagL k b x y) rfl rfl true (by simp)) ?_
 simp only [Act.put, pu]
 refine pw_mv (by rfl) rfl rfl ?_
 simp only [Act.put, pu]
 refine pw_mv (by rfl) rfl rfl ?_
 simp only [Act.put, pu]
 refine pw_mv (by rfl) rfl rfl ?_
 simp only [Act.put, pu]
 refine pw_value (by rfl) (.bool true) (x_eqI _ _ _ _ rfl .i64 0 0 rfl rfl true (by decide)) ?_
 simp only [Act.put, pu]
 refine pw_pick (by rfl) true (v := .bool true) rfl rfl rfl ?_
 simp only [Act.put, pu]
 refine pw_mv (by rfl) rfl rfl ?_
 simp only [Act.put, pu]
 refine pw_mv (by rfl) rfl rfl ?_
 simp only [Act.put, pu]
 refine pw_value (by rfl) (.bool false) (x_neI _ _ _ _ rfl .i64 0 0 rfl rfl false (by decide)) ?_
 simp only [Act.put, pu]
 refine pw_mv (by rfl) rfl rfl ?_
 simp only [Act.put, pu]
 refine pw_mv (by rfl) rfl rfl ?_
 simp only [Act.put, pu]
 refine pw_loadm (by rfl) 25 _ rfl _ (0) rfl r7.r (frC x y b (tagL k b x y)) (part_allF _) _ Tryd.underlying25 rfl size_fr ?_
 simp only [Act.put, pu]
 refine pw_callB (by rfl) 10 _ _ rfl Tryd.func10 (by kernel_rfl) #[.string ⟨k.toArray⟩, .agg (frC x y b (tagL k b x y))] rfl _ (opens_self k b x y _ h (by omega) (by omega) (kT.below sb)) ?_
 intro z5014 k
 simp only [Act.put, pu]
 replace r7 := k.row r7 (by simp <;> omega)
 replace r9 := k.row r9 (by simp <;> omega)
 replace sb := sb.trans (k.below w.heap.size sb.size (by simp <;> omega))
 clear k
 refine pw_pick (by rfl) false (v := .bool true) rfl rfl rfl ?_
 simp only [Act.put, pu]
 refine pw_pick (by rfl) true (v := .bool true) rfl rfl rfl ?_
 simp only [Act.put, pu]
 refine pw_mv (by rfl) rfl rfl ?_
 simp only [Act.put, pu]
 refine pw_callB (by rfl) 7 _ _ rfl Tryd.func7 (by kernel_rfl) #[] rfl _ (awake19_any _ (kT.below sb)) ?_
 intro z5018 k
 simp only [Act.put, pu]
 replace r7 := k.row r7 (by simp <;> omega)
 replace r9 := k.row r9 (by simp <;> omega)
 replace sb := sb.trans (k.below w.heap.size sb.size (by simp <;> omega))
 clear k
 refine pw_pick (by rfl) true (v := .bool true) rfl rfl rfl ?_
 simp only [Act.put, pu]
 refine pw_as (by rfl) rfl rfl ?_
 simp only [Act.put, pu]
 refine pw_nil ?_
 go_wp2
 go_ret
 exact ⟨rfl, sb⟩
set_option maxRecDepth 100000 in
set_option maxHeartbeats 2000000 in
theorem walk (k : List UInt8) (x y : Int) (b : List UInt8) (w : World) (kT : KT w) :
  Calls Tryd.prog 3 #[.string ⟨k.toArray⟩, .agg #[.int .i64 x, .int .i64 y], .string ⟨b.toArray⟩] w fun e w' => e = .returned (.bool true) ∧ Below w.heap.size w w' := by
 by_cases h1 : 100 < k.length
 ·exact long1 k x y b w kT h1
 by_cases h2 : 512 < b.length
 ·exact long2 k x y b w kT (by omega) h2
 cases h : enB x y with
 | false => exact no k x y b w kT (by omega) (by omega) h
 | true => exact ok k x y b w kT (by omega) (by omega) h
set_option maxRecDepth 100000 in
theorem lifted (os : Os) (started : os.Started) (H : Type) (enc : TypeId × Value → H) :
  ReturnsInHanded {} Tryd.checked os 3 .any (fun w args => (Rows.frameSealsSpec.pre enc Tryd.prog Tryd.f3 [] false w args ∧ laidMetH Tryd.prog lk w) ∧ sizedMet enc Tryd.prog Tryd.f3 (OpenSpec.ofChange Rows.frameSealsSpec) false w args)
   (Rows.frameSealsSpec.post enc Tryd.prog Tryd.f3 false true false false) := by
 refine returnsInHanded_of_change_and (C := Tryd.checked) (X := fun w _ => laidMetH Tryd.prog lk w) (fun _ _ _ hh h => h.of_heap hh) own started (by kernel_rfl) Tryd.func3
  (ChangeSpec.witness_shaped (enc := enc) (C := Tryd.checked) (os := os) (X := fun w _ => laidMetH Tryd.prog lk w) false (World.doorLaid Tryd.prog 14 os) #[.string ⟨#[]⟩, .agg #[.int .i64 0, .int .i64 0], .string ⟨#[]⟩] 8 rfl (World.shaped_of_RefB (by kernel_rfl) (by kernel_rfl)) (by kernel_rfl) (by kernel_rfl) (by kernel_rfl) (door_met os _)) ?_
 intro W base args ds gs before hval0 hW _ _ hL _
 have hval : ∀ (j : Nat) t v, Tryd.f3.params[j]? = some t → args[j]? = some v → Value.okWide Tryd.prog W .any base t v := hval0
 have hW' := hW
 obtain ⟨p, q, hA0, hV, rfl, hfz, hnd⟩ := hW
 have hA : DataW.TrodAll enc Tryd.prog W 0 (fun _ => true) true Tryd.f3.params.toList args.toList ds p := hA0
 rw [Tryd.params3] at hA hval
 obtain ⟨v0, vs0, d0, ds0, p0, q0, hargs, rfl, rfl, h0, r0⟩ := trodAll_cons hA
 obtain ⟨v1, vs1, d1, ds1, p1, q1, rfl, rfl, rfl, h1, r1⟩ := trodAll_cons r0
 obtain ⟨v2, vs2, d2, ds2, p2, q2, rfl, rfl, rfl, h2, r2⟩ := trodAll_cons r1
 obtain ⟨rfl, rfl, rfl⟩ := trodAll_nil r2
 obtain rfl : args = #[v0, v1, v2] := by cases args; simp_all
 obtain ⟨rfl, rfl⟩ := trodVars_none hV
 have k0 := h0
 have lt0 := lt_of_trod h0
 obtain ⟨⟨⟨s0⟩⟩, rfl, rfl, rfl, w0⟩ := open_string Tryd.underlying9 (hval 0 9 v0 rfl rfl) h0
 have k1 := h1
 have lt1 := lt_of_trod h1
 obtain ⟨x1, y1, rfl⟩ := open_i2F (hval 1 22 v1 rfl rfl) h1
 have k2 := h2
 have lt2 := lt_of_trod h2
 obtain ⟨⟨⟨s2⟩⟩, rfl, rfl, rfl, w2⟩ := open_string Tryd.underlying9 (hval 2 9 v2 rfl rfl) h2
 clear hA0 hval0
 refine (walk s0 x1 y1 s2 W (kt_of_laid hL)).mono fun e W' ⟨he, bel⟩ => ?_
 subst he
 exact ⟨_, rfl, _, _, _, [], _, [], hW', trodAll_mk1 (shut_bool Tryd.underlying4 _), (trodAll_cons_mk (Below.trod laidOut (by kernel_rfl) (of_decide_eq_true (by kernel_rfl)) k0 bel lt0) (trodAll_cons_mk (Below.trod laidOut (by kernel_rfl) (of_decide_eq_true (by kernel_rfl)) k1 bel lt1) (trodAll_cons_mk (Below.trod laidOut (by kernel_rfl) (of_decide_eq_true (by kernel_rfl)) k2 bel lt2) trodAll_mk0))), rfl, bel.frame _, fun h => by cases h⟩
theorem over : Rows.frameSealsRow.holds Tryd.pinned (OpenSpec.ofChange Rows.frameSealsSpec) :=
 OpenClaim.holds_of_wide 3 Tryd.f3 rfl rfl rfl rfl rfl rfl rfl ⟨rfl, rfl, rfl, rfl, rfl⟩ rfl rfl rfl rfl rfl (by kernel_rfl) Tryd.func3 (by kernel_rfl)
  (of_decide_eq_true (by kernel_rfl)) (by unfold Func.isWrapper; first | (rw [if_pos (by decide +kernel)]; kernel_rfl) | (rw [if_neg (by decide +kernel)]; exact ⟨rfl, rfl⟩))
  (fun os started H enc _ => lifted os started H enc)
theorem card : Claim7.holds Tryd.pinned (.plain (OpenSpec.ofChange Rows.frameSealsSpec)) Rows.frameSealsCard :=
 Claim7.holds_tied_plain_at .later [] [.data] true (true, "4aafef69a7dd7adb73bc07568f366d918c24b00c14405ec6e35df4f3ae694b45") false
  over (fun _ h => by cases h) (by kernel_rfl) (fun _ h => by cases h) frameSeals_row_tie rfl ⟨rfl, rfl⟩ (by kernel_rfl) rfl
  (fun f fn hf hfn => by
   obtain rfl : f = 3 := Option.some.inj ((show Tryd.prog.funcNamed "sacristy/sacristylaw19.FrameSeals" = some 3 by kernel_rfl).symm.trans hf) |>.symm
   obtain rfl : fn = Tryd.f3 := (Option.some.inj (Tryd.func3.symm.trans hfn)).symm
   exact ⟨by kernel_rfl, fun j t ht => by
    rw [Tryd.params3] at ht
    have hm : t ∈ [9, 22, 9] := by simpa using Array.mem_of_getElem? ht
    have hall : ([9, 22, 9].all fun u => !Tryd.prog.wantsStandIn u) = true := by kernel_rfl
    exact (show Tryd.prog.wantsStandIn t = false by simpa using List.all_eq_true.1 hall t hm)⟩)
  (by kernel_rfl)
end Go.Proofs.YtdanmnhknmepiaaDoor.frameSealsP
namespace Go.Proofs.YtdanmnhknmepiaaDoor
theorem frameSeals_holds : Rows.FrameSealsCardSaid := frameSealsP.card
end Go.Proofs.YtdanmnhknmepiaaDoor
