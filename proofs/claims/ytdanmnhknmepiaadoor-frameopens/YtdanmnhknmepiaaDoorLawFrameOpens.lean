/- The law FrameOpens of layer 19 holds for every input: frame.Opens answers as the document does. No condition (the constants are tied to the program's text). -/
import Derived.Test.YtdanmnhknmepiaaDoorFrOpen
import Derived.Test.YtdanmnhknmepiaaDoorFrAwake
namespace Go.Proofs.YtdanmnhknmepiaaDoor.frameOpensP
open Go.ChangeShapes Go.WideShapes Go.ChangeAt Go.RowKit
open Go.ChangeMaps (open_string shut_string)
set_option linter.unusedVariables false
set_option maxRecDepth 100000 in
set_option maxHeartbeats 2000000 in
theorem long1 (k : List UInt8) (x y : Int) (b t : List UInt8) (w : World) (kT : KT w) (h : 100 < k.length) :
  Calls Tryd.prog 4 #[.string ⟨k.toArray⟩, .agg (frC x y b t)] w fun e w' => e = .returned (.bool true) ∧ Below w.heap.size w w' := by
 go_enter Tryd.func4, Tryd.ntmps4
 (repeat ((fail_if_success with_reducible refine rg ?_); go_step))
 refine wp_region_pw ?_
 refine pw_boxr (by rfl) 25 _ rfl (frC x y b t) rfl ?_
 intro g3 z0 n0 r3 k
 simp only [Act.put, pu]
 have b3 : w.heap.size ≤ g3 := n0
 clear n0
 have sb := k.below w.heap.size (Nat.le_refl _) (by simp)
 clear k
 refine pw_value (by rfl) (.bool false) (fun _ => rfl) ?_
 simp only [Act.put, pu]
 refine pw_nil ?_
 (repeat ((fail_if_success with_reducible refine rg ?_); go_step))
 refine wp_region_pw ?_
 refine pw_mv (by rfl) rfl rfl ?_
 simp only [Act.put, pu]
 refine pw_value (by rfl) (.int .i64 (k.length : Nat)) (y_lenS _ _ rfl k rfl Tryd.underlying9) ?_
 simp only [Act.put, pu]
 refine pw_value (by rfl) (.bool true) (x_gt _ _ _ _ rfl (k.length : Nat) 100 rfl rfl true (decide_eq_true (by omega))) ?_
 simp only [Act.put, pu]
 refine pw_mv (by rfl) rfl rfl ?_
 simp only [Act.put, pu]
 refine pw_skip (by rfl) ?_
 simp only [Act.put, pu]
 refine pw_skip (by rfl) ?_
 simp only [Act.put, pu]
 refine pw_skip (by rfl) ?_
 simp only [Act.put, pu]
 refine pw_skip (by rfl) ?_
 simp only [Act.put, pu]
 refine pw_pick (by rfl) true (v := .bool true) rfl rfl rfl ?_
 simp only [Act.put, pu]
 refine pw_mv (by rfl) rfl rfl ?_
 simp only [Act.put, pu]
 refine pw_skip (by rfl) ?_
 simp only [Act.put, pu]
 refine pw_skip (by rfl) ?_
 simp only [Act.put, pu]
 refine pw_skip (by rfl) ?_
 simp only [Act.put, pu]
 refine pw_skip (by rfl) ?_
 simp only [Act.put, pu]
 refine pw_pick (by rfl) true (v := .bool true) rfl rfl rfl ?_
 simp only [Act.put, pu]
 refine pw_nil ?_
 (repeat ((fail_if_success with_reducible refine rg ?_); go_step))
 refine wp_region_pw ?_
 refine pw_callB (by rfl) 7 _ _ rfl Tryd.func7 (by kernel_rfl) #[] rfl _ (awake19_any _ (kT.below sb)) ?_
 intro z2000 k
 simp only [Act.put, pu]
 replace sb := sb.trans (k.below w.heap.size sb.size (by simp <;> omega))
 clear k
 refine pw_as (by rfl) rfl rfl ?_
 simp only [Act.put, pu]
 refine pw_nil ?_
 go_wp2
 go_ret
 exact ⟨rfl, sb⟩
set_option maxRecDepth 100000 in
set_option maxHeartbeats 2000000 in
theorem long2 (k : List UInt8) (x y : Int) (b t : List UInt8) (w : World) (kT : KT w) (h : k.length ≤ 100) (h2 : 512 < b.length) :
  Calls Tryd.prog 4 #[.string ⟨k.toArray⟩, .agg (frC x y b t)] w fun e w' => e = .returned (.bool true) ∧ Below w.heap.size w w' := by
 go_enter Tryd.func4, Tryd.ntmps4
 (repeat ((fail_if_success with_reducible refine rg ?_); go_step))
 refine wp_region_pw ?_
 refine pw_boxr (by rfl) 25 _ rfl (frC x y b t) rfl ?_
 intro g3 z0 n0 r3 k
 simp only [Act.put, pu]
 have b3 : w.heap.size ≤ g3 := n0
 clear n0
 have sb := k.below w.heap.size (Nat.le_refl _) (by simp)
 clear k
 refine pw_value (by rfl) (.bool false) (fun _ => rfl) ?_
 simp only [Act.put, pu]
 refine pw_nil ?_
 (repeat ((fail_if_success with_reducible refine rg ?_); go_step))
 refine wp_region_pw ?_
 refine pw_mv (by rfl) rfl rfl ?_
 simp only [Act.put, pu]
 refine pw_value (by rfl) (.int .i64 (k.length : Nat)) (y_lenS _ _ rfl k rfl Tryd.underlying9) ?_
 simp only [Act.put, pu]
 refine pw_value (by rfl) (.bool false) (x_gt _ _ _ _ rfl (k.length : Nat) 100 rfl rfl false (decide_eq_false (by omega))) ?_
 simp only [Act.put, pu]
 refine pw_mv (by rfl) rfl rfl ?_
 simp only [Act.put, pu]
 refine pw_value (by rfl) (.pointer (some ⟨g3, 2, none⟩)) (exec_field 25 _ 2 rfl g3 0 rfl _ Tryd.underlying25 _ rfl 0 Tryd.sizeOf9) ?_
 simp only [Act.put, pu]
 refine pw_loadk (by rfl) 9 _ rfl _ (2) rfl r3.r (.string ⟨b.toArray⟩) rfl Tryd.isAgg9 ?_
 simp only [Act.put, pu]
 refine pw_value (by rfl) (.int .i64 (b.length : Nat)) (y_lenS _ _ rfl b rfl Tryd.underlying9) ?_
 simp only [Act.put, pu]
 refine pw_value (by rfl) (.bool true) (x_gt _ _ _ _ rfl (b.length : Nat) 512 rfl rfl true (decide_eq_true (by omega))) ?_
 simp only [Act.put, pu]
 refine pw_pick (by rfl) false (v := .bool true) rfl rfl rfl ?_
 simp only [Act.put, pu]
 refine pw_mv (by rfl) rfl rfl ?_
 simp only [Act.put, pu]
 refine pw_skip (by rfl) ?_
 simp only [Act.put, pu]
 refine pw_skip (by rfl) ?_
 simp only [Act.put, pu]
 refine pw_skip (by rfl) ?_
 simp only [Act.put, pu]
 refine pw_skip (by rfl) ?_
 simp only [Act.put, pu]
 refine pw_pick (by rfl) true (v := .bool true) rfl rfl rfl ?_
 simp only [Act.put, pu]
 refine pw_nil ?_
 (repeat ((fail_if_success with_reducible refine rg ?_); go_step))
 refine wp_region_pw ?_
 refine pw_callB (by rfl) 7 _ _ rfl Tryd.func7 (by kernel_rfl) #[] rfl _ (awake19_any _ (kT.below sb)) ?_
 intro z2000 k
 simp only [Act.put, pu]
 replace sb := sb.trans (k.below w.heap.size sb.size (by simp <;> omega))
 clear k
 refine pw_as (by rfl) rfl rfl ?_
 simp only [Act.put, pu]
 refine pw_nil ?_
 go_wp2
 go_ret
 exact ⟨rfl, sb⟩
set_option maxRecDepth 100000 in
set_option maxHeartbeats 2000000 in
theorem long3 (k : List UInt8) (x y : Int) (b t : List UInt8) (w : World) (kT : KT w) (h : k.length ≤ 100) (h2 : b.length ≤ 512) (h3 : 100 < t.length) :
  Calls Tryd.prog 4 #[.string ⟨k.toArray⟩, .agg (frC x y b t)] w fun e w' => e = .returned (.bool true) ∧ Below w.heap.size w w' := by
 go_enter Tryd.func4, Tryd.ntmps4
 (repeat ((fail_if_success with_reducible refine rg ?_); go_step))
 refine wp_region_pw ?_
 refine pw_boxr (by rfl) 25 _ rfl (frC x y b t) rfl ?_
 intro g3 z0 n0 r3 k
 simp only [Act.put, pu]
 have b3 : w.heap.size ≤ g3 := n0
 clear n0
 have sb := k.below w.heap.size (Nat.le_refl _) (by simp)
 clear k
 refine pw_value (by rfl) (.bool false) (fun _ => rfl) ?_
 simp only [Act.put, pu]
 refine pw_nil ?_
 (repeat ((fail_if_success with_reducible refine rg ?_); go_step))
 refine wp_region_pw ?_
 refine pw_mv (by rfl) rfl rfl ?_
 simp only [Act.put, pu]
 refine pw_value (by rfl) (.int .i64 (k.length : Nat)) (y_lenS _ _ rfl k rfl Tryd.underlying9) ?_
 simp only [Act.put, pu]
 refine pw_value (by rfl) (.bool false) (x_gt _ _ _ _ rfl (k.length : Nat) 100 rfl rfl false (decide_eq_false (by omega))) ?_
 simp only [Act.put, pu]
 refine pw_mv (by rfl) rfl rfl ?_
 simp only [Act.put, pu]
 refine pw_value (by rfl) (.pointer (some ⟨g3, 2, none⟩)) (exec_field 25 _ 2 rfl g3 0 rfl _ Tryd.underlying25 _ rfl 0 Tryd.sizeOf9) ?_
 simp only [Act.put, pu]
 refine pw_loadk (by rfl) 9 _ rfl _ (2) rfl r3.r (.string ⟨b.toArray⟩) rfl Tryd.isAgg9 ?_
 simp only [Act.put, pu]
 refine pw_value (by rfl) (.int .i64 (b.length : Nat)) (y_lenS _ _ rfl b rfl Tryd.underlying9) ?_
 simp only [Act.put, pu]
 refine pw_value (by rfl) (.bool false) (x_gt _ _ _ _ rfl (b.length : Nat) 512 rfl rfl false (decide_eq_false (by omega))) ?_
 simp only [Act.put, pu]
 refine pw_pick (by rfl) false (v := .bool false) rfl rfl rfl ?_
 simp only [Act.put, pu]
 refine pw_mv (by rfl) rfl rfl ?_
 simp only [Act.put, pu]
 refine pw_value (by rfl) (.pointer (some ⟨g3, 3, none⟩)) (exec_field 25 _ 3 rfl g3 0 rfl _ Tryd.underlying25 _ rfl 0 Tryd.sizeOf9) ?_
 simp only [Act.put, pu]
 refine pw_loadk (by rfl) 9 _ rfl _ (3) rfl r3.r (.string ⟨t.toArray⟩) rfl Tryd.isAgg9 ?_
 simp only [Act.put, pu]
 refine pw_value (by rfl) (.int .i64 (t.length : Nat)) (y_lenS _ _ rfl t rfl Tryd.underlying9) ?_
 simp only [Act.put, pu]
 refine pw_value (by rfl) (.bool true) (x_gt _ _ _ _ rfl (t.length : Nat) 100 rfl rfl true (decide_eq_true (by omega))) ?_
 simp only [Act.put, pu]
 refine pw_pick (by rfl) false (v := .bool true) rfl rfl rfl ?_
 simp only [Act.put, pu]
 refine pw_nil ?_
 (repeat ((fail_if_success with_reducible refine rg ?_); go_step))
 refine wp_region_pw ?_
 refine pw_callB (by rfl) 7 _ _ rfl Tryd.func7 (by kernel_rfl) #[] rfl _ (awake19_any _ (kT.below sb)) ?_
 intro z2000 k
 simp only [Act.put, pu]
 replace sb := sb.trans (k.below w.heap.size sb.size (by simp <;> omega))
 clear k
 refine pw_as (by rfl) rfl rfl ?_
 simp only [Act.put, pu]
 refine pw_nil ?_
 go_wp2
 go_ret
 exact ⟨rfl, sb⟩
set_option maxRecDepth 100000 in
set_option maxHeartbeats 2000000 in
theorem no (k : List UInt8) (x y : Int) (b t : List UInt8) (w : World) (kT : KT w) (h1 : k.length ≤ 100) (h2 : b.length ≤ 512) (h3 : t.length ≤ 100) (h : enB x y = false) :
  Calls Tryd.prog 4 #[.string ⟨k.toArray⟩, .agg (frC x y b t)] w fun e w' => e = .returned (.bool true) ∧ Below w.heap.size w w' := by
 go_enter Tryd.func4, Tryd.ntmps4
 (repeat ((fail_if_success with_reducible refine rg ?_); go_step))
 refine wp_region_pw ?_
 refine pw_boxr (by rfl) 25 _ rfl (frC x y b t) rfl ?_
 intro g3 z0 n0 r3 k
 simp only [Act.put, pu]
 have b3 : w.heap.size ≤ g3 := n0
 clear n0
 have sb := k.below w.heap.size (Nat.le_refl _) (by simp)
 clear k
 refine pw_value (by rfl) (.bool false) (fun _ => rfl) ?_
 simp only [Act.put, pu]
 refine pw_nil ?_
 (repeat ((fail_if_success with_reducible refine rg ?_); go_step))
 refine wp_region_pw ?_
 refine pw_mv (by rfl) rfl rfl ?_
 simp only [Act.put, pu]
 refine pw_value (by rfl) (.int .i64 (k.length : Nat)) (y_lenS _ _ rfl k rfl Tryd.underlying9) ?_
 simp only [Act.put, pu]
 refine pw_value (by rfl) (.bool false) (x_gt _ _ _ _ rfl (k.length : Nat) 100 rfl rfl false (decide_eq_false (by omega))) ?_
 simp only [Act.put, pu]
 refine pw_mv (by rfl) rfl rfl ?_
 simp only [Act.put, pu]
 refine pw_value (by rfl) (.pointer (some ⟨g3, 2, none⟩)) (exec_field 25 _ 2 rfl g3 0 rfl _ Tryd.underlying25 _ rfl 0 Tryd.sizeOf9) ?_
 simp only [Act.put, pu]
 refine pw_loadk (by rfl) 9 _ rfl _ (2) rfl r3.r (.string ⟨b.toArray⟩) rfl Tryd.isAgg9 ?_
 simp only [Act.put, pu]
 refine pw_value (by rfl) (.int .i64 (b.length : Nat)) (y_lenS _ _ rfl b rfl Tryd.underlying9) ?_
 simp only [Act.put, pu]
 refine pw_value (by rfl) (.bool false) (x_gt _ _ _ _ rfl (b.length : Nat) 512 rfl rfl false (decide_eq_false (by omega))) ?_
 simp only [Act.put, pu]
 refine pw_pick (by rfl) false (v := .bool false) rfl rfl rfl ?_
 simp only [Act.put, pu]
 refine pw_mv (by rfl) rfl rfl ?_
 simp only [Act.put, pu]
 refine pw_value (by rfl) (.pointer (some ⟨g3, 3, none⟩)) (exec_field 25 _ 3 rfl g3 0 rfl _ Tryd.underlying25 _ rfl 0 Tryd.sizeOf9) ?_
 simp only [Act.put, pu]
 refine pw_loadk (by rfl) 9 _ rfl _ (3) rfl r3.r (.string ⟨t.toArray⟩) rfl Tryd.isAgg9 ?_
 simp only [Act.put, pu]
 refine pw_value (by rfl) (.int .i64 (t.length : Nat)) (y_lenS _ _ rfl t rfl Tryd.underlying9) ?_
 simp only [Act.put, pu]
 refine pw_value (by rfl) (.bool false) (x_gt _ _ _ _ rfl (t.length : Nat) 100 rfl rfl false (decide_eq_false (by omega))) ?_
 simp only [Act.put, pu]
 refine pw_pick (by rfl) false (v := .bool false) rfl rfl rfl ?_
 simp only [Act.put, pu]
 refine pw_nil ?_
 replace kT := kT.below sb
 (repeat ((fail_if_success with_reducible refine rg ?_); go_step))
 refine wp_region_qw (by kernel_rfl) (by kernel_rfl) ?_
 refine qw_move (by rfl) rfl rfl ?_
 simp only [Act.put, pu]
 refine qw_loadm (by rfl) 25 _ rfl _ (0) rfl r3 (frC x y b t) (part_allF _) _ Tryd.underlying25 rfl size_fr ?_
 simp only [Act.put, pu]
 refine qw_callK (by rfl) 10 _ _ rfl Tryd.func10 (by kernel_rfl) #[.string ⟨k.toArray⟩, .agg (frC x y b t)] rfl _ (fun w' hb => opens_no k b t x y w' (.inl h)) ?_
 simp only [Act.put, pu]
 refine qw_move (by rfl) rfl rfl ?_
 simp only [Act.put, pu]
 refine qw_loadm (by rfl) 25 _ rfl _ (0) rfl r3 (frC x y b t) (part_allF _) _ Tryd.underlying25 rfl size_fr ?_
 simp only [Act.put, pu]
 refine qw_call (by rfl) 11 _ _ rfl Tryd.func11 (by kernel_rfl) #[.string ⟨k.toArray⟩, .agg (frC x y b t)] rfl _ (fun w' => ropens_no k b t x y w' h) ?_
 simp only [Act.put, pu]
 refine qw_value (by rfl) (.bool true) (exec_eql_bool _ _ _ _ rfl false rfl rfl Tryd.underlying4) ?_
 simp only [Act.put, pu]
 refine qw_move (by rfl) rfl rfl ?_
 simp only [Act.put, pu]
 refine qw_callK (by rfl) 7 _ _ rfl Tryd.func7 (by kernel_rfl) #[] rfl _ (fun w' hb => awake19_any w' (kT.below hb)) ?_
 simp only [Act.put, pu]
 refine qw_pick true (v := .bool true) (by rfl) rfl rfl rfl ?_
 simp only [Act.put, pu]
 refine qw_asg (by rfl) rfl rfl ?_
 simp only [Act.put, pu]
 refine qw_nil ?_
 intro w4 hqb
 replace sb := below_on sb (Nat.le_refl _) hqb
 clear hqb
 go_wp2
 go_ret
 exact ⟨rfl, sb⟩
set_option maxRecDepth 100000 in
set_option maxHeartbeats 2000000 in
theorem ok (k : List UInt8) (x y : Int) (b t : List UInt8) (w : World) (kT : KT w) (h1 : k.length ≤ 100) (h2 : b.length ≤ 512) (h3 : t.length ≤ 100) (h : enB x y = true) :
  Calls Tryd.prog 4 #[.string ⟨k.toArray⟩, .agg (frC x y b t)] w fun e w' => e = .returned (.bool true) ∧ Below w.heap.size w w' := by
 go_enter Tryd.func4, Tryd.ntmps4
 (repeat ((fail_if_success with_reducible refine rg ?_); go_step))
 refine wp_region_pw ?_
 refine pw_boxr (by rfl) 25 _ rfl (frC x y b t) rfl ?_
 intro g3 z0 n0 r3 k
 simp only [Act.put, pu]
 have b3 : w.heap.size ≤ g3 := n0
 clear n0
 have sb := k.below w.heap.size (Nat.le_refl _) (by simp)
 clear k
 refine pw_value (by rfl) (.bool false) (fun _ => rfl) ?_
 simp only [Act.put, pu]
 refine pw_nil ?_
 (repeat ((fail_if_success with_reducible refine rg ?_); go_step))
 refine wp_region_pw ?_
 refine pw_mv (by rfl) rfl rfl ?_
 simp only [Act.put, pu]
 refine pw_value (by rfl) (.int .i64 (k.length : Nat)) (y_lenS _ _ rfl k rfl Tryd.underlying9) ?_
 simp only [Act.put, pu]
 refine pw_value (by rfl) (.bool false) (x_gt _ _ _ _ rfl (k.length : Nat) 100 rfl rfl false (decide_eq_false (by omega))) ?_
 simp only [Act.put, pu]
 refine pw_mv (by rfl) rfl rfl ?_
 simp only [Act.put, pu]
 refine pw_value (by rfl) (.pointer (some ⟨g3, 2, none⟩)) (exec_field 25 _ 2 rfl g3 0 rfl _ Tryd.underlying25 _ rfl 0 Tryd.sizeOf9) ?_
 simp only [Act.put, pu]
 refine pw_loadk (by rfl) 9 _ rfl _ (2) rfl r3.r (.string ⟨b.toArray⟩) rfl Tryd.isAgg9 ?_
 simp only [Act.put, pu]
 refine pw_value (by rfl) (.int .i64 (b.length : Nat)) (y_lenS _ _ rfl b rfl Tryd.underlying9) ?_
 simp only [Act.put, pu]
 refine pw_value (by rfl) (.bool false) (x_gt _ _ _ _ rfl (b.length : Nat) 512 rfl rfl false (decide_eq_false (by omega))) ?_
 simp only [Act.put, pu]
 refine pw_pick (by rfl) false (v := .bool false) rfl rfl rfl ?_
 simp only [Act.put, pu]
 refine pw_mv (by rfl) rfl rfl ?_
 simp only [Act.put, pu]
 refine pw_value (by rfl) (.pointer (some ⟨g3, 3, none⟩)) (exec_field 25 _ 3 rfl g3 0 rfl _ Tryd.underlying25 _ rfl 0 Tryd.sizeOf9) ?_
 simp only [Act.put, pu]
 refine pw_loadk (by rfl) 9 _ rfl _ (3) rfl r3.r (.string ⟨t.toArray⟩) rfl Tryd.isAgg9 ?_
 simp only [Act.put, pu]
 refine pw_value (by rfl) (.int .i64 (t.length : Nat)) (y_lenS _ _ rfl t rfl Tryd.underlying9) ?_
 simp only [Act.put, pu]
 refine pw_value (by rfl) (.bool false) (x_gt _ _ _ _ rfl (t.length : Nat) 100 rfl rfl false (decide_eq_false (by omega))) ?_
 simp only [Act.put, pu]
 refine pw_pick (by rfl) false (v := .bool false) rfl rfl rfl ?_
 simp only [Act.put, pu]
 refine pw_nil ?_
 replace kT := kT.below sb
 (repeat ((fail_if_success with_reducible refine rg ?_); go_step))
 refine wp_region_qw (by kernel_rfl) (by kernel_rfl) ?_
 refine qw_move (by rfl) rfl rfl ?_
 simp only [Act.put, pu]
 refine qw_loadm (by rfl) 25 _ rfl _ (0) rfl r3 (frC x y b t) (part_allF _) _ Tryd.underlying25 rfl size_fr ?_
 simp only [Act.put, pu]
 refine qw_callK (by rfl) 10 _ _ rfl Tryd.func10 (by kernel_rfl) #[.string ⟨k.toArray⟩, .agg (frC x y b t)] rfl _ (fun w' hb => opens_ok k b t x y w' h (by omega) (by omega) (kT.below hb)) ?_
 simp only [Act.put, pu]
 refine qw_move (by rfl) rfl rfl ?_
 simp only [Act.put, pu]
 refine qw_loadm (by rfl) 25 _ rfl _ (0) rfl r3 (frC x y b t) (part_allF _) _ Tryd.underlying25 rfl size_fr ?_
 simp only [Act.put, pu]
 refine qw_call (by rfl) 11 _ _ rfl Tryd.func11 (by kernel_rfl) #[.string ⟨k.toArray⟩, .agg (frC x y b t)] rfl _ (fun w' => ropens_ok k b t x y w' h (by omega) (by omega)) ?_
 simp only [Act.put, pu]
 refine qw_value (by rfl) (.bool true) (exec_eql_bool _ _ _ _ rfl (decide (t = tagL k b x y)) rfl rfl Tryd.underlying4) ?_
 simp only [Act.put, pu]
 refine qw_move (by rfl) rfl rfl ?_
 simp only [Act.put, pu]
 refine qw_callK (by rfl) 7 _ _ rfl Tryd.func7 (by kernel_rfl) #[] rfl _ (fun w' hb => awake19_any w' (kT.below hb)) ?_
 simp only [Act.put, pu]
 refine qw_pick true (v := .bool true) (by rfl) rfl rfl rfl ?_
 simp only [Act.put, pu]
 refine qw_asg (by rfl) rfl rfl ?_
 simp only [Act.put, pu]
 refine qw_nil ?_
 intro w4 hqb
 replace sb := below_on sb (Nat.le_refl _) hqb
 clear hqb
 go_wp2
 go_ret
 exact ⟨rfl, sb⟩
set_option maxRecDepth 100000 in
set_option maxHeartbeats 2000000 in
theorem walk (k : List UInt8) (x y : Int) (b t : List UInt8) (w : World) (kT : KT w) :
  Calls Tryd.prog 4 #[.string ⟨k.toArray⟩, .agg (frC x y b t)] w fun e w' => e = .returned (.bool true) ∧ Below w.heap.size w w' := by
 by_cases h1 : 100 < k.length
 ·exact long1 k x y b t w kT h1
 by_cases h2 : 512 < b.length
 ·exact long2 k x y b t w kT (by omega) h2
 by_cases h3 : 100 < t.length
 ·exact long3 k x y b t w kT (by omega) (by omega) h3
 cases h : enB x y with
 | false => exact no k x y b t w kT (by omega) (by omega) (by omega) h
 | true => exact ok k x y b t w kT (by omega) (by omega) (by omega) h
set_option maxRecDepth 100000 in
theorem lifted (os : Os) (started : os.Started) (H : Type) (enc : TypeId × Value → H) :
  ReturnsInHanded {} Tryd.checked os 4 .any (fun w args => (Rows.frameOpensSpec.pre enc Tryd.prog Tryd.f4 [] false w args ∧ laidMetH Tryd.prog lk w) ∧ sizedMet enc Tryd.prog Tryd.f4 (OpenSpec.ofChange Rows.frameOpensSpec) false w args)
   (Rows.frameOpensSpec.post enc Tryd.prog Tryd.f4 false true false false) := by
 refine returnsInHanded_of_change_and (C := Tryd.checked) (X := fun w _ => laidMetH Tryd.prog lk w) (fun _ _ _ hh h => h.of_heap hh) own started (by kernel_rfl) Tryd.func4
  (ChangeSpec.witness_shaped (enc := enc) (C := Tryd.checked) (os := os) (X := fun w _ => laidMetH Tryd.prog lk w) false (World.doorLaid Tryd.prog 14 os) #[.string ⟨#[]⟩, .agg #[.int .i64 0, .int .i64 0, .string ⟨#[]⟩, .string ⟨#[]⟩]] 8 rfl (World.shaped_of_RefB (by kernel_rfl) (by kernel_rfl)) (by kernel_rfl) (by kernel_rfl) (by kernel_rfl) (door_met os _)) ?_
 intro W base args ds gs before hval0 hW _ _ hL _
 have hval : ∀ (j : Nat) t v, Tryd.f4.params[j]? = some t → args[j]? = some v → Value.okWide Tryd.prog W .any base t v := hval0
 have hW' := hW
 obtain ⟨p, q, hA0, hV, rfl, hfz, hnd⟩ := hW
 have hA : DataW.TrodAll enc Tryd.prog W 0 (fun _ => true) true Tryd.f4.params.toList args.toList ds p := hA0
 rw [Tryd.params4] at hA hval
 obtain ⟨v0, vs0, d0, ds0, p0, q0, hargs, rfl, rfl, h0, r0⟩ := trodAll_cons hA
 obtain ⟨v1, vs1, d1, ds1, p1, q1, rfl, rfl, rfl, h1, r1⟩ := trodAll_cons r0
 obtain ⟨rfl, rfl, rfl⟩ := trodAll_nil r1
 obtain rfl : args = #[v0, v1] := by cases args; simp_all
 obtain ⟨rfl, rfl⟩ := trodVars_none hV
 have k0 := h0
 have lt0 := lt_of_trod h0
 obtain ⟨⟨⟨s0⟩⟩, rfl, rfl, rfl, w0⟩ := open_string Tryd.underlying9 (hval 0 9 v0 rfl rfl) h0
 have k1 := h1
 have lt1 := lt_of_trod h1
 obtain ⟨x1, y1, b1, t1, rfl⟩ := open_fr (hval 1 25 v1 rfl rfl) h1
 clear hA0 hval0
 refine (walk s0 x1 y1 b1 t1 W (kt_of_laid hL)).mono fun e W' ⟨he, bel⟩ => ?_
 subst he
 exact ⟨_, rfl, _, _, _, [], _, [], hW', trodAll_mk1 (shut_bool Tryd.underlying4 _), (trodAll_cons_mk (Below.trod laidOut (by kernel_rfl) (of_decide_eq_true (by kernel_rfl)) k0 bel lt0) (trodAll_cons_mk (Below.trod laidOut (by kernel_rfl) (of_decide_eq_true (by kernel_rfl)) k1 bel lt1) trodAll_mk0)), rfl, bel.frame _, fun h => by cases h⟩
theorem over : Rows.frameOpensRow.holds Tryd.pinned (OpenSpec.ofChange Rows.frameOpensSpec) :=
 OpenClaim.holds_of_wide 4 Tryd.f4 rfl rfl rfl rfl rfl rfl rfl ⟨rfl, rfl, rfl, rfl, rfl⟩ rfl rfl rfl rfl rfl (by kernel_rfl) Tryd.func4 (by kernel_rfl)
  (of_decide_eq_true (by kernel_rfl)) (by unfold Func.isWrapper; first | (rw [if_pos (by decide +kernel)]; kernel_rfl) | (rw [if_neg (by decide +kernel)]; exact ⟨rfl, rfl⟩))
  (fun os started H enc _ => lifted os started H enc)
theorem card : Claim7.holds Tryd.pinned (.plain (OpenSpec.ofChange Rows.frameOpensSpec)) Rows.frameOpensCard :=
 Claim7.holds_tied_plain_at .later [] [.data] true (true, "4aafef69a7dd7adb73bc07568f366d918c24b00c14405ec6e35df4f3ae694b45") false
  over (fun _ h => by cases h) (by kernel_rfl) (fun _ h => by cases h) frameOpens_row_tie rfl ⟨rfl, rfl⟩ (by kernel_rfl) rfl
  (fun f fn hf hfn => by
   obtain rfl : f = 4 := Option.some.inj ((show Tryd.prog.funcNamed "sacristy/sacristylaw19.FrameOpens" = some 4 by kernel_rfl).symm.trans hf) |>.symm
   obtain rfl : fn = Tryd.f4 := (Option.some.inj (Tryd.func4.symm.trans hfn)).symm
   exact ⟨by kernel_rfl, fun j t ht => by
    rw [Tryd.params4] at ht
    have hm : t ∈ [9, 25] := by simpa using Array.mem_of_getElem? ht
    have hall : ([9, 25].all fun u => !Tryd.prog.wantsStandIn u) = true := by kernel_rfl
    exact (show Tryd.prog.wantsStandIn t = false by simpa using List.all_eq_true.1 hall t hm)⟩)
  (by kernel_rfl)
end Go.Proofs.YtdanmnhknmepiaaDoor.frameOpensP
namespace Go.Proofs.YtdanmnhknmepiaaDoor
theorem frameOpens_holds : Rows.FrameOpensCardSaid := frameOpensP.card
end Go.Proofs.YtdanmnhknmepiaaDoor
