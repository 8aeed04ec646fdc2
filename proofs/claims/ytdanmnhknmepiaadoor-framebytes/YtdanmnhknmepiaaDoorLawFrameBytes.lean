/- The law FrameBytes of layer 19 holds for every input: frame.Bytes and frame.Take answer as the document does, and lead there and back. No condition (the constants are tied to the program's text). -/
import Derived.Test.YtdanmnhknmepiaaDoorFrOpen
import Derived.Test.YtdanmnhknmepiaaDoorFrAwake
namespace Go.Proofs.YtdanmnhknmepiaaDoor.frameBytesP
open Go.ChangeShapes Go.WideShapes Go.ChangeAt Go.RowKit
open Go.ChangeMaps (open_string shut_string)
set_option linter.unusedVariables false
set_option maxRecDepth 100000 in
set_option maxHeartbeats 2000000 in
theorem long1 (x y : Int) (b t s : List UInt8) (w : World) (kT : KT w) (h : 512 < b.length) :
  Calls Tryd.prog 5 #[.agg (frC x y b t), .string ⟨s.toArray⟩] w fun e w' => e = .returned (.bool true) ∧ Below w.heap.size w w' := by
 go_enter Tryd.func5, Tryd.ntmps5
 (repeat ((fail_if_success with_reducible refine rg ?_); go_step))
 refine wp_region_pw ?_
 refine pw_boxr (by rfl) 25 _ rfl (frC x y b t) rfl ?_
 intro g2 z0 n0 r2 k
 simp only [Act.put, pu]
 have b2 : w.heap.size ≤ g2 := n0
 clear n0
 have sb := k.below w.heap.size (Nat.le_refl _) (by simp)
 clear k
 refine pw_value (by rfl) (.bool false) (fun _ => rfl) ?_
 simp only [Act.put, pu]
 refine pw_nil ?_
 (repeat ((fail_if_success with_reducible refine rg ?_); go_step))
 refine wp_region_pw ?_
 refine pw_value (by rfl) (.pointer (some ⟨g2, 2, none⟩)) (exec_field 25 _ 2 rfl g2 0 rfl _ Tryd.underlying25 _ rfl 0 Tryd.sizeOf9) ?_
 simp only [Act.put, pu]
 refine pw_loadk (by rfl) 9 _ rfl _ (2) rfl r2.r (.string ⟨b.toArray⟩) rfl Tryd.isAgg9 ?_
 simp only [Act.put, pu]
 refine pw_value (by rfl) (.int .i64 (b.length : Nat)) (y_lenS _ _ rfl b rfl Tryd.underlying9) ?_
 simp only [Act.put, pu]
 refine pw_value (by rfl) (.bool true) (x_gt _ _ _ _ rfl (b.length : Nat) 512 rfl rfl true (decide_eq_true (by omega))) ?_
 simp only [Act.put, pu]
 refine pw_mv (by rfl) rfl rfl ?_
 simp only [Act.put, pu]
 refine pw_skip (by rfl) ?_
 simp only [Act.put, pu]
 refine pw_skip (by rfl) ?_
 simp only [Act.put, pu]
 refine pw_skip (by rfl) ?_
 simp only [Act.put, pu]
 refine pw_skip (by rfl) ?_
 simp only [Act.put, pu]
 refine pw_pick (by rfl) true (v := .bool true) rfl rfl rfl ?_
 simp only [Act.put, pu]
 refine pw_mv (by rfl) rfl rfl ?_
 simp only [Act.put, pu]
 refine pw_skip (by rfl) ?_
 simp only [Act.put, pu]
 refine pw_skip (by rfl) ?_
 simp only [Act.put, pu]
 refine pw_skip (by rfl) ?_
 simp only [Act.put, pu]
 refine pw_pick (by rfl) true (v := .bool true) rfl rfl rfl ?_
 simp only [Act.put, pu]
 refine pw_nil ?_
 (repeat ((fail_if_success with_reducible refine rg ?_); go_step))
 refine wp_region_pw ?_
 refine pw_callB (by rfl) 7 _ _ rfl Tryd.func7 (by kernel_rfl) #[] rfl _ (awake19_any _ (kT.below sb)) ?_
 intro z2000 k
 simp only [Act.put, pu]
 replace sb := sb.trans (k.below w.heap.size sb.size (by simp <;> omega))
 clear k
 refine pw_as (by rfl) rfl rfl ?_
 simp only [Act.put, pu]
 refine pw_nil ?_
 go_wp2
 go_ret
 exact ⟨rfl, sb⟩
set_option maxRecDepth 100000 in
set_option maxHeartbeats 2000000 in
theorem long2 (x y : Int) (b t s : List UInt8) (w : World) (kT : KT w) (h : b.length ≤ 512) (h2 : 100 < t.length) :
  Calls Tryd.prog 5 #[.agg (frC x y b t), .string ⟨s.toArray⟩] w fun e w' => e = .returned (.bool true) ∧ Below w.heap.size w w' := by
 go_enter Tryd.func5, Tryd.ntmps5
 (repeat ((fail_if_success with_reducible refine rg ?_); go_step))
 refine wp_region_pw ?_
 refine pw_boxr (by rfl) 25 _ rfl (frC x y b t) rfl ?_
 intro g2 z0 n0 r2 k
 simp only [Act.put, pu]
 have b2 : w.heap.size ≤ g2 := n0
 clear n0
 have sb := k.below w.heap.size (Nat.le_refl _) (by simp)
 clear k
 refine pw_value (by rfl) (.bool false) (fun _ => rfl) ?_
 simp only [Act.put, pu]
 refine pw_nil ?_
 (repeat ((fail_if_success with_reducible refine rg ?_); go_step))
 refine wp_region_pw ?_
 refine pw_value (by rfl) (.pointer (some ⟨g2, 2, none⟩)) (exec_field 25 _ 2 rfl g2 0 rfl _ Tryd.underlying25 _ rfl 0 Tryd.sizeOf9) ?_
 simp only [Act.put, pu]
 refine pw_loadk (by rfl) 9 _ rfl _ (2) rfl r2.r (.string ⟨b.toArray⟩) rfl Tryd.isAgg9 ?_
 simp only [Act.put, pu]
 refine pw_value (by rfl) (.int .i64 (b.length : Nat)) (y_lenS _ _ rfl b rfl Tryd.underlying9) ?_
 simp only [Act.put, pu]
 refine pw_value (by rfl) (.bool false) (x_gt _ _ _ _ rfl (b.length : Nat) 512 rfl rfl false (decide_eq_false (by omega))) ?_
 simp only [Act.put, pu]
 refine pw_mv (by rfl) rfl rfl ?_
 simp only [Act.put, pu]
 refine pw_value (by rfl) (.pointer (some ⟨g2, 3, none⟩)) (exec_field 25 _ 3 rfl g2 0 rfl _ Tryd.underlying25 _ rfl 0 Tryd.sizeOf9) ?_
 simp only [Act.put, pu]
 refine pw_loadk (by rfl) 9 _ rfl _ (3) rfl r2.r (.string ⟨t.toArray⟩) rfl Tryd.isAgg9 ?_
 simp only [Act.put, pu]
 refine pw_value (by rfl) (.int .i64 (t.length : Nat)) (y_lenS _ _ rfl t rfl Tryd.underlying9) ?_
 simp only [Act.put, pu]
 refine pw_value (by rfl) (.bool true) (x_gt _ _ _ _ rfl (t.length : Nat) 100 rfl rfl true (decide_eq_true (by omega))) ?_
 simp only [Act.put, pu]
 refine pw_pick (by rfl) false (v := .bool true) rfl rfl rfl ?_
 simp only [Act.put, pu]
 refine pw_mv (by rfl) rfl rfl ?_
 simp only [Act.put, pu]
 refine pw_skip (by rfl) ?_
 simp only [Act.put, pu]
 refine pw_skip (by rfl) ?_
 simp only [Act.put, pu]
 refine pw_skip (by rfl) ?_
 simp only [Act.put, pu]
 refine pw_pick (by rfl) true (v := .bool true) rfl rfl rfl ?_
 simp only [Act.put, pu]
 refine pw_nil ?_
 (repeat ((fail_if_success with_reducible refine rg ?_); go_step))
 refine wp_region_pw ?_
 refine pw_callB (by rfl) 7 _ _ rfl Tryd.func7 (by kernel_rfl) #[] rfl _ (awake19_any _ (kT.below sb)) ?_
 intro z2000 k
 simp only [Act.put, pu]
 replace sb := sb.trans (k.below w.heap.size sb.size (by simp <;> omega))
 clear k
 refine pw_as (by rfl) rfl rfl ?_
 simp only [Act.put, pu]
 refine pw_nil ?_
 go_wp2
 go_ret
 exact ⟨rfl, sb⟩
set_option maxRecDepth 100000 in
set_option maxHeartbeats 2000000 in
theorem long3 (x y : Int) (b t s : List UInt8) (w : World) (kT : KT w) (h : b.length ≤ 512) (h2 : t.length ≤ 100) (h3 : 512 < s.length) :
  Calls Tryd.prog 5 #[.agg (frC x y b t), .string ⟨s.toArray⟩] w fun e w' => e = .returned (.bool true) ∧ Below w.heap.size w w' := by
 go_enter Tryd.func5, Tryd.ntmps5
 (repeat ((fail_if_success with_reducible refine rg ?_); go_step))
 refine wp_region_pw ?_
 refine pw_boxr (by rfl) 25 _ rfl (frC x y b t) rfl ?_
 intro g2 z0 n0 r2 k
 simp only [Act.put, pu]
 have b2 : w.heap.size ≤ g2 := n0
 clear n0
 have sb := k.below w.heap.size (Nat.le_refl _) (by simp)
 clear k
 refine pw_value (by rfl) (.bool false) (fun _ => rfl) ?_
 simp only [Act.put, pu]
 refine pw_nil ?_
 (repeat ((fail_if_success with_reducible refine rg ?_); go_step))
 refine wp_region_pw ?_
 refine pw_value (by rfl) (.pointer (some ⟨g2, 2, none⟩)) (exec_field 25 _ 2 rfl g2 0 rfl _ Tryd.underlying25 _ rfl 0 Tryd.sizeOf9) ?_
 simp only [Act.put, pu]
 refine pw_loadk (by rfl) 9 _ rfl _ (2) rfl r2.r (.string ⟨b.toArray⟩) rfl Tryd.isAgg9 ?_
 simp only [Act.put, pu]
 refine pw_value (by rfl) (.int .i64 (b.length : Nat)) (y_lenS _ _ rfl b rfl Tryd.underlying9) ?_
 simp only [Act.put, pu]
 refine pw_value (by rfl) (.bool false) (x_gt _ _ _ _ rfl (b.length : Nat) 512 rfl rfl false (decide_eq_false (by omega))) ?_
 simp only [Act.put, pu]
 refine pw_mv (by rfl) rfl rfl ?_
 simp only [Act.put, pu]
 refine pw_value (by rfl) (.pointer (some ⟨g2, 3, none⟩)) (exec_field 25 _ 3 rfl g2 0 rfl _ Tryd.underlying25 _ rfl 0 Tryd.sizeOf9) ?_
 simp only [Act.put, pu]
 refine pw_loadk (by rfl) 9 _ rfl _ (3) rfl r2.r (.string ⟨t.toArray⟩) rfl Tryd.isAgg9 ?_
 simp only [Act.put, pu]
 refine pw_value (by rfl) (.int .i64 (t.length : Nat)) (y_lenS _ _ rfl t rfl Tryd.underlying9) ?_
 simp only [Act.put, pu]
 refine pw_value (by rfl) (.bool false) (x_gt _ _ _ _ rfl (t.length : Nat) 100 rfl rfl false (decide_eq_false (by omega))) ?_
 simp only [Act.put, pu]
 refine pw_pick (by rfl) false (v := .bool false) rfl rfl rfl ?_
 simp only [Act.put, pu]
 refine pw_mv (by rfl) rfl rfl ?_
 simp only [Act.put, pu]
 refine pw_mv (by rfl) rfl rfl ?_
 simp only [Act.put, pu]
 refine pw_value (by rfl) (.int .i64 (s.length : Nat)) (y_lenS _ _ rfl s rfl Tryd.underlying9) ?_
 simp only [Act.put, pu]
 refine pw_value (by rfl) (.bool true) (x_gt _ _ _ _ rfl (s.length : Nat) 512 rfl rfl true (decide_eq_true (by omega))) ?_
 simp only [Act.put, pu]
 refine pw_pick (by rfl) false (v := .bool true) rfl rfl rfl ?_
 simp only [Act.put, pu]
 refine pw_nil ?_
 (repeat ((fail_if_success with_reducible refine rg ?_); go_step))
 refine wp_region_pw ?_
 refine pw_callB (by rfl) 7 _ _ rfl Tryd.func7 (by kernel_rfl) #[] rfl _ (awake19_any _ (kT.below sb)) ?_
 intro z2000 k
 simp only [Act.put, pu]
 replace sb := sb.trans (k.below w.heap.size sb.size (by simp <;> omega))
 clear k
 refine pw_as (by rfl) rfl rfl ?_
 simp only [Act.put, pu]
 refine pw_nil ?_
 go_wp2
 go_ret
 exact ⟨rfl, sb⟩
set_option maxRecDepth 100000 in
set_option maxHeartbeats 2000000 in
theorem core_11 (x y : Int) (b t s : List UInt8) (w : World) (kT : KT w) (h1 : b.length ≤ 512) (h2 : t.length ≤ 100) (h3 : s.length ≤ 512) (A D T : List UInt8) (X Y : Int)
  (cB : (∀ w', Calls Tryd.prog 12 #[.agg (frC x y b t)] w' fun e w2 => e = .returned (.tuple #[.string ⟨A.toArray⟩, .int .i64 0]) ∧ Below w'.heap.size w' w2))
  (cR : (∀ w', Calls Tryd.prog 13 #[.agg (frC x y b t)] w' fun e w2 => e = .returned (.tuple #[.string ⟨A.toArray⟩, .int .i64 0]) ∧ Below w'.heap.size w' w2))
  (cT : (∀ w', Calls Tryd.prog 14 #[.string ⟨s.toArray⟩] w' fun e w2 => e = .returned (.tuple #[.agg (frC X Y D T), .int .i64 0]) ∧ Below w'.heap.size w' w2))
  (cU : (∀ w', Calls Tryd.prog 15 #[.string ⟨s.toArray⟩] w' fun e w2 => e = .returned (.tuple #[.agg (frC X Y D T), .int .i64 0]) ∧ Below w'.heap.size w' w2))
  (cV : (∀ w', Calls Tryd.prog 14 #[.string ⟨A.toArray⟩] w' fun e w2 => e = .returned (.tuple #[.agg (frC x y b t), .int .i64 0]) ∧ Below w'.heap.size w' w2))
  (cW : (∀ w', Calls Tryd.prog 12 #[.agg (frC X Y D T)] w' fun e w2 => e = .returned (.tuple #[.string ⟨s.toArray⟩, .int .i64 0]) ∧ Below w'.heap.size w' w2)) :
  Calls Tryd.prog 5 #[.agg (frC x y b t), .string ⟨s.toArray⟩] w fun e w' => e = .returned (.bool true) ∧ Below w.heap.size w w' := by
 go_enter Tryd.func5, Tryd.ntmps5
 (repeat ((fail_if_success with_reducible refine rg ?_); go_step))
 refine wp_region_pw ?_
 refine pw_boxr (by rfl) 25 _ rfl (frC x y b t) rfl ?_
 intro g2 z0 n0 r2 k
 simp only [Act.put, pu]
 have b2 : w.heap.size ≤ g2 := n0
 clear n0
 have sb := k.below w.heap.size (Nat.le_refl _) (by simp)
 clear k
 refine pw_value (by rfl) (.bool false) (fun _ => rfl) ?_
 simp only [Act.put, pu]
 refine pw_nil ?_
 (repeat ((fail_if_success with_reducible refine rg ?_); go_step))
 refine wp_region_pw ?_
 refine pw_value (by rfl) (.pointer (some ⟨g2, 2, none⟩)) (exec_field 25 _ 2 rfl g2 0 rfl _ Tryd.underlying25 _ rfl 0 Tryd.sizeOf9) ?_
 simp only [Act.put, pu]
 refine pw_loadk (by rfl) 9 _ rfl _ (2) rfl r2.r (.string ⟨b.toArray⟩) rfl Tryd.isAgg9 ?_
 simp only [Act.put, pu]
 refine pw_value (by rfl) (.int .i64 (b.length : Nat)) (y_lenS _ _ rfl b rfl Tryd.underlying9) ?_
 simp only [Act.put, pu]
 refine pw_value (by rfl) (.bool false) (x_gt _ _ _ _ rfl (b.length : Nat) 512 rfl rfl false (decide_eq_false (by omega))) ?_
 simp only [Act.put, pu]
 refine pw_mv (by rfl) rfl rfl ?_
 simp only [Act.put, pu]
 refine pw_value (by rfl) (.pointer (some ⟨g2, 3, none⟩)) (exec_field 25 _ 3 rfl g2 0 rfl _ Tryd.underlying25 _ rfl 0 Tryd.sizeOf9) ?_
 simp only [Act.put, pu]
 refine pw_loadk (by rfl) 9 _ rfl _ (3) rfl r2.r (.string ⟨t.toArray⟩) rfl Tryd.isAgg9 ?_
 simp only [Act.put, pu]
 refine pw_value (by rfl) (.int .i64 (t.length : Nat)) (y_lenS _ _ rfl t rfl Tryd.underlying9) ?_
 simp only [Act.put, pu]
 refine pw_value (by rfl) (.bool false) (x_gt _ _ _ _ rfl (t.length : Nat) 100 rfl rfl false (decide_eq_false (by omega))) ?_
 simp only [Act.put, pu]
 refine pw_pick (by rfl) false (v := .bool false) rfl rfl rfl ?_
 simp only [Act.put, pu]
 refine pw_mv (by rfl) rfl rfl ?_
 simp only [Act.put, pu]
 refine pw_mv (by rfl) rfl rfl ?_
 simp only [Act.put, pu]
 refine pw_value (by rfl) (.int .i64 (s.length : Nat)) (y_lenS _ _ rfl s rfl Tryd.underlying9) ?_
 simp only [Act.put, pu]
 refine pw_value (by rfl) (.bool false) (x_gt _ _ _ _ rfl (s.length : Nat) 512 rfl rfl false (decide_eq_false (by omega))) ?_
 simp only [Act.put, pu]
 refine pw_pick (by rfl) false (v := .bool false) rfl rfl rfl ?_
 simp only [Act.put, pu]
 refine pw_nil ?_
 (repeat ((fail_if_success with_reducible refine rg ?_); go_step))
 refine wp_region_pw ?_
 refine pw_loadm (by rfl) 25 _ rfl _ (0) rfl r2.r (frC x y b t) (part_allF _) _ Tryd.underlying25 rfl size_fr ?_
 simp only [Act.put, pu]
 refine pw_callB (by rfl) 12 _ _ rfl Tryd.func12 (by kernel_rfl) #[.agg (frC x y b t)] rfl _ (cB _) ?_
 intro z3001 k
 simp only [Act.put, pu]
 replace r2 := k.row r2 (by simp <;> omega)
 replace sb := sb.trans (k.below w.heap.size sb.size (by simp <;> omega))
 clear k
 refine pw_mv (by rfl) rfl rfl ?_
 simp only [Act.put, pu]
 refine pw_ext (by rfl) rfl rfl rfl ?_
 simp only [Act.put, pu]
 refine pw_ext (by rfl) rfl rfl rfl ?_
 simp only [Act.put, pu]
 refine pw_as (by rfl) rfl rfl ?_
 simp only [Act.put, pu]
 refine pw_as (by rfl) rfl rfl ?_
 simp only [Act.put, pu]
 refine pw_nil ?_
 (repeat ((fail_if_success with_reducible refine rg ?_); go_step))
 refine wp_region_pw ?_
 refine pw_loadm (by rfl) 25 _ rfl _ (0) rfl r2.r (frC x y b t) (part_allF _) _ Tryd.underlying25 rfl size_fr ?_
 simp only [Act.put, pu]
 refine pw_callB (by rfl) 13 _ _ rfl Tryd.func13 (by kernel_rfl) #[.agg (frC x y b t)] rfl _ (cR _) ?_
 intro z4001 k
 simp only [Act.put, pu]
 replace r2 := k.row r2 (by simp <;> omega)
 replace sb := sb.trans (k.below w.heap.size sb.size (by simp <;> omega))
 clear k
 refine pw_mv (by rfl) rfl rfl ?_
 simp only [Act.put, pu]
 refine pw_ext (by rfl) rfl rfl rfl ?_
 simp only [Act.put, pu]
 refine pw_ext (by rfl) rfl rfl rfl ?_
 simp only [Act.put, pu]
 refine pw_as (by rfl) rfl rfl ?_
 simp only [Act.put, pu]
 refine pw_as (by rfl) rfl rfl ?_
 simp only [Act.put, pu]
 refine pw_nil ?_
 (repeat ((fail_if_success with_reducible refine rg ?_); go_step))
 refine wp_region_pw ?_
 refine pw_mv (by rfl) rfl rfl ?_
 simp only [Act.put, pu]
 refine pw_callB (by rfl) 14 _ _ rfl Tryd.func14 (by kernel_rfl) #[.string ⟨s.toArray⟩] rfl _ (cT _) ?_
 intro z5001 k
 simp only [Act.put, pu]
 replace r2 := k.row r2 (by simp <;> omega)
 replace sb := sb.trans (k.below w.heap.size sb.size (by simp <;> omega))
 clear k
 refine pw_mv (by rfl) rfl rfl ?_
 simp only [Act.put, pu]
 refine pw_ext (by rfl) rfl rfl rfl ?_
 simp only [Act.put, pu]
 refine pw_ext (by rfl) rfl rfl rfl ?_
 simp only [Act.put, pu]
 refine pw_new (by rfl) 25 rfl _ zero_fr ?_
 intro g9 z5005 n0 r9 k
 simp only [Act.put, pu]
 have d2x9 := Nat.lt_of_lt_of_le r2.lt n0
 have b9 := Nat.le_trans sb.size n0
 clear n0
 replace r2 := k.row r2 (by simp <;> omega)
 replace sb := sb.trans (k.below w.heap.size sb.size (by simp <;> omega))
 clear k
 refine pw_put (by rfl) 25 _ _ rfl _ rfl r9 (frC X Y D T) rfl (by exact size_fr) (by rfl) (fr_one _ _ _ _) ?_
 clear r9
 intro z5006 r9 k
 simp only [Act.put]
 replace r2 := k.row r2 (by simp <;> omega)
 replace sb := sb.trans (k.below w.heap.size sb.size (by simp <;> omega))
 clear k
 refine pw_as (by rfl) rfl rfl ?_
 simp only [Act.put, pu]
 refine pw_nil ?_
 (repeat ((fail_if_success with_reducible refine rg ?_); go_step))
 refine wp_region_pw ?_
 refine pw_mv (by rfl) rfl rfl ?_
 simp only [Act.put, pu]
 refine pw_callB (by rfl) 15 _ _ rfl Tryd.func15 (by kernel_rfl) #[.string ⟨s.toArray⟩] rfl _ (cU _) ?_
 intro z6001 k
 simp only [Act.put, pu]
 replace r2 := k.row r2 (by simp <;> omega)
 replace r9 := k.row r9 (by simp <;> omega)
 replace sb := sb.trans (k.below w.heap.size sb.size (by simp <;> omega))
 clear k
 refine pw_mv (by rfl) rfl rfl ?_
 simp only [Act.put, pu]
 refine pw_ext (by rfl) rfl rfl rfl ?_
 simp only [Act.put, pu]
 refine pw_ext (by rfl) rfl rfl rfl ?_
 simp only [Act.put, pu]
 refine pw_new (by rfl) 25 rfl _ zero_fr ?_
 intro g11 z6005 n0 r11 k
 simp only [Act.put, pu]
 have d2x11 := Nat.lt_of_lt_of_le r2.lt n0
 have d9x11 := Nat.lt_of_lt_of_le r9.lt n0
 have b11 := Nat.le_trans sb.size n0
 clear n0
 replace r2 := k.row r2 (by simp <;> omega)
 replace r9 := k.row r9 (by simp <;> omega)
 replace sb := sb.trans (k.below w.heap.size sb.size (by simp <;> omega))
 clear k
 refine pw_put (by rfl) 25 _ _ rfl _ rfl r11 (frC X Y D T) rfl (by exact size_fr) (by rfl) (fr_one _ _ _ _) ?_
 clear r11
 intro z6006 r11 k
 simp only [Act.put]
 replace r2 := k.row r2 (by simp <;> omega)
 replace r9 := k.row r9 (by simp <;> omega)
 replace sb := sb.trans (k.below w.heap.size sb.size (by simp <;> omega))
 clear k
 refine pw_as (by rfl) rfl rfl ?_
 simp only [Act.put, pu]
 refine pw_nil ?_
 (repeat ((fail_if_success with_reducible refine rg ?_); go_step))
 refine wp_region_pw ?_
 refine pw_mv (by rfl) rfl rfl ?_
 simp only [Act.put, pu]
 refine pw_mv (by rfl) rfl rfl ?_
 simp only [Act.put, pu]
 refine pw_value (by rfl) (.bool false) (x_neS _ _ _ _ rfl _ rfl rfl) ?_
 simp only [Act.put, pu]
 refine pw_mv (by rfl) rfl rfl ?_
 simp only [Act.put, pu]
 refine pw_mv (by rfl) rfl rfl ?_
 simp only [Act.put, pu]
 refine pw_mv (by rfl) rfl rfl ?_
 simp only [Act.put, pu]
 refine pw_value (by rfl) (.bool false) (x_neI _ _ _ _ rfl .i64 0 0 rfl rfl false (by decide)) ?_
 simp only [Act.put, pu]
 refine pw_pick (by rfl) false (v := .bool false) rfl rfl rfl ?_
 simp only [Act.put, pu]
 refine pw_mv (by rfl) rfl rfl ?_
 simp only [Act.put, pu]
 refine pw_loadm (by rfl) 25 _ rfl _ (0) rfl r9.r (frC X Y D T) (part_allF _) _ Tryd.underlying25 rfl size_fr ?_
 simp only [Act.put, pu]
 refine pw_loadm (by rfl) 25 _ rfl _ (0) rfl r11.r (frC X Y D T) (part_allF _) _ Tryd.underlying25 rfl size_fr ?_
 simp only [Act.put, pu]
 refine pw_value (by rfl) (.bool false) (exec_neq_fr _ _ _ rfl X Y X Y D T D T rfl rfl false (by simp)) ?_
 simp only [Act.put, pu]
 refine pw_pick (by rfl) false (v := .bool false) rfl rfl rfl ?_
 simp only [Act.put, pu]
 refine pw_mv (by rfl) rfl rfl ?_
 simp only [Act.put, pu]
 refine pw_mv (by rfl) rfl rfl ?_
 simp only [Act.put, pu]
 refine pw_mv (by rfl) rfl rfl ?_
 simp only [Act.put, pu]
 refine pw_value (by rfl) (.bool false) (x_neI _ _ _ _ rfl .i64 0 0 rfl rfl false (by decide)) ?_
 simp only [Act.put, pu]
 refine pw_pick (by rfl) false (v := .bool false) rfl rfl rfl ?_
 simp only [Act.put, pu]
 refine pw_nil ?_
 (repeat ((fail_if_success with_reducible refine rg ?_); go_step))
 refine wp_region_pw ?_
 refine pw_mv (by rfl) rfl rfl ?_
 simp only [Act.put, pu]
 refine pw_callB (by rfl) 14 _ _ rfl Tryd.func14 (by kernel_rfl) #[.string ⟨A.toArray⟩] rfl _ (cV _) ?_
 intro z9001 k
 simp only [Act.put, pu]
 replace r2 := k.row r2 (by simp <;> omega)
 replace r9 := k.row r9 (by simp <;> omega)
 replace sb := sb.trans (k.below w.heap.size sb.size (by simp <;> omega))
 clear k
 refine pw_mv (by rfl) rfl rfl ?_
 simp only [Act.put, pu]
 refine pw_ext (by rfl) rfl rfl rfl ?_
 simp only [Act.put, pu]
 refine pw_ext (by rfl) rfl rfl rfl ?_
 simp only [Act.put, pu]
 refine pw_new (by rfl) 25 rfl _ zero_fr ?_
 intro g13 z9005 n0 r13 k
 simp only [Act.put, pu]
 have d2x13 := Nat.lt_of_lt_of_le r2.lt n0
 have d9x13 := Nat.lt_of_lt_of_le r9.lt n0
 have b13 := Nat.le_trans sb.size n0
 clear n0
 replace r2 := k.row r2 (by simp <;> omega)
 replace r9 := k.row r9 (by simp <;> omega)
 replace sb := sb.trans (k.below w.heap.size sb.size (by simp <;> omega))
 clear k
 refine pw_put (by rfl) 25 _ _ rfl _ rfl r13 (frC x y b t) rfl (by exact size_fr) (by rfl) (fr_one _ _ _ _) ?_
 clear r13
 intro z9006 r13 k
 simp only [Act.put]
 replace r2 := k.row r2 (by simp <;> omega)
 replace r9 := k.row r9 (by simp <;> omega)
 replace sb := sb.trans (k.below w.heap.size sb.size (by simp <;> omega))
 clear k
 refine pw_as (by rfl) rfl rfl ?_
 simp only [Act.put, pu]
 refine pw_nil ?_
 (repeat ((fail_if_success with_reducible refine rg ?_); go_step))
 refine wp_region_pw ?_
 refine pw_loadm (by rfl) 25 _ rfl _ (0) rfl r9.r (frC X Y D T) (part_allF _) _ Tryd.underlying25 rfl size_fr ?_
 simp only [Act.put, pu]
 refine pw_callB (by rfl) 12 _ _ rfl Tryd.func12 (by kernel_rfl) #[.agg (frC X Y D T)] rfl _ (cW _) ?_
 intro z10001 k
 simp only [Act.put, pu]
 replace r2 := k.row r2 (by simp <;> omega)
 replace r9 := k.row r9 (by simp <;> omega)
 replace r13 := k.row r13 (by simp <;> omega)
 replace sb := sb.trans (k.below w.heap.size sb.size (by simp <;> omega))
 clear k
 refine pw_mv (by rfl) rfl rfl ?_
 simp only [Act.put, pu]
 refine pw_ext (by rfl) rfl rfl rfl ?_
 simp only [Act.put, pu]
 refine pw_ext (by rfl) rfl rfl rfl ?_
 simp only [Act.put, pu]
 refine pw_as (by rfl) rfl rfl ?_
 simp only [Act.put, pu]
 refine pw_as (by rfl) rfl rfl ?_
 simp only [Act.put, pu]
 refine pw_nil ?_
 (repeat ((fail_if_success with_reducible refine rg ?_); go_step))
 refine wp_region_pw ?_
 refine pw_mv (by rfl) rfl rfl ?_
 simp only [Act.put, pu]
 refine pw_value (by rfl) (.bool false) (x_neI _ _ _ _ rfl .i64 0 0 rfl rfl false (by decide)) ?_
 simp only [Act.put, pu]
 refine pw_mv (by rfl) rfl rfl ?_
 simp only [Act.put, pu]
 refine pw_mv (by rfl) rfl rfl ?_
 simp only [Act.put, pu]
 refine pw_value (by rfl) (.bool true) (x_eqI _ _ _ _ rfl .i64 0 0 rfl rfl true (by decide)) ?_
 simp only [Act.put, pu]
 refine pw_mv (by rfl) rfl rfl ?_
 simp only [Act.put, pu]
 refine pw_loadm (by rfl) 25 _ rfl _ (0) rfl r13.r (frC x y b t) (part_allF _) _ Tryd.underlying25 rfl size_fr ?_
 simp only [Act.put, pu]
 refine pw_loadm (by rfl) 25 _ rfl _ (0) rfl r2.r (frC x y b t) (part_allF _) _ Tryd.underlying25 rfl size_fr ?_
 simp only [Act.put, pu]
 refine pw_value (by rfl) (.bool true) (exec_eql_fr _ _ _ rfl x y x y b t b t rfl rfl true (by simp)) ?_
 simp only [Act.put, pu]
 refine pw_pick (by rfl) true (v := .bool true) rfl rfl rfl ?_
 simp only [Act.put, pu]
 refine pw_pick (by rfl) false (v := .bool true) rfl rfl rfl ?_
 simp only [Act.put, pu]
 refine pw_mv (by rfl) rfl rfl ?_
 simp only [Act.put, pu]
 refine pw_mv (by rfl) rfl rfl ?_
 simp only [Act.put, pu]
 refine pw_value (by rfl) (.bool false) (x_neI _ _ _ _ rfl .i64 0 0 rfl rfl false (by decide)) ?_
 simp only [Act.put, pu]
 refine pw_mv (by rfl) rfl rfl ?_
 simp only [Act.put, pu]
 refine pw_mv (by rfl) rfl rfl ?_
 simp only [Act.put, pu]
 refine pw_value (by rfl) (.bool true) (x_eqI _ _ _ _ rfl .i64 0 0 rfl rfl true (by decide)) ?_
 simp only [Act.put, pu]
 refine pw_mv (by rfl) rfl rfl ?_
 simp only [Act.put, pu]
 refine pw_mv (by rfl) rfl rfl ?_
 simp only [Act.put, pu]
 refine pw_mv (by rfl) rfl rfl ?_
 simp only [Act.put, pu]
 refine pw_value (by rfl) (.bool true) (exec_eql_str _ _ _ _ rfl _ rfl rfl) ?_
 simp only [Act.put, pu]
 refine pw_pick (by rfl) true (v := .bool true) rfl rfl rfl ?_
 simp only [Act.put, pu]
 refine pw_pick (by rfl) false (v := .bool true) rfl rfl rfl ?_
 simp only [Act.put, pu]
 refine pw_pick (by rfl) true (v := .bool true) rfl rfl rfl ?_
 simp only [Act.put, pu]
 refine pw_mv (by rfl) rfl rfl ?_
 simp only [Act.put, pu]
 refine pw_callB (by rfl) 7 _ _ rfl Tryd.func7 (by kernel_rfl) #[] rfl _ (awake19_any _ (kT.below sb)) ?_
 intro z11025 k
 simp only [Act.put, pu]
 replace r2 := k.row r2 (by simp <;> omega)
 replace r13 := k.row r13 (by simp <;> omega)
 replace sb := sb.trans (k.below w.heap.size sb.size (by simp <;> omega))
 clear k
 refine pw_pick (by rfl) true (v := .bool true) rfl rfl rfl ?_
 simp only [Act.put, pu]
 refine pw_as (by rfl) rfl rfl ?_
 simp only [Act.put, pu]
 refine pw_nil ?_
 go_wp2
 go_ret
 exact ⟨rfl, sb⟩
set_option maxRecDepth 100000 in
set_option maxHeartbeats 2000000 in
theorem core_10 (x y : Int) (b t s : List UInt8) (w : World) (kT : KT w) (h1 : b.length ≤ 512) (h2 : t.length ≤ 100) (h3 : s.length ≤ 512) (A D T : List UInt8) (X Y : Int)
  (cB : (∀ w', Calls Tryd.prog 12 #[.agg (frC x y b t)] w' fun e w2 => e = .returned (.tuple #[.string ⟨A.toArray⟩, .int .i64 0]) ∧ Below w'.heap.size w' w2))
  (cR : (∀ w', Calls Tryd.prog 13 #[.agg (frC x y b t)] w' fun e w2 => e = .returned (.tuple #[.string ⟨A.toArray⟩, .int .i64 0]) ∧ Below w'.heap.size w' w2))
  (cT : (∀ w', Calls Tryd.prog 14 #[.string ⟨s.toArray⟩] w' fun e w2 => e = .returned (.tuple #[.agg (frC X Y D T), .int .i64 4]) ∧ Below w'.heap.size w' w2))
  (cU : (∀ w', Calls Tryd.prog 15 #[.string ⟨s.toArray⟩] w' fun e w2 => e = .returned (.tuple #[.agg (frC X Y D T), .int .i64 4]) ∧ Below w'.heap.size w' w2))
  (cV : (∀ w', Calls Tryd.prog 14 #[.string ⟨A.toArray⟩] w' fun e w2 => e = .returned (.tuple #[.agg (frC x y b t), .int .i64 0]) ∧ Below w'.heap.size w' w2))
  (cW : (∀ w', Calls Tryd.prog 12 #[.agg (frC X Y D T)] w' fun e w2 => e = .returned (.tuple #[.string ⟨[].toArray⟩, .int .i64 1]) ∧ Below w'.heap.size w' w2)) :
  Calls Tryd.prog 5 #[.agg (frC x y b t), .string ⟨s.toArray⟩] w fun e w' => e = .returned (.bool true) ∧ Below w.heap.size w w' := by
 go_enter Tryd.func5, Tryd.ntmps5
 (repeat ((fail_if_success with_reducible refine rg ?_); go_step))
 refine wp_region_pw ?_
 refine pw_boxr (by rfl) 25 _ rfl (frC x y b t) rfl ?_
 intro g2 z0 n0 r2 k
 simp only [Act.put, pu]
 have b2 : w.heap.size ≤ g2 := n0
 clear n0
 have sb := k.below w.heap.size (Nat.le_refl _) (by simp)
 clear k
 refine pw_value (by rfl) (.bool false) (fun _ => rfl) ?_
 simp only [Act.put, pu]
 refine pw_nil ?_
 (repeat ((fail_if_success with_reducible refine rg ?_); go_step))
 refine wp_region_pw ?_
 refine pw_value (by rfl) (.pointer (some ⟨g2, 2, none⟩)) (exec_field 25 _ 2 rfl g2 0 rfl _ Tryd.underlying25 _ rfl 0 Tryd.sizeOf9) ?_
 simp only [Act.put, pu]
 refine pw_loadk (by rfl) 9 _ rfl _ (2) rfl r2.r (.string ⟨b.toArray⟩) rfl Tryd.isAgg9 ?_
 simp only [Act.put, pu]
 refine pw_value (by rfl) (.int .i64 (b.length : Nat)) (y_lenS _ _ rfl b rfl Tryd.underlying9) ?_
 simp only [Act.put, pu]
 refine pw_value (by rfl) (.bool false) (x_gt _ _ _ _ rfl (b.length : Nat) 512 rfl rfl false (decide_eq_false (by omega))) ?_
 simp only [Act.put, pu]
 refine pw_mv (by rfl) rfl rfl ?_
 simp only [Act.put, pu]
 refine pw_value (by rfl) (.pointer (some ⟨g2, 3, none⟩)) (exec_field 25 _ 3 rfl g2 0 rfl _ Tryd.underlying25 _ rfl 0 Tryd.sizeOf9) ?_
 simp only [Act.put, pu]
 refine pw_loadk (by rfl) 9 _ rfl _ (3) rfl r2.r (.string ⟨t.toArray⟩) rfl Tryd.isAgg9 ?_
 simp only [Act.put, pu]
 refine pw_value (by rfl) (.int .i64 (t.length : Nat)) (y_lenS _ _ rfl t rfl Tryd.underlying9) ?_
 simp only [Act.put, pu]
 refine pw_value (by rfl) (.bool false) (x_gt _ _ _ _ rfl (t.length : Nat) 100 rfl rfl false (decide_eq_false (by omega))) ?_
 simp only [Act.put, pu]
 refine pw_pick (by rfl) false (v := .bool false) rfl rfl rfl ?_
 simp only [Act.put, pu]
 refine pw_mv (by rfl) rfl rfl ?_
 simp only [Act.put, pu]
 refine pw_mv (by rfl) rfl rfl ?_
 simp only [Act.put, pu]
 refine pw_value (by rfl) (.int .i64 (s.length : Nat)) (y_lenS _ _ rfl s rfl Tryd.underlying9) ?_
 simp only [Act.put, pu]
 refine pw_value (by rfl) (.bool false) (x_gt _ _ _ _ rfl (s.length : Nat) 512 rfl rfl false (decide_eq_false (by omega))) ?_
 simp only [Act.put, pu]
 refine pw_pick (by rfl) false (v := .bool false) rfl rfl rfl ?_
 simp only [Act.put, pu]
 refine pw_nil ?_
 (repeat ((fail_if_success with_reducible refine rg ?_); go_step))
 refine wp_region_pw ?_
 refine pw_loadm (by rfl) 25 _ rfl _ (0) rfl r2.r (frC x y b t) (part_allF _) _ Tryd.underlying25 rfl size_fr ?_
 simp only [Act.put, pu]
 refine pw_callB (by rfl) 12 _ _ rfl Tryd.func12 (by kernel_rfl) #[.agg (frC x y b t)] rfl _ (cB _) ?_
 intro z3001 k
 simp only [Act.put, pu]
 replace r2 := k.row r2 (by simp <;> omega)
 replace sb := sb.trans (k.below w.heap.size sb.size (by simp <;> omega))
 clear k
 refine pw_mv (by rfl) rfl rfl ?_
 simp only [Act.put, pu]
 refine pw_ext (by rfl) rfl rfl rfl ?_
 simp only [Act.put, pu]
 refine pw_ext (by rfl) rfl rfl rfl ?_
 simp only [Act.put, pu]
 refine pw_as (by rfl) rfl rfl ?_
 simp only [Act.put, pu]
 refine pw_as (by rfl) rfl rfl ?_
 simp only [Act.put, pu]
 refine pw_nil ?_
 (repeat ((fail_if_success with_reducible refine rg ?_); go_step))
 refine wp_region_pw ?_
 refine pw_loadm (by rfl) 25 _ rfl _ (0) rfl r2.r (frC x y b t) (part_allF _) _ Tryd.underlying25 rfl size_fr ?_
 simp only [Act.put, pu]
 refine pw_callB (by rfl) 13 _ _ rfl Tryd.func13 (by kernel_rfl) #[.agg (frC x y b t)] rfl _ (cR _) ?_
 intro z4001 k
 simp only [Act.put, pu]
 replace r2 := k.row r2 (by simp <;> omega)
 replace sb := sb.trans (k.below w.heap.size sb.size (by simp <;> omega))
 clear k
 refine pw_mv (by rfl) rfl rfl ?_
 simp only [Act.put, pu]
 refine pw_ext (by rfl) rfl rfl rfl ?_
 simp only [Act.put, pu]
 refine pw_ext (by rfl) rfl rfl rfl ?_
 simp only [Act.put, pu]
 refine pw_as (by rfl) rfl rfl ?_
 simp only [Act.put, pu]
 refine pw_as (by rfl) rfl rfl ?_
 simp only [Act.put, pu]
 refine pw_nil ?_
 (repeat ((fail_if_success with_reducible refine rg ?_); go_step))
 refine wp_region_pw ?_
 refine pw_mv (by rfl) rfl rfl ?_
 simp only [Act.put, pu]
 refine pw_callB (by rfl) 14 _ _ rfl Tryd.func14 (by kernel_rfl) #[.string ⟨s.toArray⟩] rfl _ (cT _) ?_
 intro z5001 k
 simp only [Act.put, pu]
 replace r2 := k.row r2 (by simp <;> omega)
 replace sb := sb.trans (k.below w.heap.size sb.size (by simp <;> omega))
 clear k
 refine pw_mv (by rfl) rfl rfl ?_
 simp only [Act.put, pu]
 refine pw_ext (by rfl) rfl rfl rfl ?_
 simp only [Act.put, pu]
 refine pw_ext (by rfl) rfl rfl rfl ?_
 simp only [Act.put, pu]
 refine pw_new (by rfl) 25 rfl _ zero_fr ?_
 intro g9 z5005 n0 r9 k
 simp only [Act.put, pu]
 have d2x9 := Nat.lt_of_lt_of_le r2.lt n0
 have b9 := Nat.le_trans sb.size n0
 clear n0
 replace r2 := k.row r2 (by simp <;> omega)
 replace sb := sb.trans (k.below w.heap.size sb.size (by simp <;> omega))
 clear k
 refine pw_put (by rfl) 25 _ _ rfl _ rfl r9 (frC X Y D T) rfl (by exact size_fr) (by rfl) (fr_one _ _ _ _) ?_
 clear r9
 intro z5006 r9 k
 simp only [Act.put]
 replace r2 := k.row r2 (by simp <;> omega)
 replace sb := sb.trans (k.below w.heap.size sb.size (by simp <;> omega))
 clear k
 refine pw_as (by rfl) rfl rfl ?_
 simp only [Act.put, pu]
 refine pw_nil ?_
 (repeat ((fail_if_success with_reducible refine rg ?_); go_step))
 refine wp_region_pw ?_
 refine pw_mv (by rfl) rfl rfl ?_
 simp only [Act.put, pu]
 refine pw_callB (by rfl) 15 _ _ rfl Tryd.func15 (by kernel_rfl) #[.string ⟨s.toArray⟩] rfl _ (cU _) ?_
 intro z6001 k
 simp only [Act.put, pu]
 replace r2 := k.row r2 (by simp <;> omega)
 replace r9 := k.row r9 (by simp <;> omega)
 replace sb := sb.trans (k.below w.heap.size sb.size (by simp <;> omega))
 clear k
 refine pw_mv (by rfl) rfl rfl ?_
 simp only [Act.put, pu]
 refine pw_ext (by rfl) rfl rfl rfl ?_
 simp only [Act.put, pu]
 refine pw_ext (by rfl) rfl rfl rfl ?_
 simp only [Act.put, pu]
 refine pw_new (by rfl) 25 rfl _ zero_fr ?_
 intro g11 z6005 n0 r11 k
 simp only [Act.put, pu]
 have d2x11 := Nat.lt_of_lt_of_le r2.lt n0
 have d9x11 := Nat.lt_of_lt_of_le r9.lt n0
 have b11 := Nat.le_trans sb.size n0
 clear n0
 replace r2 := k.row r2 (by simp <;> omega)
 replace r9 := k.row r9 (by simp <;> omega)
 replace sb := sb.trans (k.below w.heap.size sb.size (by simp <;> omega))
 clear k
 refine pw_put (by rfl) 25 _ _ rfl _ rfl r11 (frC X Y D T) rfl (by exact size_fr) (by rfl) (fr_one _ _ _ _) ?_
 clear r11
 intro z6006 r11 k
 simp only [Act.put]
 replace r2 := k.row r2 (by simp <;> omega)
 replace r9 := k.row r9 (by simp <;> omega)
 replace sb := sb.trans (k.below w.heap.size sb.size (by simp <;> omega))
 clear k
 refine pw_as (by rfl) rfl rfl ?_
 simp only [Act.put, pu]
 refine pw_nil ?_
 (repeat ((fail_if_success with_reducible refine rg ?_); go_step))
 refine wp_region_pw ?_
 refine pw_mv (by rfl) rfl rfl ?_
 simp only [Act.put, pu]
 refine pw_mv (by rfl) rfl rfl ?_
 simp only [Act.put, pu]
 refine pw_value (by rfl) (.bool false) (x_neS _ _ _ _ rfl _ rfl rfl) ?_
 simp only [Act.put, pu]
 refine pw_mv (by rfl) rfl rfl ?_
 simp only [Act.put, pu]
 refine pw_mv (by rfl) rfl rfl ?_
 simp only [Act.put, pu]
 refine pw_mv (by rfl) rfl rfl ?_
 simp only [Act.put, pu]
 refine pw_value (by rfl) (.bool false) (x_neI _ _ _ _ rfl .i64 0 0 rfl rfl false (by decide)) ?_
 simp only [Act.put, pu]
 refine pw_pick (by rfl) false (v := .bool false) rfl rfl rfl ?_
 simp only [Act.put, pu]
 refine pw_mv (by rfl) rfl rfl ?_
 simp only [Act.put, pu]
 refine pw_loadm (by rfl) 25 _ rfl _ (0) rfl r9.r (frC X Y D T) (part_allF _) _ Tryd.underlying25 rfl size_fr ?_
 simp only [Act.put, pu]
 refine pw_loadm (by rfl) 25 _ rfl _ (0) rfl r11.r (frC X Y D T) (part_allF _) _ Tryd.underlying25 rfl size_fr ?_
 simp only [Act.put, pu]
 refine pw_value (by rfl) (.bool false) (exec_neq_fr _ _ _ rfl X Y X Y D T D T rfl rfl false (by simp)) ?_
 simp only [Act.put, pu]
 refine pw_pick (by rfl) false (v := .bool false) rfl rfl rfl ?_
 simp only [Act.put, pu]
 refine pw_mv (by rfl) rfl rfl ?_
 simp only [Act.put, pu]
 refine pw_mv (by rfl) rfl rfl ?_
 simp only [Act.put, pu]
 refine pw_mv (by rfl) rfl rfl ?_
 simp only [Act.put, pu]
 refine pw_value (by rfl) (.bool false) (x_neI _ _ _ _ rfl .i64 4 4 rfl rfl false (by decide)) ?_
 simp only [Act.put, pu]
 refine pw_pick (by rfl) false (v := .bool false) rfl rfl rfl ?_
 simp only [Act.put, pu]
 refine pw_nil ?_
 (repeat ((fail_if_success with_reducible refine rg ?_); go_step))
 refine wp_region_pw ?_
 refine pw_mv (by rfl) rfl rfl ?_
 simp only [Act.put, pu]
 refine pw_callB (by rfl) 14 _ _ rfl Tryd.func14 (by kernel_rfl) #[.string ⟨A.toArray⟩] rfl _ (cV _) ?_
 intro z9001 k
 simp only [Act.put, pu]
 replace r2 := k.row r2 (by simp <;> omega)
 replace r9 := k.row r9 (by simp <;> omega)
 replace sb := sb.trans (k.below w.heap.size sb.size (by simp <;> omega))
 clear k
 refine pw_mv (by rfl) rfl rfl ?_
 simp only [Act.put, pu]
 refine pw_ext (by rfl) rfl rfl rfl ?_
 simp only [Act.put, pu]
 refine pw_ext (by rfl) rfl rfl rfl ?_
 simp only [Act.put, pu]
 refine pw_new (by rfl) 25 rfl _ zero_fr ?_
 intro g13 z9005 n0 r13 k
 simp only [Act.put, pu]
 have d2x13 := Nat.lt_of_lt_of_le r2.lt n0
 have d9x13 := Nat.lt_of_lt_of_le r9.lt n0
 have b13 := Nat.le_trans sb.size n0
 clear n0
 replace r2 := k.row r2 (by simp <;> omega)
 replace r9 := k.row r9 (by simp <;> omega)
 replace sb := sb.trans (k.below w.heap.size sb.size (by simp <;> omega))
 clear k
 refine pw_put (by rfl) 25 _ _ rfl _ rfl r13 (frC x y b t) rfl (by exact size_fr) (by rfl) (fr_one _ _ _ _) ?_
 clear r13
 intro z9006 r13 k
 simp only [Act.put]
 replace r2 := k.row r2 (by simp <;> omega)
 replace r9 := k.row r9 (by simp <;> omega)
 replace sb := sb.trans (k.below w.heap.size sb.size (by simp <;> omega))
 clear k
 refine pw_as (by rfl) rfl rfl ?_
 simp only [Act.put, pu]
 refine pw_nil ?_
 (repeat ((fail_if_success with_reducible refine rg ?_); go_step))
 refine wp_region_pw ?_
 refine pw_loadm (by rfl) 25 _ rfl _ (0) rfl r9.r (frC X Y D T) (part_allF _) _ Tryd.underlying25 rfl size_fr ?_
 simp only [Act.put, pu]
 refine pw_callB (by rfl) 12 _ _ rfl Tryd.func12 (by kernel_rfl) #[.agg (frC X Y D T)] rfl _ (cW _) ?_
 intro z10001 k
 simp only [Act.put, pu]
 replace r2 := k.row r2 (by simp <;> omega)
 replace r9 := k.row r9 (by simp <;> omega)
 replace r13 := k.row r13 (by simp <;> omega)
 replace sb := sb.trans (k.below w.heap.size sb.size (by simp <;> omega))
 clear k
 refine pw_mv (by rfl) rfl rfl ?_
 simp only [Act.put, pu]
 refine pw_ext (by rfl) rfl rfl rfl ?_
 simp only [Act.put, pu]
 refine pw_ext (by rfl) rfl rfl rfl ?_
 simp only [Act.put, pu]
 refine pw_as (by rfl) rfl rfl ?_
 simp only [Act.put, pu]
 refine pw_as (by rfl) rfl rfl ?_
 simp only [Act.put, pu]
 refine pw_nil ?_
 (repeat ((fail_if_success with_reducible refine rg ?_); go_step))
 refine wp_region_pw ?_
 refine pw_mv (by rfl) rfl rfl ?_
 simp only [Act.put, pu]
 refine pw_value (by rfl) (.bool false) (x_neI _ _ _ _ rfl .i64 0 0 rfl rfl false (by decide)) ?_
 simp only [Act.put, pu]
 refine pw_mv (by rfl) rfl rfl ?_
 simp only [Act.put, pu]
 refine pw_mv (by rfl) rfl rfl ?_
 simp only [Act.put, pu]
 refine pw_value (by rfl) (.bool true) (x_eqI _ _ _ _ rfl .i64 0 0 rfl rfl true (by decide)) ?_
 simp only [Act.put, pu]
 refine pw_mv (by rfl) rfl rfl ?_
 simp only [Act.put, pu]
 refine pw_loadm (by rfl) 25 _ rfl _ (0) rfl r13.r (frC x y b t) (part_allF _) _ Tryd.underlying25 rfl size_fr ?_
 simp only [Act.put, pu]
 refine pw_loadm (by rfl) 25 _ rfl _ (0) rfl r2.r (frC x y b t) (part_allF _) _ Tryd.underlying25 rfl size_fr ?_
 simp only [Act.put, pu]
 refine pw_value (by rfl) (.bool true) (exec_eql_fr _ _ _ rfl x y x y b t b t rfl rfl true (by simp)) ?_
 simp only [Act.put, pu]
 refine pw_pick (by rfl) true (v := .bool true) rfl rfl rfl ?_
 simp only [Act.put, pu]
 refine pw_pick (by rfl) false (v := .bool true) rfl rfl rfl ?_
 simp only [Act.put, pu]
 refine pw_mv (by rfl) rfl rfl ?_
 simp only [Act.put, pu]
 refine pw_mv (by rfl) rfl rfl ?_
 simp only [Act.put, pu]
 refine pw_value (by rfl) (.bool true) (x_neI _ _ _ _ rfl .i64 4 0 rfl rfl true (by decide)) ?_
 simp only [Act.put, pu]
 refine pw_mv (by rfl) rfl rfl ?_
 simp only [Act.put, pu]
 refine pw_skip (by rfl) ?_
 simp only [Act.put, pu]
 refine pw_skip (by rfl) ?_
 simp only [Act.put, pu]
 refine pw_skip (by rfl) ?_
 simp only [Act.put, pu]
 refine pw_skip (by rfl) ?_
 simp only [Act.put, pu]
 refine pw_skip (by rfl) ?_
 simp only [Act.put, pu]
 refine pw_skip (by rfl) ?_
 simp only [Act.put, pu]
 refine pw_skip (by rfl) ?_
 simp only [Act.put, pu]
 refine pw_pick (by rfl) true (v := .bool true) rfl rfl rfl ?_
 simp only [Act.put, pu]
 refine pw_pick (by rfl) true (v := .bool true) rfl rfl rfl ?_
 simp only [Act.put, pu]
 refine pw_mv (by rfl) rfl rfl ?_
 simp only [Act.put, pu]
 refine pw_callB (by rfl) 7 _ _ rfl Tryd.func7 (by kernel_rfl) #[] rfl _ (awake19_any _ (kT.below sb)) ?_
 intro z11025 k
 simp only [Act.put, pu]
 replace r2 := k.row r2 (by simp <;> omega)
 replace r13 := k.row r13 (by simp <;> omega)
 replace sb := sb.trans (k.below w.heap.size sb.size (by simp <;> omega))
 clear k
 refine pw_pick (by rfl) true (v := .bool true) rfl rfl rfl ?_
 simp only [Act.put, pu]
 refine pw_as (by rfl) rfl rfl ?_
 simp only [Act.put, pu]
 refine pw_nil ?_
 go_wp2
 go_ret
 exact ⟨rfl, sb⟩
set_option maxRecDepth 100000 in
set_option maxHeartbeats 2000000 in
theorem core_01 (x y : Int) (b t s : List UInt8) (w : World) (kT : KT w) (h1 : b.length ≤ 512) (h2 : t.length ≤ 100) (h3 : s.length ≤ 512) (A D T : List UInt8) (X Y : Int)
  (cB : (∀ w', Calls Tryd.prog 12 #[.agg (frC x y b t)] w' fun e w2 => e = .returned (.tuple #[.string ⟨A.toArray⟩, .int .i64 1]) ∧ Below w'.heap.size w' w2))
  (cR : (∀ w', Calls Tryd.prog 13 #[.agg (frC x y b t)] w' fun e w2 => e = .returned (.tuple #[.string ⟨A.toArray⟩, .int .i64 1]) ∧ Below w'.heap.size w' w2))
  (cT : (∀ w', Calls Tryd.prog 14 #[.string ⟨s.toArray⟩] w' fun e w2 => e = .returned (.tuple #[.agg (frC X Y D T), .int .i64 0]) ∧ Below w'.heap.size w' w2))
  (cU : (∀ w', Calls Tryd.prog 15 #[.string ⟨s.toArray⟩] w' fun e w2 => e = .returned (.tuple #[.agg (frC X Y D T), .int .i64 0]) ∧ Below w'.heap.size w' w2))
  (cV : (∀ w', Calls Tryd.prog 14 #[.string ⟨A.toArray⟩] w' fun e w2 => e = .returned (.tuple #[.agg (frC 0 0 [] []), .int .i64 4]) ∧ Below w'.heap.size w' w2))
  (cW : (∀ w', Calls Tryd.prog 12 #[.agg (frC X Y D T)] w' fun e w2 => e = .returned (.tuple #[.string ⟨s.toArray⟩, .int .i64 0]) ∧ Below w'.heap.size w' w2)) :
  Calls Tryd.prog 5 #[.agg (frC x y b t), .string ⟨s.toArray⟩] w fun e w' => e = .returned (.bool true) ∧ Below w.heap.size w w' := by
 go_enter Tryd.func5, Tryd.ntmps5
 (repeat ((fail_if_success with_reducible refine rg ?_); go_step))
 refine wp_region_pw ?_
 refine pw_boxr (by rfl) 25 _ rfl (frC x y b t) rfl ?_
 intro g2 z0 n0 r2 k
 simp only [Act.put, pu]
 have b2 : w.heap.size ≤ g2 := n0
 clear n0
 have sb := k.below w.heap.size (Nat.le_refl _) (by simp)
 clear k
 refine pw_value (by rfl) (.bool false) (fun _ => rfl) ?_
 simp only [Act.put, pu]
 refine pw_nil ?_
 (repeat ((fail_if_success with_reducible refine rg ?_); go_step))
 refine wp_region_pw ?_
 refine pw_value (by rfl) (.pointer (some ⟨g2, 2, none⟩)) (exec_field 25 _ 2 rfl g2 0 rfl _ Tryd.underlying25 _ rfl 0 Tryd.sizeOf9) ?_
 simp only [Act.put, pu]
 refine pw_loadk (by rfl) 9 _ rfl _ (2) rfl r2.r (.string ⟨b.toArray⟩) rfl Tryd.isAgg9 ?_
 simp only [Act.put, pu]
 refine pw_value (by rfl) (.int .i64 (b.length : Nat)) (y_lenS _ _ rfl b rfl Tryd.underlying9) ?_
 simp only [Act.put, pu]
 refine pw_value (by rfl) (.bool false) (x_gt _ _ _ _ rfl (b.length : Nat) 512 rfl rfl false (decide_eq_false (by omega))) ?_
 simp only [Act.put, pu]
 refine pw_mv (by rfl) rfl rfl ?_
 simp only [Act.put, pu]
 refine pw_value (by rfl) (.pointer (some ⟨g2, 3, none⟩)) (exec_field 25 _ 3 rfl g2 0 rfl _ Tryd.underlying25 _ rfl 0 Tryd.sizeOf9) ?_
 simp only [Act.put, pu]
 refine pw_loadk (by rfl) 9 _ rfl _ (3) rfl r2.r (.string ⟨t.toArray⟩) rfl Tryd.isAgg9 ?_
 simp only [Act.put, pu]
 refine pw_value (by rfl) (.int .i64 (t.length : Nat)) (y_lenS _ _ rfl t rfl Tryd.underlying9) ?_
 simp only [Act.put, pu]
 refine pw_value (by rfl) (.bool false) (x_gt _ _ _ _ rfl (t.length : Nat) 100 rfl rfl false (decide_eq_false (by omega))) ?_
 simp only [Act.put, pu]
 refine pw_pick (by rfl) false (v := .bool false) rfl rfl rfl ?_
 simp only [Act.put, pu]
 refine pw_mv (by rfl) rfl rfl ?_
 simp only [Act.put, pu]
 refine pw_mv (by rfl) rfl rfl ?_
 simp only [Act.put, pu]
 refine pw_value (by rfl) (.int .i64 (s.length : Nat)) (y_lenS _ _ rfl s rfl Tryd.underlying9) ?_
 simp only [Act.put, pu]
 refine pw_value (by rfl) (.bool false) (x_gt _ _ _ _ rfl (s.length : Nat) 512 rfl rfl false (decide_eq_false (by omega))) ?_
 simp only [Act.put, pu]
 refine pw_pick (by rfl) false (v := .bool false) rfl rfl rfl ?_
 simp only [Act.put, pu]
 refine pw_nil ?_
 (repeat ((fail_if_success with_reducible refine rg ?_); go_step))
 refine wp_region_pw ?_
 refine pw_loadm (by rfl) 25 _ rfl _ (0) rfl r2.r (frC x y b t) (part_allF _) _ Tryd.underlying25 rfl size_fr ?_
 simp only [Act.put, pu]
 refine pw_callB (by rfl) 12 _ _ rfl Tryd.func12 (by kernel_rfl) #[.agg (frC x y b t)] rfl _ (cB _) ?_
 intro z3001 k
 simp only [Act.put, pu]
 replace r2 := k.row r2 (by simp <;> omega)
 replace sb := sb.trans (k.below w.heap.size sb.size (by simp <;> omega))
 clear k
 refine pw_mv (by rfl) rfl rfl ?_
 simp only [Act.put, pu]
 refine pw_ext (by rfl) rfl rfl rfl ?_
 simp only [Act.put, pu]
 refine pw_ext (by rfl) rfl rfl rfl ?_
 simp only [Act.put, pu]
 refine pw_as (by rfl) rfl rfl ?_
 simp only [Act.put, pu]
 refine pw_as (by rfl) rfl rfl ?_
 simp only [Act.put, pu]
 refine pw_nil ?_
 (repeat ((fail_if_success with_reducible refine rg ?_); go_step))
 refine wp_region_pw ?_
 refine pw_loadm (by rfl) 25 _ rfl _ (0) rfl r2.r (frC x y b t) (part_allF _) _ Tryd.underlying25 rfl size_fr ?_
 simp only [Act.put, pu]
 refine pw_callB (by rfl) 13 _ _ rfl Tryd.func13 (by kernel_rfl) #[.agg (frC x y b t)] rfl _ (cR _) ?_
 intro z4001 k
 simp only [Act.put, pu]
 replace r2 := k.row r2 (by simp <;> omega)
 replace sb := sb.trans (k.below w.heap.size sb.size (by simp <;> omega))
 clear k
 refine pw_mv (by rfl) rfl rfl ?_
 simp only [Act.put, pu]
 refine pw_ext (by rfl) rfl rfl rfl ?_
 simp only [Act.put, pu]
 refine pw_ext (by rfl) rfl rfl rfl ?_
 simp only [Act.put, pu]
 refine pw_as (by rfl) rfl rfl ?_
 simp only [Act.put, pu]
 refine pw_as (by rfl) rfl rfl ?_
 simp only [Act.put, pu]
 refine pw_nil ?_
 (repeat ((fail_if_success with_reducible refine rg ?_); go_step))
 refine wp_region_pw ?_
 refine pw_mv (by rfl) rfl rfl ?_
 simp only [Act.put, pu]
 refine pw_callB (by rfl) 14 _ _ rfl Tryd.func14 (by kernel_rfl) #[.string ⟨s.toArray⟩] rfl _ (cT _) ?_
 intro z5001 k
 simp only [Act.put, pu]
 replace r2 := k.row r2 (by simp <;> omega)
 replace sb := sb.trans (k.below w.heap.size sb.size (by simp <;> omega))
 clear k
 refine pw_mv (by rfl) rfl rfl ?_
 simp only [Act.put, pu]
 refine pw_ext (by rfl) rfl rfl rfl ?_
 simp only [Act.put, pu]
 refine pw_ext (by rfl) rfl rfl rfl ?_
 simp only [Act.put, pu]
 refine pw_new (by rfl) 25 rfl _ zero_fr ?_
 intro g9 z5005 n0 r9 k
 simp only [Act.put, pu]
 have d2x9 := Nat.lt_of_lt_of_le r2.lt n0
 have b9 := Nat.le_trans sb.size n0
 clear n0
 replace r2 := k.row r2 (by simp <;> omega)
 replace sb := sb.trans (k.below w.heap.size sb.size (by simp <;> omega))
 clear k
 refine pw_put (by rfl) 25 _ _ rfl _ rfl r9 (frC X Y D T) rfl (by exact size_fr) (by rfl) (fr_one _ _ _ _) ?_
 clear r9
 intro z5006 r9 k
 simp only [Act.put]
 replace r2 := k.row r2 (by simp <;> omega)
 replace sb := sb.trans (k.below w.heap.size sb.size (by simp <;> omega))
 clear k
 refine pw_as (by rfl) rfl rfl ?_
 simp only [Act.put, pu]
 refine pw_nil ?_
 (repeat ((fail_if_success with_reducible refine rg ?_); go_step))
 refine wp_region_pw ?_
 refine pw_mv (by rfl) rfl rfl ?_
 simp only [Act.put, pu]
 refine pw_callB (by rfl) 15 _ _ rfl Tryd.func15 (by kernel_rfl) #[.string ⟨s.toArray⟩] rfl _ (cU _) ?_
 intro z6001 k
 simp only [Act.put, pu]
 replace r2 := k.row r2 (by simp <;> omega)
 replace r9 := k.row r9 (by simp <;> omega)
 replace sb := sb.trans (k.below w.heap.size sb.size (by simp <;> omega))
 clear k
 refine pw_mv (by rfl) rfl rfl ?_
 simp only [Act.put, pu]
 refine pw_ext (by rfl) rfl rfl rfl ?_
 simp only [Act.put, pu]
 refine pw_ext (by rfl) rfl rfl rfl ?_
 simp only [Act.put, pu]
 refine pw_new (by rfl) 25 rfl _ zero_fr ?_
 intro g11 z6005 n0 r11 k
 simp only [Act.put, pu]
 have d2x11 := Nat.lt_of_lt_of_le r2.lt n0
 have d9x11 := Nat.lt_of_lt_of_le r9.lt n0
 have b11 := Nat.le_trans sb.size n0
 clear n0
 replace r2 := k.row r2 (by simp <;> omega)
 replace r9 := k.row r9 (by simp <;> omega)
 replace sb := sb.trans (k.below w.heap.size sb.size (by simp <;> omega))
 clear k
 refine pw_put (by rfl) 25 _ _ rfl _ rfl r11 (frC X Y D T) rfl (by exact size_fr) (by rfl) (fr_one _ _ _ _) ?_
 clear r11
 intro z6006 r11 k
 simp only [Act.put]
 replace r2 := k.row r2 (by simp <;> omega)
 replace r9 := k.row r9 (by simp <;> omega)
 replace sb := sb.trans (k.below w.heap.size sb.size (by simp <;> omega))
 clear k
 refine pw_as (by rfl) rfl rfl ?_
 simp only [Act.put, pu]
 refine pw_nil ?_
 (repeat ((fail_if_success with_reducible refine rg ?_); go_step))
 refine wp_region_pw ?_
 refine pw_mv (by rfl) rfl rfl ?_
 simp only [Act.put, pu]
 refine pw_mv (by rfl) rfl rfl ?_
 simp only [Act.put, pu]
 refine pw_value (by rfl) (.bool false) (x_neS _ _ _ _ rfl _ rfl rfl) ?_
 simp only [Act.put, pu]
 refine pw_mv (by rfl) rfl rfl ?_
 simp only [Act.put, pu]
 refine pw_mv (by rfl) rfl rfl ?_
 simp only [Act.put, pu]
 refine pw_mv (by rfl) rfl rfl ?_
 simp only [Act.put, pu]
 refine pw_value (by rfl) (.bool false) (x_neI _ _ _ _ rfl .i64 1 1 rfl rfl false (by decide)) ?_
 simp only [Act.put, pu]
 refine pw_pick (by rfl) false (v := .bool false) rfl rfl rfl ?_
 simp only [Act.put, pu]
 refine pw_mv (by rfl) rfl rfl ?_
 simp only [Act.put, pu]
 refine pw_loadm (by rfl) 25 _ rfl _ (0) rfl r9.r (frC X Y D T) (part_allF _) _ Tryd.underlying25 rfl size_fr ?_
 simp only [Act.put, pu]
 refine pw_loadm (by rfl) 25 _ rfl _ (0) rfl r11.r (frC X Y D T) (part_allF _) _ Tryd.underlying25 rfl size_fr ?_
 simp only [Act.put, pu]
 refine pw_value (by rfl) (.bool false) (exec_neq_fr _ _ _ rfl X Y X Y D T D T rfl rfl false (by simp)) ?_
 simp only [Act.put, pu]
 refine pw_pick (by rfl) false (v := .bool false) rfl rfl rfl ?_
 simp only [Act.put, pu]
 refine pw_mv (by rfl) rfl rfl ?_
 simp only [Act.put, pu]
 refine pw_mv (by rfl) rfl rfl ?_
 simp only [Act.put, pu]
 refine pw_mv (by rfl) rfl rfl ?_
 simp only [Act.put, pu]
 refine pw_value (by rfl) (.bool false) (x_neI _ _ _ _ rfl .i64 0 0 rfl rfl false (by decide)) ?_
 simp only [Act.put, pu]
 refine pw_pick (by rfl) false (v := .bool false) rfl rfl rfl ?_
 simp only [Act.put, pu]
 refine pw_nil ?_
 (repeat ((fail_if_success with_reducible refine rg ?_); go_step))
 refine wp_region_pw ?_
 refine pw_mv (by rfl) rfl rfl ?_
 simp only [Act.put, pu]
 refine pw_callB (by rfl) 14 _ _ rfl Tryd.func14 (by kernel_rfl) #[.string ⟨A.toArray⟩] rfl _ (cV _) ?_
 intro z9001 k
 simp only [Act.put, pu]
 replace r2 := k.row r2 (by simp <;> omega)
 replace r9 := k.row r9 (by simp <;> omega)
 replace sb := sb.trans (k.below w.heap.size sb.size (by simp <;> omega))
 clear k
 refine pw_mv (by rfl) rfl rfl ?_
 simp only [Act.put, pu]
 refine pw_ext (by rfl) rfl rfl rfl ?_
 simp only [Act.put, pu]
 refine pw_ext (by rfl) rfl rfl rfl ?_
 simp only [Act.put, pu]
 refine pw_new (by rfl) 25 rfl _ zero_fr ?_
 intro g13 z9005 n0 r13 k
 simp only [Act.put, pu]
 have d2x13 := Nat.lt_of_lt_of_le r2.lt n0
 have d9x13 := Nat.lt_of_lt_of_le r9.lt n0
 have b13 := Nat.le_trans sb.size n0
 clear n0
 replace r2 := k.row r2 (by simp <;> omega)
 replace r9 := k.row r9 (by simp <;> omega)
 replace sb := sb.trans (k.below w.heap.size sb.size (by simp <;> omega))
 clear k
 refine pw_put (by rfl) 25 _ _ rfl _ rfl r13 (frC 0 0 [] []) rfl (by exact size_fr) (by rfl) (fr_one _ _ _ _) ?_
 clear r13
 intro z9006 r13 k
 simp only [Act.put]
 replace r2 := k.row r2 (by simp <;> omega)
 replace r9 := k.row r9 (by simp <;> omega)
 replace sb := sb.trans (k.below w.heap.size sb.size (by simp <;> omega))
 clear k
 refine pw_as (by rfl) rfl rfl ?_
 simp only [Act.put, pu]
 refine pw_nil ?_
 (repeat ((fail_if_success with_reducible refine rg ?_); go_step))
 refine wp_region_pw ?_
 refine pw_loadm (by rfl) 25 _ rfl _ (0) rfl r9.r (frC X Y D T) (part_allF _) _ Tryd.underlying25 rfl size_fr ?_
 simp only [Act.put, pu]
 refine pw_callB (by rfl) 12 _ _ rfl Tryd.func12 (by kernel_rfl) #[.agg (frC X Y D T)] rfl _ (cW _) ?_
 intro z10001 k
 simp only [Act.put, pu]
 replace r2 := k.row r2 (by simp <;> omega)
 replace r9 := k.row r9 (by simp <;> omega)
 replace r13 := k.row r13 (by simp <;> omega)
 replace sb := sb.trans (k.below w.heap.size sb.size (by simp <;> omega))
 clear k
 refine pw_mv (by rfl) rfl rfl ?_
 simp only [Act.put, pu]
 refine pw_ext (by rfl) rfl rfl rfl ?_
 simp only [Act.put, pu]
 refine pw_ext (by rfl) rfl rfl rfl ?_
 simp only [Act.put, pu]
 refine pw_as (by rfl) rfl rfl ?_
 simp only [Act.put, pu]
 refine pw_as (by rfl) rfl rfl ?_
 simp only [Act.put, pu]
 refine pw_nil ?_
 (repeat ((fail_if_success with_reducible refine rg ?_); go_step))
 refine wp_region_pw ?_
 refine pw_mv (by rfl) rfl rfl ?_
 simp only [Act.put, pu]
 refine pw_value (by rfl) (.bool true) (x_neI _ _ _ _ rfl .i64 1 0 rfl rfl true (by decide)) ?_
 simp only [Act.put, pu]
 refine pw_mv (by rfl) rfl rfl ?_
 simp only [Act.put, pu]
 refine pw_skip (by rfl) ?_
 simp only [Act.put, pu]
 refine pw_skip (by rfl) ?_
 simp only [Act.put, pu]
 refine pw_skip (by rfl) ?_
 simp only [Act.put, pu]
 refine pw_skip (by rfl) ?_
 simp only [Act.put, pu]
 refine pw_skip (by rfl) ?_
 simp only [Act.put, pu]
 refine pw_skip (by rfl) ?_
 simp only [Act.put, pu]
 refine pw_skip (by rfl) ?_
 simp only [Act.put, pu]
 refine pw_pick (by rfl) true (v := .bool true) rfl rfl rfl ?_
 simp only [Act.put, pu]
 refine pw_mv (by rfl) rfl rfl ?_
 simp only [Act.put, pu]
 refine pw_mv (by rfl) rfl rfl ?_
 simp only [Act.put, pu]
 refine pw_value (by rfl) (.bool false) (x_neI _ _ _ _ rfl .i64 0 0 rfl rfl false (by decide)) ?_
 simp only [Act.put, pu]
 refine pw_mv (by rfl) rfl rfl ?_
 simp only [Act.put, pu]
 refine pw_mv (by rfl) rfl rfl ?_
 simp only [Act.put, pu]
 refine pw_value (by rfl) (.bool true) (x_eqI _ _ _ _ rfl .i64 0 0 rfl rfl true (by decide)) ?_
 simp only [Act.put, pu]
 refine pw_mv (by rfl) rfl rfl ?_
 simp only [Act.put, pu]
 refine pw_mv (by rfl) rfl rfl ?_
 simp only [Act.put, pu]
 refine pw_mv (by rfl) rfl rfl ?_
 simp only [Act.put, pu]
 refine pw_value (by rfl) (.bool true) (exec_eql_str _ _ _ _ rfl _ rfl rfl) ?_
 simp only [Act.put, pu]
 refine pw_pick (by rfl) true (v := .bool true) rfl rfl rfl ?_
 simp only [Act.put, pu]
 refine pw_pick (by rfl) false (v := .bool true) rfl rfl rfl ?_
 simp only [Act.put, pu]
 refine pw_pick (by rfl) true (v := .bool true) rfl rfl rfl ?_
 simp only [Act.put, pu]
 refine pw_mv (by rfl) rfl rfl ?_
 simp only [Act.put, pu]
 refine pw_callB (by rfl) 7 _ _ rfl Tryd.func7 (by kernel_rfl) #[] rfl _ (awake19_any _ (kT.below sb)) ?_
 intro z11025 k
 simp only [Act.put, pu]
 replace r2 := k.row r2 (by simp <;> omega)
 replace r13 := k.row r13 (by simp <;> omega)
 replace sb := sb.trans (k.below w.heap.size sb.size (by simp <;> omega))
 clear k
 refine pw_pick (by rfl) true (v := .bool true) rfl rfl rfl ?_
 simp only [Act.put, pu]
 refine pw_as (by rfl) rfl rfl ?_
 simp only [Act.put, pu]
 refine pw_nil ?_
 go_wp2
 go_ret
 exact ⟨rfl, sb⟩
set_option maxRecDepth 100000 in
set_option maxHeartbeats 2000000 in
theorem core_00 (x y : Int) (b t s : List UInt8) (w : World) (kT : KT w) (h1 : b.length ≤ 512) (h2 : t.length ≤ 100) (h3 : s.length ≤ 512) (A D T : List UInt8) (X Y : Int)
  (cB : (∀ w', Calls Tryd.prog 12 #[.agg (frC x y b t)] w' fun e w2 => e = .returned (.tuple #[.string ⟨A.toArray⟩, .int .i64 1]) ∧ Below w'.heap.size w' w2))
  (cR : (∀ w', Calls Tryd.prog 13 #[.agg (frC x y b t)] w' fun e w2 => e = .returned (.tuple #[.string ⟨A.toArray⟩, .int .i64 1]) ∧ Below w'.heap.size w' w2))
  (cT : (∀ w', Calls Tryd.prog 14 #[.string ⟨s.toArray⟩] w' fun e w2 => e = .returned (.tuple #[.agg (frC X Y D T), .int .i64 4]) ∧ Below w'.heap.size w' w2))
  (cU : (∀ w', Calls Tryd.prog 15 #[.string ⟨s.toArray⟩] w' fun e w2 => e = .returned (.tuple #[.agg (frC X Y D T), .int .i64 4]) ∧ Below w'.heap.size w' w2))
  (cV : (∀ w', Calls Tryd.prog 14 #[.string ⟨A.toArray⟩] w' fun e w2 => e = .returned (.tuple #[.agg (frC 0 0 [] []), .int .i64 4]) ∧ Below w'.heap.size w' w2))
  (cW : (∀ w', Calls Tryd.prog 12 #[.agg (frC X Y D T)] w' fun e w2 => e = .returned (.tuple #[.string ⟨[].toArray⟩, .int .i64 1]) ∧ Below w'.heap.size w' w2)) :
  Calls Tryd.prog 5 #[.agg (frC x y b t), .string ⟨s.toArray⟩] w fun e w' => e = .returned (.bool true) ∧ Below w.heap.size w w' := by
 go_enter Tryd.func5, Tryd.ntmps5
 (repeat ((fail_if_success with_reducible refine rg ?_); go_step))
 refine wp_region_pw ?_
 refine pw_boxr (by rfl) 25 _ rfl (frC x y b t) rfl ?_
 intro g2 z0 n0 r2 k
 simp only [Act.put, pu]
 have b2 : w.heap.size ≤ g2 := n0
 clear n0
 have sb := k.below w.heap.size (Nat.le_refl _) (by simp)
 clear k
 refine pw_value (by rfl) (.bool false) (fun _ => rfl) ?_
 simp only [Act.put, pu]
 refine pw_nil ?_
 (repeat ((fail_if_success with_reducible refine rg ?_); go_step))
 refine wp_region_pw ?_
 refine pw_value (by rfl) (.pointer (some ⟨g2, 2, none⟩)) (exec_field 25 _ 2 rfl g2 0 rfl _ Tryd.underlying25 _ rfl 0 Tryd.sizeOf9) ?_
 simp only [Act.put, pu]
 refine pw_loadk (by rfl) 9 _ rfl _ (2) rfl r2.r (.string ⟨b.toArray⟩) rfl Tryd.isAgg9 ?_
 simp only [Act.put, pu]
 refine pw_value (by rfl) (.int .i64 (b.length : Nat)) (y_lenS _ _ rfl b rfl Tryd.underlying9) ?_
 simp only [Act.put, pu]
 refine pw_value (by rfl) (.bool false) (x_gt _ _ _ _ rfl (b.length : Nat) 512 rfl rfl false (decide_eq_false (by omega))) ?_
 simp only [Act.put, pu]
 refine pw_mv (by rfl) rfl rfl ?_
 simp only [Act.put, pu]
 refine pw_value (by rfl) (.pointer (some ⟨g2, 3, none⟩)) (exec_field 25 _ 3 rfl g2 0 rfl _ Tryd.underlying25 _ rfl 0 Tryd.sizeOf9) ?_
 simp only [Act.put, pu]
 refine pw_loadk (by rfl) 9 _ rfl _ (3) rfl r2.r (.string ⟨t.toArray⟩) rfl Tryd.isAgg9 ?_
 simp only [Act.put, pu]
 refine pw_value (by rfl) (.int .i64 (t.length : Nat)) (y_lenS _ _ rfl t rfl Tryd.underlying9) ?_
 simp only [Act.put, pu]
 refine pw_value (by rfl) (.bool false) (x_gt _ _ _ _ rfl (t.length : Nat) 100 rfl rfl false (decide_eq_false (by omega))) ?_
 simp only [Act.put, pu]
 refine pw_pick (by rfl) false (v := .bool false) rfl rfl rfl ?_
 simp only [Act.put, pu]
 refine pw_mv (by rfl) rfl rfl ?_
 simp only [Act.put, pu]
 refine pw_mv (by rfl) rfl rfl ?_
 simp only [Act.put, pu]
 refine pw_value (by rfl) (.int .i64 (s.length : Nat)) (y_lenS _ _ rfl s rfl Tryd.underlying9) ?_
 simp only [Act.put, pu]
 refine pw_value (by rfl) (.bool false) (x_gt _ _ _ _ rfl (s.length : Nat) 512 rfl rfl false (decide_eq_false (by omega))) ?_
 simp only [Act.put, pu]
 refine pw_pick (by rfl) false (v := .bool false) rfl rfl rfl ?_
 simp only [Act.put, pu]
 refine pw_nil ?_
 (repeat ((fail_if_success with_reducible refine rg ?_); go_step))
 refine wp_region_pw ?_
 refine pw_loadm (by rfl) 25 _ rfl _ (0) rfl r2.r (frC x y b t) (part_allF _) _ Tryd.underlying25 rfl size_fr ?_
 simp only [Act.put, pu]
 refine pw_callB (by rfl) 12 _ _ rfl Tryd.func12 (by kernel_rfl) #[.agg (frC x y b t)] rfl _ (cB _) ?_
 intro z3001 k
 simp only [Act.put, pu]
 replace r2 := k.row r2 (by simp <;> omega)
 replace sb := sb.trans (k.below w.heap.size sb.size (by simp <;> omega))
 clear k
 refine pw_mv (by rfl) rfl rfl ?_
 simp only [Act.put, pu]
 refine pw_ext (by rfl) rfl rfl rfl ?_
 simp only [Act.put, pu]
 refine pw_ext (by rfl) rfl rfl rfl ?_
 simp only [Act.put, pu]
 refine pw_as (by rfl) rfl rfl ?_
 simp only [Act.put, pu]
 refine pw_as (by rfl) rfl rfl ?_
 simp only [Act.put, pu]
 refine pw_nil ?_
 (repeat ((fail_if_success with_reducible refine rg ?_); go_step))
 refine wp_region_pw ?_
 refine pw_loadm (by rfl) 25 _ rfl _ (0) rfl r2.r (frC x y b t) (part_allF _) _ Tryd.underlying25 rfl size_fr ?_
 simp only [Act.put, pu]
 refine pw_callB (by rfl) 13 _ _ rfl Tryd.func13 (by kernel_rfl) #[.agg (frC x y b t)] rfl _ (cR _) ?_
 intro z4001 k
 simp only [Act.put, pu]
 replace r2 := k.row r2 (by simp <;> omega)
 replace sb := sb.trans (k.below w.heap.size sb.size (by simp <;> omega))
 clear k
 refine pw_mv (by rfl) rfl rfl ?_
 simp only [Act.put, pu]
 refine pw_ext (by rfl) rfl rfl rfl ?_
 simp only [Act.put, pu]
 refine pw_ext (by rfl) rfl rfl rfl ?_
 simp only [Act.put, pu]
 refine pw_as (by rfl) rfl rfl ?_
 simp only [Act.put, pu]
 refine pw_as (by rfl) rfl rfl ?_
 simp only [Act.put, pu]
 refine pw_nil ?_
 (repeat ((fail_if_success with_reducible refine rg ?_); go_step))
 refine wp_region_pw ?_
 refine pw_mv (by rfl) rfl rfl ?_
 simp only [Act.put, pu]
 refine pw_callB (by rfl) 14 _ _ rfl Tryd.func14 (by kernel_rfl) #[.string ⟨s.toArray⟩] rfl _ (cT _) ?_
 intro z5001 k
 simp only [Act.put, pu]
 replace r2 := k.row r2 (by simp <;> omega)
 replace sb := sb.trans (k.below w.heap.size sb.size (by simp <;> omega))
 clear k
 refine pw_mv (by rfl) rfl rfl ?_
 simp only [Act.put, pu]
 refine pw_ext (by rfl) rfl rfl rfl ?_
 simp only [Act.put, pu]
 refine pw_ext (by rfl) rfl rfl rfl ?_
 simp only [Act.put, pu]
 refine pw_new (by rfl) 25 rfl _ zero_fr ?_
 intro g9 z5005 n0 r9 k
 simp only [Act.put, pu]
 have d2x9 := Nat.lt_of_lt_of_le r2.lt n0
 have b9 := Nat.le_trans sb.size n0
 clear n0
 replace r2 := k.row r2 (by simp <;> omega)
 replace sb := sb.trans (k.below w.heap.size sb.size (by simp <;> omega))
 clear k
 refine pw_put (by rfl) 25 _ _ rfl _ rfl r9 (frC X Y D T) rfl (by exact size_fr) (by rfl) (fr_one _ _ _ _) ?_
 clear r9
 intro z5006 r9 k
 simp only [Act.put]
 replace r2 := k.row r2 (by simp <;> omega)
 replace sb := sb.trans (k.below w.heap.size sb.size (by simp <;> omega))
 clear k
 refine pw_as (by rfl) rfl rfl ?_
 simp only [Act.put, pu]
 refine pw_nil ?_
 (repeat ((fail_if_success with_reducible refine rg ?_); go_step))
 refine wp_region_pw ?_
 refine pw_mv (by rfl) rfl rfl ?_
 simp only [Act.put, pu]
 refine pw_callB (by rfl) 15 _ _ rfl Tryd.func15 (by kernel_rfl) #[.string ⟨s.toArray⟩] rfl _ (cU _) ?_
 intro z6001 k
 simp only [Act.put, pu]
 replace r2 := k.row r2 (by simp <;> omega)
 replace r9 := k.row r9 (by simp <;> omega)
 replace sb := sb.trans (k.below w.heap.size sb.size (by simp <;> omega))
 clear k
 refine pw_mv (by rfl) rfl rfl ?_
 simp only [Act.put, pu]
 refine pw_ext (by rfl) rfl rfl rfl ?_
 simp only [Act.put, pu]
 refine pw_ext (by rfl) rfl rfl rfl ?_
 simp only [Act.put, pu]
 refine pw_new (by rfl) 25 rfl _ zero_fr ?_
 intro g11 z6005 n0 r11 k
 simp only [Act.put, pu]
 have d2x11 := Nat.lt_of_lt_of_le r2.lt n0
 have d9x11 := Nat.lt_of_lt_of_le r9.lt n0
 have b11 := Nat.le_trans sb.size n0
 clear n0
 replace r2 := k.row r2 (by simp <;> omega)
 replace r9 := k.row r9 (by simp <;> omega)
 replace sb := sb.trans (k.below w.heap.size sb.size (by simp <;> omega))
 clear k
 refine pw_put (by rfl) 25 _ _ rfl _ rfl r11 (frC X Y D T) rfl (by exact size_fr) (by rfl) (fr_one _ _ _ _) ?_
 clear r11
 intro z6006 r11 k
 simp only [Act.put]
 replace r2 := k.row r2 (by simp <;> omega)
 replace r9 := k.row r9 (by simp <;> omega)
 replace sb := sb.trans (k.below w.heap.size sb.size (by simp <;> omega))
 clear k
 refine pw_as (by rfl) rfl rfl ?_
 simp only [Act.put, pu]
 refine pw_nil ?_
 (repeat ((fail_if_success with_reducible refine rg ?_); go_step))
 refine wp_region_pw ?_
 refine pw_mv (by rfl) rfl rfl ?_
 simp only [Act.put, pu]
 refine pw_mv (by rfl) rfl rfl ?_
 simp only [Act.put, pu]
 refine pw_value (by rfl) (.bool false) (x_neS _ _ _ _ rfl _ rfl rfl) ?_
 simp only [Act.put, pu]
 refine pw_mv (by rfl) rfl rfl ?_
 simp only [Act.put, pu]
 refine pw_mv (by rfl) rfl rfl ?_
 simp only [Act.put, pu]
 refine pw_mv (by rfl) rfl rfl ?_
 simp only [Act.put, pu]
 refine pw_value (by rfl) (.bool false) (x_neI _ _ _ _ rfl .i64 1 1 rfl rfl false (by decide)) ?_
 simp only [Act.put, pu]
 refine pw_pick (by rfl) false (v := .bool false) rfl rfl rfl ?_
 simp only [Act.put, pu]
 refine pw_mv (by rfl) rfl rfl ?_
 simp only [Act.put, pu]
 refine pw_loadm (by rfl) 25 _ rfl _ (0) rfl r9.r (frC X Y D T) (part_allF _) _ Tryd.underlying25 rfl size_fr ?_
 simp only [Act.put, pu]
 refine pw_loadm (by rfl) 25 _ rfl _ (0) rfl r11.r (frC X Y D T) (part_allF _) _ Tryd.underlying25 rfl size_fr ?_
 simp only [Act.put, pu]
 refine pw_value (by rfl) (.bool false) (exec_neq_fr _ _ _ rfl X Y X Y D T D T rfl rfl false (by simp)) ?_
 simp only [Act.put, pu]
 refine pw_pick (by rfl) false (v := .bool false) rfl rfl rfl ?_
 simp only [Act.put, pu]
 refine pw_mv (by rfl) rfl rfl ?_
 simp only [Act.put, pu]
 refine pw_mv (by rfl) rfl rfl ?_
 simp only [Act.put, pu]
 refine pw_mv (by rfl) rfl rfl ?_
 simp only [Act.put, pu]
 refine pw_value (by rfl) (.bool false) (x_neI _ _ _ _ rfl .i64 4 4 rfl rfl false (by decide)) ?_
 simp only [Act.put, pu]
 refine pw_pick (by rfl) false (v := .bool false) rfl rfl rfl ?_
 simp only [Act.put, pu]
 refine pw_nil ?_
 (repeat ((fail_if_success with_reducible refine rg ?_); go_step))
 refine wp_region_pw ?_
 refine pw_mv (by rfl) rfl rfl ?_
 simp only [Act.put, pu]
 refine pw_callB (by rfl) 14 _ _ rfl Tryd.func14 (by kernel_rfl) #[.string ⟨A.toArray⟩] rfl _ (cV _) ?_
 intro z9001 k
 simp only [Act.put, pu]
 replace r2 := k.row r2 (by simp <;> omega)
 replace r9 := k.row r9 (by simp <;> omega)
 replace sb := sb.trans (k.below w.heap.size sb.size (by simp <;> omega))
 clear k
 refine pw_mv (by rfl) rfl rfl ?_
 simp only [Act.put, pu]
 refine pw_ext (by rfl) rfl rfl rfl ?_
 simp only [Act.put, pu]
 refine pw_ext (by rfl) rfl rfl rfl ?_
 simp only [Act.put, pu]
 refine pw_new (by rfl) 25 rfl _ zero_fr ?_
 intro g13 z9005 n0 r13 k
 simp only [Act.put, pu]
 have d2x13 := Nat.lt_of_lt_of_le r2.lt n0
 have d9x13 := Nat.lt_of_lt_of_le r9.lt n0
 have b13 := Nat.le_trans sb.size n0
 clear n0
 replace r2 := k.row r2 (by simp <;> omega)
 replace r9 := k.row r9 (by simp <;> omega)
 replace sb := sb.trans (k.below w.heap.size sb.size (by simp <;> omega))
 clear k
 refine pw_put (by rfl) 25 _ _ rfl _ rfl r13 (frC 0 0 [] []) rfl (by exact size_fr) (by rfl) (fr_one _ _ _ _) ?_
 clear r13
 intro z9006 r13 k
 simp only [Act.put]
 replace r2 := k.row r2 (by simp <;> omega)
 replace r9 := k.row r9 (by simp <;> omega)
 replace sb := sb.trans (k.below w.heap.size sb.size (by simp <;> omega))
 clear k
 refine pw_as (by rfl) rfl rfl ?_
 simp only [Act.put, pu]
 refine pw_nil ?_
 (repeat ((fail_if_success with_reducible refine rg ?_); go_step))
 refine wp_region_pw ?_
 refine pw_loadm (by rfl) 25 _ rfl _ (0) rfl r9.r (frC X Y D T) (part_allF _) _ Tryd.underlying25 rfl size_fr ?_
 simp only [Act.put, pu]
 refine pw_callB (by rfl) 12 _ _ rfl Tryd.func12 (by kernel_rfl) #[.agg (frC X Y D T)] rfl _ (cW _) ?_
 intro z10001 k
 simp only [Act.put, pu]
 replace r2 := k.row r2 (by simp <;> omega)
 replace r9 := k.row r9 (by simp <;> omega)
 replace r13 := k.row r13 (by simp <;> omega)
 replace sb := sb.trans (k.below w.heap.size sb.size (by simp <;> omega))
 clear k
 refine pw_mv (by rfl) rfl rfl ?_
 simp only [Act.put, pu]
 refine pw_ext (by rfl) rfl rfl rfl ?_
 simp only [Act.put, pu]
 refine pw_ext (by rfl) rfl rfl rfl ?_
 simp only [Act.put, pu]
 refine pw_as (by rfl) rfl rfl ?_
 simp only [Act.put, pu]
 refine pw_as (by rfl) rfl rfl ?_
 simp only [Act.put, pu]
 refine pw_nil ?_
 (repeat ((fail_if_success with_reducible refine rg ?_); go_step))
 refine wp_region_pw ?_
 refine pw_mv (by rfl) rfl rfl ?_
 simp only [Act.put, pu]
 refine pw_value (by rfl) (.bool true) (x_neI _ _ _ _ rfl .i64 1 0 rfl rfl true (by decide)) ?_
 simp only [Act.put, pu]
 refine pw_mv (by rfl) rfl rfl ?_
 simp only [Act.put, pu]
 refine pw_skip (by rfl) ?_
 simp only [Act.put, pu]
 refine pw_skip (by rfl) ?_
 simp only [Act.put, pu]
 refine pw_skip (by rfl) ?_
 simp only [Act.put, pu]
 refine pw_skip (by rfl) ?_
 simp only [Act.put, pu]
 refine pw_skip (by rfl) ?_
 simp only [Act.put, pu]
 refine pw_skip (by rfl) ?_
 simp only [Act.put, pu]
 refine pw_skip (by rfl) ?_
 simp only [Act.put, pu]
 refine pw_pick (by rfl) true (v := .bool true) rfl rfl rfl ?_
 simp only [Act.put, pu]
 refine pw_mv (by rfl) rfl rfl ?_
 simp only [Act.put, pu]
 refine pw_mv (by rfl) rfl rfl ?_
 simp only [Act.put, pu]
 refine pw_value (by rfl) (.bool true) (x_neI _ _ _ _ rfl .i64 4 0 rfl rfl true (by decide)) ?_
 simp only [Act.put, pu]
 refine pw_mv (by rfl) rfl rfl ?_
 simp only [Act.put, pu]
 refine pw_skip (by rfl) ?_
 simp only [Act.put, pu]
 refine pw_skip (by rfl) ?_
 simp only [Act.put, pu]
 refine pw_skip (by rfl) ?_
 simp only [Act.put, pu]
 refine pw_skip (by rfl) ?_
 simp only [Act.put, pu]
 refine pw_skip (by rfl) ?_
 simp only [Act.put, pu]
 refine pw_skip (by rfl) ?_
 simp only [Act.put, pu]
 refine pw_skip (by rfl) ?_
 simp only [Act.put, pu]
 refine pw_pick (by rfl) true (v := .bool true) rfl rfl rfl ?_
 simp only [Act.put, pu]
 refine pw_pick (by rfl) true (v := .bool true) rfl rfl rfl ?_
 simp only [Act.put, pu]
 refine pw_mv (by rfl) rfl rfl ?_
 simp only [Act.put, pu]
 refine pw_callB (by rfl) 7 _ _ rfl Tryd.func7 (by kernel_rfl) #[] rfl _ (awake19_any _ (kT.below sb)) ?_
 intro z11025 k
 simp only [Act.put, pu]
 replace r2 := k.row r2 (by simp <;> omega)
 replace r13 := k.row r13 (by simp <;> omega)
 replace sb := sb.trans (k.below w.heap.size sb.size (by simp <;> omega))
 clear k
 refine pw_pick (by rfl) true (v := .bool true) rfl rfl rfl ?_
 simp only [Act.put, pu]
 refine pw_as (by rfl) rfl rfl ?_
 simp only [Act.put, pu]
 refine pw_nil ?_
 go_wp2
 go_ret
 exact ⟨rfl, sb⟩
set_option maxRecDepth 100000 in
set_option maxHeartbeats 2000000 in
theorem walk (x y : Int) (b t s : List UInt8) (w : World) (kT : KT w) :
  Calls Tryd.prog 5 #[.agg (frC x y b t), .string ⟨s.toArray⟩] w fun e w' => e = .returned (.bool true) ∧ Below w.heap.size w w' := by
 by_cases h1 : 512 < b.length
 ·exact long1 x y b t s w kT h1
 by_cases h2 : 100 < t.length
 ·exact long2 x y b t s w kT (by omega) h2
 by_cases h3 : 512 < s.length
 ·exact long3 x y b t s w kT (by omega) (by omega) h3
 have n1 : b.length ≤ 512 := by omega
 have n2 : t.length ≤ 100 := by omega
 have n3 : s.length ≤ 512 := by omega
 have cZ : ∀ w', Calls Tryd.prog 14 #[.string ⟨([] : List UInt8).toArray⟩] w' fun e w2 => e = .returned (.tuple #[.agg (frC 0 0 [] []), .int .i64 4]) ∧ Below w'.heap.size w' w2 := fun w' => ftk_short [] w' (by decide)
 have cY : ∀ w', Calls Tryd.prog 12 #[.agg (frC 0 0 [] [])] w' fun e w2 => e = .returned (.tuple #[.string ⟨([] : List UInt8).toArray⟩, .int .i64 1]) ∧ Below w'.heap.size w' w2 := fun w' => fby_ends [] [] 0 0 w' rfl
 by_cases hf : enB x y = true ∧ t.length = 32
 ·obtain ⟨he, ht⟩ := hf
  by_cases hs : 34 ≤ s.length
  ·cases hz : enB (bf s 0 : Nat) (bf s 1 : Nat) with
   | true =>
    refine core_11 x y b t s w kT n1 n2 n3 _ _ _ _ _ (fun w' => fby_ok b t x y w' he ht (by omega)) (fun w' => rfby_ok b t x y w' he ht (by omega)) (fun w' => ftk_ok s w' hs (by omega) hz) (fun w' => rtk_yes s w' hs (by omega) hz) (fun w' => ftk_back b t x y w' he ht (by omega)) (fun w' => ?_)
    have hc := fby_ok (s.drop 34) ((s.take 34).drop 2) (bf s 0 : Nat) (bf s 1 : Nat) w' hz (by rw [List.length_drop, List.length_take]; omega) (by rw [List.length_drop]; omega)
    rw [fr_there s hs] at hc
    exact hc
   | false => exact core_10 x y b t s w kT n1 n2 n3 _ _ _ _ _ (fun w' => fby_ok b t x y w' he ht (by omega)) (fun w' => rfby_ok b t x y w' he ht (by omega)) (fun w' => ftk_ends s w' hs (by omega) hz) (fun w' => rtk_no s w' hs (by omega) hz) (fun w' => ftk_back b t x y w' he ht (by omega)) cY
  ·exact core_10 x y b t s w kT n1 n2 n3 _ _ _ _ _ (fun w' => fby_ok b t x y w' he ht (by omega)) (fun w' => rfby_ok b t x y w' he ht (by omega)) (fun w' => ftk_short s w' (by omega)) (fun w' => rtk_short s w' (by omega)) (fun w' => ftk_back b t x y w' he ht (by omega)) cY
 ·have cB : ∀ w', Calls Tryd.prog 12 #[.agg (frC x y b t)] w' fun e w2 => e = .returned (.tuple #[.string ⟨([] : List UInt8).toArray⟩, .int .i64 1]) ∧ Below w'.heap.size w' w2 := fun w' => by
   cases he : enB x y with
   | false => exact fby_ends b t x y w' he
   | true => exact fby_tag b t x y w' he (fun ht => hf ⟨he, ht⟩)
  have cR : ∀ w', Calls Tryd.prog 13 #[.agg (frC x y b t)] w' fun e w2 => e = .returned (.tuple #[.string ⟨([] : List UInt8).toArray⟩, .int .i64 1]) ∧ Below w'.heap.size w' w2 := fun w' => by
   cases he : enB x y with
   | false => exact rfby_ends b t x y w' he
   | true => exact rfby_tag b t x y w' he (fun ht => hf ⟨he, ht⟩)
  by_cases hs : 34 ≤ s.length
  ·cases hz : enB (bf s 0 : Nat) (bf s 1 : Nat) with
   | true =>
    refine core_01 x y b t s w kT n1 n2 n3 _ _ _ _ _ cB cR (fun w' => ftk_ok s w' hs (by omega) hz) (fun w' => rtk_yes s w' hs (by omega) hz) cZ (fun w' => ?_)
    have hc := fby_ok (s.drop 34) ((s.take 34).drop 2) (bf s 0 : Nat) (bf s 1 : Nat) w' hz (by rw [List.length_drop, List.length_take]; omega) (by rw [List.length_drop]; omega)
    rw [fr_there s hs] at hc
    exact hc
   | false => exact core_00 x y b t s w kT n1 n2 n3 _ _ _ _ _ cB cR (fun w' => ftk_ends s w' hs (by omega) hz) (fun w' => rtk_no s w' hs (by omega) hz) cZ cY
  ·exact core_00 x y b t s w kT n1 n2 n3 _ _ _ _ _ cB cR (fun w' => ftk_short s w' (by omega)) (fun w' => rtk_short s w' (by omega)) cZ cY
set_option maxRecDepth 100000 in
theorem lifted (os : Os) (started : os.Started) (H : Type) (enc : TypeId × Value → H) :
  ReturnsInHanded {} Tryd.checked os 5 .any (fun w args => (Rows.frameBytesSpec.pre enc Tryd.prog Tryd.f5 [] false w args ∧ laidMetH Tryd.prog lk w) ∧ sizedMet enc Tryd.prog Tryd.f5 (OpenSpec.ofChange Rows.frameBytesSpec) false w args)
   (Rows.frameBytesSpec.post enc Tryd.prog Tryd.f5 false true false false) := by
 refine returnsInHanded_of_change_and (C := Tryd.checked) (X := fun w _ => laidMetH Tryd.prog lk w) (fun _ _ _ hh h => h.of_heap hh) own started (by kernel_rfl) Tryd.func5
  (ChangeSpec.witness_shaped (enc := enc) (C := Tryd.checked) (os := os) (X := fun w _ => laidMetH Tryd.prog lk w) false (World.doorLaid Tryd.prog 14 os) #[.agg #[.int .i64 0, .int .i64 0, .string ⟨#[]⟩, .string ⟨#[]⟩], .string ⟨#[]⟩] 8 rfl (World.shaped_of_RefB (by kernel_rfl) (by kernel_rfl)) (by kernel_rfl) (by kernel_rfl) (by kernel_rfl) (door_met os _)) ?_
 intro W base args ds gs before hval0 hW _ _ hL _
 have hval : ∀ (j : Nat) t v, Tryd.f5.params[j]? = some t → args[j]? = some v → Value.okWide Tryd.prog W .any base t v := hval0
 have hW' := hW
 obtain ⟨p, q, hA0, hV, rfl, hfz, hnd⟩ := hW
 have hA : DataW.TrodAll enc Tryd.prog W 0 (fun _ => true) true Tryd.f5.params.toList args.toList ds p := hA0
 rw [Tryd.params5] at hA hval
 obtain ⟨v0, vs0, d0, ds0, p0, q0, hargs, rfl, rfl, h0, r0⟩ := trodAll_cons hA
 obtain ⟨v1, vs1, d1, ds1, p1, q1, rfl, rfl, rfl, h1, r1⟩ := trodAll_cons r0
 obtain ⟨rfl, rfl, rfl⟩ := trodAll_nil r1
 obtain rfl : args = #[v0, v1] := by cases args; simp_all
 obtain ⟨rfl, rfl⟩ := trodVars_none hV
 have k0 := h0
 have lt0 := lt_of_trod h0
 obtain ⟨x0, y0, b0, t0, rfl⟩ := open_fr (hval 0 25 v0 rfl rfl) h0
 have k1 := h1
 have lt1 := lt_of_trod h1
 obtain ⟨⟨⟨s1⟩⟩, rfl, rfl, rfl, w1⟩ := open_string Tryd.underlying9 (hval 1 9 v1 rfl rfl) h1
 clear hA0 hval0
 refine (walk x0 y0 b0 t0 s1 W (kt_of_laid hL)).mono fun e W' ⟨he, bel⟩ => ?_
 subst he
 exact ⟨_, rfl, _, _, _, [], _, [], hW', trodAll_mk1 (shut_bool Tryd.underlying4 _), (trodAll_cons_mk (Below.trod laidOut (by kernel_rfl) (of_decide_eq_true (by kernel_rfl)) k0 bel lt0) (trodAll_cons_mk (Below.trod laidOut (by kernel_rfl) (of_decide_eq_true (by kernel_rfl)) k1 bel lt1) trodAll_mk0)), rfl, bel.frame _, fun h => by cases h⟩
theorem over : Rows.frameBytesRow.holds Tryd.pinned (OpenSpec.ofChange Rows.frameBytesSpec) :=
 OpenClaim.holds_of_wide 5 Tryd.f5 rfl rfl rfl rfl rfl rfl rfl ⟨rfl, rfl, rfl, rfl, rfl⟩ rfl rfl rfl rfl rfl (by kernel_rfl) Tryd.func5 (by kernel_rfl)
  (of_decide_eq_true (by kernel_rfl)) (by unfold Func.isWrapper; first | (rw [if_pos (by decide +kernel)]; kernel_rfl) | (rw [if_neg (by decide +kernel)]; exact ⟨rfl, rfl⟩))
  (fun os started H enc _ => lifted os started H enc)
theorem card : Claim7.holds Tryd.pinned (.plain (OpenSpec.ofChange Rows.frameBytesSpec)) Rows.frameBytesCard :=
 Claim7.holds_tied_plain_at .later [] [.data] true (true, "4aafef69a7dd7adb73bc07568f366d918c24b00c14405ec6e35df4f3ae694b45") false
  over (fun _ h => by cases h) (by kernel_rfl) (fun _ h => by cases h) frameBytes_row_tie rfl ⟨rfl, rfl⟩ (by kernel_rfl) rfl
  (fun f fn hf hfn => by
   obtain rfl : f = 5 := Option.some.inj ((show Tryd.prog.funcNamed "sacristy/sacristylaw19.FrameBytes" = some 5 by kernel_rfl).symm.trans hf) |>.symm
   obtain rfl : fn = Tryd.f5 := (Option.some.inj (Tryd.func5.symm.trans hfn)).symm
   exact ⟨by kernel_rfl, fun j t ht => by
    rw [Tryd.params5] at ht
    have hm : t ∈ [25, 9] := by simpa using Array.mem_of_getElem? ht
    have hall : ([25, 9].all fun u => !Tryd.prog.wantsStandIn u) = true := by kernel_rfl
    exact (show Tryd.prog.wantsStandIn t = false by simpa using List.all_eq_true.1 hall t hm)⟩)
  (by kernel_rfl)
end Go.Proofs.YtdanmnhknmepiaaDoor.frameBytesP
namespace Go.Proofs.YtdanmnhknmepiaaDoor
theorem frameBytes_holds : Rows.FrameBytesCardSaid := frameBytesP.card
end Go.Proofs.YtdanmnhknmepiaaDoor
