/- The law WirePuts of layer 18 holds for every input: wire.Put and wire.Check answer as the document does, wire.Key too. No condition. -/
import Derived.Test.YtnkpfcbcmfhjkaaWRE
namespace Go.Proofs.Ytnkpfcbcmfhjkaa.wirePutsP
open Go.ChangeShapes Go.WideShapes Go.ChangeAt Go.RowKit
open Go.ChangeMaps (open_string shut_string)
set_option linter.unusedVariables false
set_option linter.unusedSimpArgs false
set_option maxRecDepth 100000 in
set_option maxHeartbeats 2000000 in
theorem core0 (kd op : Int) (key : List UInt8) (sq cl : Int) (dg : List UInt8) (a1 : Option Addr) (n c1 : Nat) (a2 : Option Addr) (m c2 : Nat) (N : Nat → Nat) (M : Nat → Nat → Nat) (Y : Nat → Nat) (s : List UInt8) (w : World) (hM : MtA w a1 n N M) (hY : YsA w a2 m Y) (hf : fwB key dg n N m = false) :
  Calls Try.prog 3 #[.agg (msC kd op key sq cl dg a1 n c1 a2 m c2), .string ⟨s.toArray⟩] w fun e w' => e = .returned (.bool true) ∧ Below w.heap.size w w' := by
 go_enter Try.func3, Try.ntmps3
 (repeat ((fail_if_success with_reducible refine rg ?_); go_step))
 refine wp_region_pw ?_
 refine pw_boxr (by rfl) 28 _ rfl (msC kd op key sq cl dg a1 n c1 a2 m c2) rfl ?_
 intro g2 z0 n0 r2 k
 simp only [Act.put, pu]
 have b2 : w.heap.size ≤ g2 := n0
 clear n0
 have sb := k.below w.heap.size (Nat.le_refl _) (by simp)
 clear k
 refine pw_value (by rfl) (.bool false) (fun _ => rfl) ?_
 simp only [Act.put, pu]
 refine pw_nil ?_
 (repeat ((fail_if_success with_reducible refine rg ?_); go_step))
 refine wp_region_pw ?_
 refine pw_loadm (by rfl) 28 _ rfl _ (0) rfl r2.r (msC kd op key sq cl dg a1 n c1 a2 m c2) (part_all _) _ Try.underlying28 rfl size_ms ?_
 simp only [Act.put, pu]
 refine pw_callB (by rfl) 6 _ _ rfl Try.func6 (by kernel_rfl) #[.agg (msC kd op key sq cl dg a1 n c1 a2 m c2)] rfl _ ((rFew_any kd op key sq cl dg a1 n c1 a2 m c2 N M _ (hM.below sb)).mono fun e w' ⟨he, hb⟩ => ⟨he.trans (by rw [hf]), hb⟩) ?_
 intro z1001 k
 simp only [Act.put, pu]
 replace r2 := k.row r2 (by simp <;> omega)
 replace sb := sb.trans (k.below w.heap.size sb.size (by simp <;> omega))
 clear k
 refine pw_value (by rfl) (.bool true) (exec_not _ _ rfl false rfl) ?_
 simp only [Act.put, pu]
 refine pw_mv (by rfl) rfl rfl ?_
 simp only [Act.put, pu]
 refine pw_skip (by rfl) ?_
 simp only [Act.put, pu]
 refine pw_skip (by rfl) ?_
 simp only [Act.put, pu]
 refine pw_skip (by rfl) ?_
 simp only [Act.put, pu]
 refine pw_pick (by rfl) true (v := .bool true) rfl rfl rfl ?_
 simp only [Act.put, pu]
 refine pw_nil ?_
 (repeat ((fail_if_success with_reducible refine rg ?_); go_step))
 refine wp_region_pw ?_
 refine pw_callB (by rfl) 7 _ _ rfl Try.func7 (by kernel_rfl) #[] rfl _ (awake18_any _) ?_
 intro z2000 k
 simp only [Act.put, pu]
 replace sb := sb.trans (k.below w.heap.size sb.size (by simp <;> omega))
 clear k
 refine pw_as (by rfl) rfl rfl ?_
 simp only [Act.put, pu]
 refine pw_nil ?_
 go_wp2
 go_ret
 exact ⟨rfl, sb⟩
set_option maxRecDepth 100000 in
set_option maxHeartbeats 2000000 in
theorem core1 (kd op : Int) (key : List UInt8) (sq cl : Int) (dg : List UInt8) (a1 : Option Addr) (n c1 : Nat) (a2 : Option Addr) (m c2 : Nat) (N : Nat → Nat) (M : Nat → Nat → Nat) (Y : Nat → Nat) (s : List UInt8) (w : World) (hM : MtA w a1 n N M) (hY : YsA w a2 m Y) (hf : fwB key dg n N m = true) (hs : 100 < s.length) :
  Calls Try.prog 3 #[.agg (msC kd op key sq cl dg a1 n c1 a2 m c2), .string ⟨s.toArray⟩] w fun e w' => e = .returned (.bool true) ∧ Below w.heap.size w w' := by
 go_enter Try.func3, Try.ntmps3
 (repeat ((fail_if_success with_reducible refine rg ?_); go_step))
 refine wp_region_pw ?_
 refine pw_boxr (by rfl) 28 _ rfl (msC kd op key sq cl dg a1 n c1 a2 m c2) rfl ?_
 intro g2 z0 n0 r2 k
 simp only [Act.put, pu]
 have b2 : w.heap.size ≤ g2 := n0
 clear n0
 have sb := k.below w.heap.size (Nat.le_refl _) (by simp)
 clear k
 refine pw_value (by rfl) (.bool false) (fun _ => rfl) ?_
 simp only [Act.put, pu]
 refine pw_nil ?_
 (repeat ((fail_if_success with_reducible refine rg ?_); go_step))
 refine wp_region_pw ?_
 refine pw_loadm (by rfl) 28 _ rfl _ (0) rfl r2.r (msC kd op key sq cl dg a1 n c1 a2 m c2) (part_all _) _ Try.underlying28 rfl size_ms ?_
 simp only [Act.put, pu]
 refine pw_callB (by rfl) 6 _ _ rfl Try.func6 (by kernel_rfl) #[.agg (msC kd op key sq cl dg a1 n c1 a2 m c2)] rfl _ ((rFew_any kd op key sq cl dg a1 n c1 a2 m c2 N M _ (hM.below sb)).mono fun e w' ⟨he, hb⟩ => ⟨he.trans (by rw [hf]), hb⟩) ?_
 intro z1001 k
 simp only [Act.put, pu]
 replace r2 := k.row r2 (by simp <;> omega)
 replace sb := sb.trans (k.below w.heap.size sb.size (by simp <;> omega))
 clear k
 refine pw_value (by rfl) (.bool false) (exec_not _ _ rfl true rfl) ?_
 simp only [Act.put, pu]
 refine pw_mv (by rfl) rfl rfl ?_
 simp only [Act.put, pu]
 refine pw_mv (by rfl) rfl rfl ?_
 simp only [Act.put, pu]
 refine pw_value (by rfl) (.int .i64 (s.length : Nat)) (y_lenS _ _ rfl s rfl Try.underlying9) ?_
 simp only [Act.put, pu]
 refine pw_value (by rfl) (.bool true) (x_gt _ _ _ _ rfl (s.length : Nat) 100 rfl rfl true (decide_eq_true (by omega))) ?_
 simp only [Act.put, pu]
 refine pw_pick (by rfl) false (v := .bool true) rfl rfl rfl ?_
 simp only [Act.put, pu]
 refine pw_nil ?_
 (repeat ((fail_if_success with_reducible refine rg ?_); go_step))
 refine wp_region_pw ?_
 refine pw_callB (by rfl) 7 _ _ rfl Try.func7 (by kernel_rfl) #[] rfl _ (awake18_any _) ?_
 intro z2000 k
 simp only [Act.put, pu]
 replace sb := sb.trans (k.below w.heap.size sb.size (by simp <;> omega))
 clear k
 refine pw_as (by rfl) rfl rfl ?_
 simp only [Act.put, pu]
 refine pw_nil ?_
 go_wp2
 go_ret
 exact ⟨rfl, sb⟩
set_option maxRecDepth 100000 in
set_option maxHeartbeats 2000000 in
theorem core_t (kd op : Int) (key : List UInt8) (sq cl : Int) (dg : List UInt8) (a1 : Option Addr) (n c1 : Nat) (a2 : Option Addr) (m c2 : Nat) (N : Nat → Nat) (M : Nat → Nat → Nat) (Y : Nat → Nat) (s : List UInt8) (w : World) (hM : MtA w a1 n N M) (hY : YsA w a2 m Y) (hf : fwB key dg n N m = true) (hs : s.length ≤ 100) (T : List UInt8) (E : Int)
  (cP : (∀ w', Below w.heap.size w w' → Calls Try.prog 8 #[.agg (msC kd op key sq cl dg a1 n c1 a2 m c2)] w' fun e w2 => e = .returned (.tuple #[.string ⟨T.toArray⟩, .int .i64 E]) ∧ Below w'.heap.size w' w2))
  (cR : (∀ w', Below w.heap.size w w' → Calls Try.prog 9 #[.agg (msC kd op key sq cl dg a1 n c1 a2 m c2)] w' fun e w2 => e = .returned (.tuple #[.string ⟨T.toArray⟩, .int .i64 E]) ∧ Below w'.heap.size w' w2))
  (cC : (∀ w', Below w.heap.size w w' → Calls Try.prog 10 #[.agg (msC kd op key sq cl dg a1 n c1 a2 m c2)] w' fun e w2 => e = .returned (.int .i64 0) ∧ Below w'.heap.size w' w2))
  (cM : (∀ w', Below w.heap.size w w' → Calls Try.prog 11 #[.agg (msC kd op key sq cl dg a1 n c1 a2 m c2)] w' fun e w2 => e = .returned (.bool true) ∧ Below w'.heap.size w' w2)) :
  Calls Try.prog 3 #[.agg (msC kd op key sq cl dg a1 n c1 a2 m c2), .string ⟨s.toArray⟩] w fun e w' => e = .returned (.bool true) ∧ Below w.heap.size w w' := by
 go_enter Try.func3, Try.ntmps3
 (repeat ((fail_if_success with_reducible refine rg ?_); go_step))
 refine wp_region_pw ?_
 refine pw_boxr (by rfl) 28 _ rfl (msC kd op key sq cl dg a1 n c1 a2 m c2) rfl ?_
 intro g2 z0 n0 r2 k
 simp only [Act.put, pu]
 have b2 : w.heap.size ≤ g2 := n0
 clear n0
 have sb := k.below w.heap.size (Nat.le_refl _) (by simp)
 clear k
 refine pw_value (by rfl) (.bool false) (fun _ => rfl) ?_
 simp only [Act.put, pu]
 refine pw_nil ?_
 (repeat ((fail_if_success with_reducible refine rg ?_); go_step))
 refine wp_region_pw ?_
 refine pw_loadm (by rfl) 28 _ rfl _ (0) rfl r2.r (msC kd op key sq cl dg a1 n c1 a2 m c2) (part_all _) _ Try.underlying28 rfl size_ms ?_
 simp only [Act.put, pu]
 refine pw_callB (by rfl) 6 _ _ rfl Try.func6 (by kernel_rfl) #[.agg (msC kd op key sq cl dg a1 n c1 a2 m c2)] rfl _ ((rFew_any kd op key sq cl dg a1 n c1 a2 m c2 N M _ (hM.below sb)).mono fun e w' ⟨he, hb⟩ => ⟨he.trans (by rw [hf]), hb⟩) ?_
 intro z1001 k
 simp only [Act.put, pu]
 replace r2 := k.row r2 (by simp <;> omega)
 replace sb := sb.trans (k.below w.heap.size sb.size (by simp <;> omega))
 clear k
 refine pw_value (by rfl) (.bool false) (exec_not _ _ rfl true rfl) ?_
 simp only [Act.put, pu]
 refine pw_mv (by rfl) rfl rfl ?_
 simp only [Act.put, pu]
 refine pw_mv (by rfl) rfl rfl ?_
 simp only [Act.put, pu]
 refine pw_value (by rfl) (.int .i64 (s.length : Nat)) (y_lenS _ _ rfl s rfl Try.underlying9) ?_
 simp only [Act.put, pu]
 refine pw_value (by rfl) (.bool false) (x_gt _ _ _ _ rfl (s.length : Nat) 100 rfl rfl false (decide_eq_false (by omega))) ?_
 simp only [Act.put, pu]
 refine pw_pick (by rfl) false (v := .bool false) rfl rfl rfl ?_
 simp only [Act.put, pu]
 refine pw_nil ?_
 (repeat ((fail_if_success with_reducible refine rg ?_); go_step))
 refine wp_region_pw ?_
 refine pw_loadm (by rfl) 28 _ rfl _ (0) rfl r2.r (msC kd op key sq cl dg a1 n c1 a2 m c2) (part_all _) _ Try.underlying28 rfl size_ms ?_
 simp only [Act.put, pu]
 refine pw_callB (by rfl) 8 _ _ rfl Try.func8 (by kernel_rfl) #[.agg (msC kd op key sq cl dg a1 n c1 a2 m c2)] rfl _ (cP _ sb) ?_
 intro z3001 k
 simp only [Act.put, pu]
 replace r2 := k.row r2 (by simp <;> omega)
 replace sb := sb.trans (k.below w.heap.size sb.size (by simp <;> omega))
 clear k
 refine pw_mv (by rfl) rfl rfl ?_
 simp only [Act.put, pu]
 refine pw_ext (by rfl) rfl rfl rfl ?_
 simp only [Act.put, pu]
 refine pw_ext (by rfl) rfl rfl rfl ?_
 simp only [Act.put, pu]
 refine pw_as (by rfl) rfl rfl ?_
 simp only [Act.put, pu]
 refine pw_as (by rfl) rfl rfl ?_
 simp only [Act.put, pu]
 refine pw_nil ?_
 (repeat ((fail_if_success with_reducible refine rg ?_); go_step))
 refine wp_region_pw ?_
 refine pw_loadm (by rfl) 28 _ rfl _ (0) rfl r2.r (msC kd op key sq cl dg a1 n c1 a2 m c2) (part_all _) _ Try.underlying28 rfl size_ms ?_
 simp only [Act.put, pu]
 refine pw_callB (by rfl) 9 _ _ rfl Try.func9 (by kernel_rfl) #[.agg (msC kd op key sq cl dg a1 n c1 a2 m c2)] rfl _ (cR _ sb) ?_
 intro z4001 k
 simp only [Act.put, pu]
 replace r2 := k.row r2 (by simp <;> omega)
 replace sb := sb.trans (k.below w.heap.size sb.size (by simp <;> omega))
 clear k
 refine pw_mv (by rfl) rfl rfl ?_
 simp only [Act.put, pu]
 refine pw_ext (by rfl) rfl rfl rfl ?_
 simp only [Act.put, pu]
 refine pw_ext (by rfl) rfl rfl rfl ?_
 simp only [Act.put, pu]
 refine pw_as (by rfl) rfl rfl ?_
 simp only [Act.put, pu]
 refine pw_as (by rfl) rfl rfl ?_
 simp only [Act.put, pu]
 refine pw_nil ?_
 (repeat ((fail_if_success with_reducible refine rg ?_); go_step))
 refine wp_region_pw ?_
 refine pw_loadm (by rfl) 28 _ rfl _ (0) rfl r2.r (msC kd op key sq cl dg a1 n c1 a2 m c2) (part_all _) _ Try.underlying28 rfl size_ms ?_
 simp only [Act.put, pu]
 refine pw_callB (by rfl) 10 _ _ rfl Try.func10 (by kernel_rfl) #[.agg (msC kd op key sq cl dg a1 n c1 a2 m c2)] rfl _ (cC _ sb) ?_
 intro z5001 k
 simp only [Act.put, pu]
 replace r2 := k.row r2 (by simp <;> omega)
 replace sb := sb.trans (k.below w.heap.size sb.size (by simp <;> omega))
 clear k
 refine pw_as (by rfl) rfl rfl ?_
 simp only [Act.put, pu]
 refine pw_nil ?_
 (repeat ((fail_if_success with_reducible refine rg ?_); go_step))
 refine wp_region_pw ?_
 refine pw_mv (by rfl) rfl rfl ?_
 simp only [Act.put, pu]
 refine pw_mv (by rfl) rfl rfl ?_
 simp only [Act.put, pu]
 refine pw_value (by rfl) (.bool true) (exec_eql_str _ _ _ _ rfl _ rfl rfl) ?_
 simp only [Act.put, pu]
 refine pw_mv (by rfl) rfl rfl ?_
 simp only [Act.put, pu]
 refine pw_mv (by rfl) rfl rfl ?_
 simp only [Act.put, pu]
 refine pw_mv (by rfl) rfl rfl ?_
 simp only [Act.put, pu]
 refine pw_value (by rfl) (.bool true) (x_eqI _ _ _ _ rfl .i64 E E rfl rfl true (decide_eq_true rfl)) ?_
 simp only [Act.put, pu]
 refine pw_pick (by rfl) true (v := .bool true) rfl rfl rfl ?_
 simp only [Act.put, pu]
 refine pw_mv (by rfl) rfl rfl ?_
 simp only [Act.put, pu]
 refine pw_mv (by rfl) rfl rfl ?_
 simp only [Act.put, pu]
 refine pw_value (by rfl) (.bool true) (x_eqI _ _ _ _ rfl .i64 0 0 rfl rfl true rfl) ?_
 simp only [Act.put, pu]
 refine pw_loadm (by rfl) 28 _ rfl _ (0) rfl r2.r (msC kd op key sq cl dg a1 n c1 a2 m c2) (part_all _) _ Try.underlying28 rfl size_ms ?_
 simp only [Act.put, pu]
 refine pw_callB (by rfl) 11 _ _ rfl Try.func11 (by kernel_rfl) #[.agg (msC kd op key sq cl dg a1 n c1 a2 m c2)] rfl _ (cM _ sb) ?_
 intro z6012 k
 simp only [Act.put, pu]
 replace r2 := k.row r2 (by simp <;> omega)
 replace sb := sb.trans (k.below w.heap.size sb.size (by simp <;> omega))
 clear k
 refine pw_value (by rfl) (.bool true) (exec_eql_bool _ _ _ _ rfl true rfl rfl Try.underlying4) ?_
 simp only [Act.put, pu]
 refine pw_pick (by rfl) true (v := .bool true) rfl rfl rfl ?_
 simp only [Act.put, pu]
 refine pw_mv (by rfl) rfl rfl ?_
 simp only [Act.put, pu]
 refine pw_mv (by rfl) rfl rfl ?_
 simp only [Act.put, pu]
 refine pw_value (by rfl) (.bool true) (x_eqI _ _ _ _ rfl .i64 0 0 rfl rfl true rfl) ?_
 simp only [Act.put, pu]
 refine pw_mv (by rfl) rfl rfl ?_
 simp only [Act.put, pu]
 refine pw_skip (by rfl) ?_
 simp only [Act.put, pu]
 refine pw_skip (by rfl) ?_
 simp only [Act.put, pu]
 refine pw_pick (by rfl) true (v := .bool true) rfl rfl rfl ?_
 simp only [Act.put, pu]
 refine pw_pick (by rfl) true (v := .bool true) rfl rfl rfl ?_
 simp only [Act.put, pu]
 refine pw_mv (by rfl) rfl rfl ?_
 simp only [Act.put, pu]
 refine pw_mv (by rfl) rfl rfl ?_
 simp only [Act.put, pu]
 refine pw_callB (by rfl) 12 _ _ rfl Try.func12 (by kernel_rfl) #[.string ⟨s.toArray⟩] rfl _ (wkey_any s _ (by omega)) ?_
 intro z6025 k
 simp only [Act.put, pu]
 replace r2 := k.row r2 (by simp <;> omega)
 replace sb := sb.trans (k.below w.heap.size sb.size (by simp <;> omega))
 clear k
 refine pw_mv (by rfl) rfl rfl ?_
 simp only [Act.put, pu]
 refine pw_callB (by rfl) 13 _ _ rfl Try.func13 (by kernel_rfl) #[.string ⟨s.toArray⟩] rfl _ (rwkey_any s _ (by omega)) ?_
 intro z6027 k
 simp only [Act.put, pu]
 replace r2 := k.row r2 (by simp <;> omega)
 replace sb := sb.trans (k.below w.heap.size sb.size (by simp <;> omega))
 clear k
 refine pw_value (by rfl) (.bool true) (exec_eql_bool _ _ _ _ rfl (keyB s) rfl rfl Try.underlying4) ?_
 simp only [Act.put, pu]
 refine pw_pick (by rfl) true (v := .bool true) rfl rfl rfl ?_
 simp only [Act.put, pu]
 refine pw_mv (by rfl) rfl rfl ?_
 simp only [Act.put, pu]
 refine pw_callB (by rfl) 7 _ _ rfl Try.func7 (by kernel_rfl) #[] rfl _ (awake18_any _) ?_
 intro z6031 k
 simp only [Act.put, pu]
 replace r2 := k.row r2 (by simp <;> omega)
 replace sb := sb.trans (k.below w.heap.size sb.size (by simp <;> omega))
 clear k
 refine pw_pick (by rfl) true (v := .bool true) rfl rfl rfl ?_
 simp only [Act.put, pu]
 refine pw_as (by rfl) rfl rfl ?_
 simp only [Act.put, pu]
 refine pw_nil ?_
 go_wp2
 go_ret
 exact ⟨rfl, sb⟩
set_option maxRecDepth 100000 in
set_option maxHeartbeats 2000000 in
theorem core_f (kd op : Int) (key : List UInt8) (sq cl : Int) (dg : List UInt8) (a1 : Option Addr) (n c1 : Nat) (a2 : Option Addr) (m c2 : Nat) (N : Nat → Nat) (M : Nat → Nat → Nat) (Y : Nat → Nat) (s : List UInt8) (w : World) (hM : MtA w a1 n N M) (hY : YsA w a2 m Y) (hf : fwB key dg n N m = true) (hs : s.length ≤ 100) (T : List UInt8) (E : Int)
  (cP : (∀ w', Below w.heap.size w w' → Calls Try.prog 8 #[.agg (msC kd op key sq cl dg a1 n c1 a2 m c2)] w' fun e w2 => e = .returned (.tuple #[.string ⟨T.toArray⟩, .int .i64 E]) ∧ Below w'.heap.size w' w2))
  (cR : (∀ w', Below w.heap.size w w' → Calls Try.prog 9 #[.agg (msC kd op key sq cl dg a1 n c1 a2 m c2)] w' fun e w2 => e = .returned (.tuple #[.string ⟨T.toArray⟩, .int .i64 E]) ∧ Below w'.heap.size w' w2))
  (cC : (∀ w', Below w.heap.size w w' → Calls Try.prog 10 #[.agg (msC kd op key sq cl dg a1 n c1 a2 m c2)] w' fun e w2 => e = .returned (.int .i64 1) ∧ Below w'.heap.size w' w2))
  (cM : (∀ w', Below w.heap.size w w' → Calls Try.prog 11 #[.agg (msC kd op key sq cl dg a1 n c1 a2 m c2)] w' fun e w2 => e = .returned (.bool false) ∧ Below w'.heap.size w' w2)) :
  Calls Try.prog 3 #[.agg (msC kd op key sq cl dg a1 n c1 a2 m c2), .string ⟨s.toArray⟩] w fun e w' => e = .returned (.bool true) ∧ Below w.heap.size w w' := by
 go_enter Try.func3, Try.ntmps3
 (repeat ((fail_if_success with_reducible refine rg ?_); go_step))
 refine wp_region_pw ?_
 refine pw_boxr (by rfl) 28 _ rfl (msC kd op key sq cl dg a1 n c1 a2 m c2) rfl ?_
 intro g2 z0 n0 r2 k
 simp only [Act.put, pu]
 have b2 : w.heap.size ≤ g2 := n0
 clear n0
 have sb := k.below w.heap.size (Nat.le_refl _) (by simp)
 clear k
 refine pw_value (by rfl) (.bool false) (fun _ => rfl) ?_
 simp only [Act.put, pu]
 refine pw_nil ?_
 (repeat ((fail_if_success with_reducible refine rg ?_); go_step))
 refine wp_region_pw ?_
 refine pw_loadm (by rfl) 28 _ rfl _ (0) rfl r2.r (msC kd op key sq cl dg a1 n c1 a2 m c2) (part_all _) _ Try.underlying28 rfl size_ms ?_
 simp only [Act.put, pu]
 refine pw_callB (by rfl) 6 _ _ rfl Try.func6 (by kernel_rfl) #[.agg (msC kd op key sq cl dg a1 n c1 a2 m c2)] rfl _ ((rFew_any kd op key sq cl dg a1 n c1 a2 m c2 N M _ (hM.below sb)).mono fun e w' ⟨he, hb⟩ => ⟨he.trans (by rw [hf]), hb⟩) ?_
 intro z1001 k
 simp only [Act.put, pu]
 replace r2 := k.row r2 (by simp <;> omega)
 replace sb := sb.trans (k.below w.heap.size sb.size (by simp <;> omega))
 clear k
 refine pw_value (by rfl) (.bool false) (exec_not _ _ rfl true rfl) ?_
 simp only [Act.put, pu]
 refine pw_mv (by rfl) rfl rfl ?_
 simp only [Act.put, pu]
 refine pw_mv (by rfl) rfl rfl ?_
 simp only [Act.put, pu]
 refine pw_value (by rfl) (.int .i64 (s.length : Nat)) (y_lenS _ _ rfl s rfl Try.underlying9) ?_
 simp only [Act.put, pu]
 refine pw_value (by rfl) (.bool false) (x_gt _ _ _ _ rfl (s.length : Nat) 100 rfl rfl false (decide_eq_false (by omega))) ?_
 simp only [Act.put, pu]
 refine pw_pick (by rfl) false (v := .bool false) rfl rfl rfl ?_
 simp only [Act.put, pu]
 refine pw_nil ?_
 (repeat ((fail_if_success with_reducible refine rg ?_); go_step))
 refine wp_region_pw ?_
 refine pw_loadm (by rfl) 28 _ rfl _ (0) rfl r2.r (msC kd op key sq cl dg a1 n c1 a2 m c2) (part_all _) _ Try.underlying28 rfl size_ms ?_
 simp only [Act.put, pu]
 refine pw_callB (by rfl) 8 _ _ rfl Try.func8 (by kernel_rfl) #[.agg (msC kd op key sq cl dg a1 n c1 a2 m c2)] rfl _ (cP _ sb) ?_
 intro z3001 k
 simp only [Act.put, pu]
 replace r2 := k.row r2 (by simp <;> omega)
 replace sb := sb.trans (k.below w.heap.size sb.size (by simp <;> omega))
 clear k
 refine pw_mv (by rfl) rfl rfl ?_
 simp only [Act.put, pu]
 refine pw_ext (by rfl) rfl rfl rfl ?_
 simp only [Act.put, pu]
 refine pw_ext (by rfl) rfl rfl rfl ?_
 simp only [Act.put, pu]
 refine pw_as (by rfl) rfl rfl ?_
 simp only [Act.put, pu]
 refine pw_as (by rfl) rfl rfl ?_
 simp only [Act.put, pu]
 refine pw_nil ?_
 (repeat ((fail_if_success with_reducible refine rg ?_); go_step))
 refine wp_region_pw ?_
 refine pw_loadm (by rfl) 28 _ rfl _ (0) rfl r2.r (msC kd op key sq cl dg a1 n c1 a2 m c2) (part_all _) _ Try.underlying28 rfl size_ms ?_
 simp only [Act.put, pu]
 refine pw_callB (by rfl) 9 _ _ rfl Try.func9 (by kernel_rfl) #[.agg (msC kd op key sq cl dg a1 n c1 a2 m c2)] rfl _ (cR _ sb) ?_
 intro z4001 k
 simp only [Act.put, pu]
 replace r2 := k.row r2 (by simp <;> omega)
 replace sb := sb.trans (k.below w.heap.size sb.size (by simp <;> omega))
 clear k
 refine pw_mv (by rfl) rfl rfl ?_
 simp only [Act.put, pu]
 refine pw_ext (by rfl) rfl rfl rfl ?_
 simp only [Act.put, pu]
 refine pw_ext (by rfl) rfl rfl rfl ?_
 simp only [Act.put, pu]
 refine pw_as (by rfl) rfl rfl ?_
 simp only [Act.put, pu]
 refine pw_as (by rfl) rfl rfl ?_
 simp only [Act.put, pu]
 refine pw_nil ?_
 (repeat ((fail_if_success with_reducible refine rg ?_); go_step))
 refine wp_region_pw ?_
 refine pw_loadm (by rfl) 28 _ rfl _ (0) rfl r2.r (msC kd op key sq cl dg a1 n c1 a2 m c2) (part_all _) _ Try.underlying28 rfl size_ms ?_
 simp only [Act.put, pu]
 refine pw_callB (by rfl) 10 _ _ rfl Try.func10 (by kernel_rfl) #[.agg (msC kd op key sq cl dg a1 n c1 a2 m c2)] rfl _ (cC _ sb) ?_
 intro z5001 k
 simp only [Act.put, pu]
 replace r2 := k.row r2 (by simp <;> omega)
 replace sb := sb.trans (k.below w.heap.size sb.size (by simp <;> omega))
 clear k
 refine pw_as (by rfl) rfl rfl ?_
 simp only [Act.put, pu]
 refine pw_nil ?_
 (repeat ((fail_if_success with_reducible refine rg ?_); go_step))
 refine wp_region_pw ?_
 refine pw_mv (by rfl) rfl rfl ?_
 simp only [Act.put, pu]
 refine pw_mv (by rfl) rfl rfl ?_
 simp only [Act.put, pu]
 refine pw_value (by rfl) (.bool true) (exec_eql_str _ _ _ _ rfl _ rfl rfl) ?_
 simp only [Act.put, pu]
 refine pw_mv (by rfl) rfl rfl ?_
 simp only [Act.put, pu]
 refine pw_mv (by rfl) rfl rfl ?_
 simp only [Act.put, pu]
 refine pw_mv (by rfl) rfl rfl ?_
 simp only [Act.put, pu]
 refine pw_value (by rfl) (.bool true) (x_eqI _ _ _ _ rfl .i64 E E rfl rfl true (decide_eq_true rfl)) ?_
 simp only [Act.put, pu]
 refine pw_pick (by rfl) true (v := .bool true) rfl rfl rfl ?_
 simp only [Act.put, pu]
 refine pw_mv (by rfl) rfl rfl ?_
 simp only [Act.put, pu]
 refine pw_mv (by rfl) rfl rfl ?_
 simp only [Act.put, pu]
 refine pw_value (by rfl) (.bool false) (x_eqI _ _ _ _ rfl .i64 1 0 rfl rfl false rfl) ?_
 simp only [Act.put, pu]
 refine pw_loadm (by rfl) 28 _ rfl _ (0) rfl r2.r (msC kd op key sq cl dg a1 n c1 a2 m c2) (part_all _) _ Try.underlying28 rfl size_ms ?_
 simp only [Act.put, pu]
 refine pw_callB (by rfl) 11 _ _ rfl Try.func11 (by kernel_rfl) #[.agg (msC kd op key sq cl dg a1 n c1 a2 m c2)] rfl _ (cM _ sb) ?_
 intro z6012 k
 simp only [Act.put, pu]
 replace r2 := k.row r2 (by simp <;> omega)
 replace sb := sb.trans (k.below w.heap.size sb.size (by simp <;> omega))
 clear k
 refine pw_value (by rfl) (.bool true) (exec_eql_bool _ _ _ _ rfl false rfl rfl Try.underlying4) ?_
 simp only [Act.put, pu]
 refine pw_pick (by rfl) true (v := .bool true) rfl rfl rfl ?_
 simp only [Act.put, pu]
 refine pw_mv (by rfl) rfl rfl ?_
 simp only [Act.put, pu]
 refine pw_mv (by rfl) rfl rfl ?_
 simp only [Act.put, pu]
 refine pw_value (by rfl) (.bool false) (x_eqI _ _ _ _ rfl .i64 1 0 rfl rfl false rfl) ?_
 simp only [Act.put, pu]
 refine pw_mv (by rfl) rfl rfl ?_
 simp only [Act.put, pu]
 refine pw_mv (by rfl) rfl rfl ?_
 simp only [Act.put, pu]
 refine pw_value (by rfl) (.bool true) (x_eqI _ _ _ _ rfl .i64 1 1 rfl rfl true rfl) ?_
 simp only [Act.put, pu]
 refine pw_pick (by rfl) false (v := .bool true) rfl rfl rfl ?_
 simp only [Act.put, pu]
 refine pw_pick (by rfl) true (v := .bool true) rfl rfl rfl ?_
 simp only [Act.put, pu]
 refine pw_mv (by rfl) rfl rfl ?_
 simp only [Act.put, pu]
 refine pw_mv (by rfl) rfl rfl ?_
 simp only [Act.put, pu]
 refine pw_callB (by rfl) 12 _ _ rfl Try.func12 (by kernel_rfl) #[.string ⟨s.toArray⟩] rfl _ (wkey_any s _ (by omega)) ?_
 intro z6025 k
 simp only [Act.put, pu]
 replace r2 := k.row r2 (by simp <;> omega)
 replace sb := sb.trans (k.below w.heap.size sb.size (by simp <;> omega))
 clear k
 refine pw_mv (by rfl) rfl rfl ?_
 simp only [Act.put, pu]
 refine pw_callB (by rfl) 13 _ _ rfl Try.func13 (by kernel_rfl) #[.string ⟨s.toArray⟩] rfl _ (rwkey_any s _ (by omega)) ?_
 intro z6027 k
 simp only [Act.put, pu]
 replace r2 := k.row r2 (by simp <;> omega)
 replace sb := sb.trans (k.below w.heap.size sb.size (by simp <;> omega))
 clear k
 refine pw_value (by rfl) (.bool true) (exec_eql_bool _ _ _ _ rfl (keyB s) rfl rfl Try.underlying4) ?_
 simp only [Act.put, pu]
 refine pw_pick (by rfl) true (v := .bool true) rfl rfl rfl ?_
 simp only [Act.put, pu]
 refine pw_mv (by rfl) rfl rfl ?_
 simp only [Act.put, pu]
 refine pw_callB (by rfl) 7 _ _ rfl Try.func7 (by kernel_rfl) #[] rfl _ (awake18_any _) ?_
 intro z6031 k
 simp only [Act.put, pu]
 replace r2 := k.row r2 (by simp <;> omega)
 replace sb := sb.trans (k.below w.heap.size sb.size (by simp <;> omega))
 clear k
 refine pw_pick (by rfl) true (v := .bool true) rfl rfl rfl ?_
 simp only [Act.put, pu]
 refine pw_as (by rfl) rfl rfl ?_
 simp only [Act.put, pu]
 refine pw_nil ?_
 go_wp2
 go_ret
 exact ⟨rfl, sb⟩
theorem walk (kd op : Int) (key : List UInt8) (sq cl : Int) (dg : List UInt8) (a1 : Option Addr) (n c1 : Nat) (a2 : Option Addr) (m c2 : Nat) (N : Nat → Nat) (M : Nat → Nat → Nat) (Y : Nat → Nat) (s : ByteArray) (w : World) (hM : MtA w a1 n N M) (hY : YsA w a2 m Y) (_ : s.size ≤ maxLen) :
  Calls Try.prog 3 #[.agg (msC kd op key sq cl dg a1 n c1 a2 m c2), .string s] w fun e w' => e = .returned (.bool true) ∧ Below w.heap.size w w' := by
 obtain ⟨⟨s⟩⟩ := s
 cases hf : fwB key dg n N m with
 | false => exact core0 kd op key sq cl dg a1 n c1 a2 m c2 N M Y s w hM hY hf
 | true =>
  by_cases hs : 100 < s.length
  ·exact core1 kd op key sq cl dg a1 n c1 a2 m c2 N M Y s w hM hY hf hs
  obtain ⟨f1, f2, f3, f4⟩ := fwB_is hf
  have hn : n < 4611686018427387904 := by omega
  have hN : ∀ i, i < n → N i < 4611686018427387904 := fun i hi => by have := f3.2 i hi; omega
  have hkl : key.length < 9223372036854775808 := by omega
  have cP := fun w' (hb : Below w.heap.size w w') => wPut_any kd op key sq cl dg a1 n c1 a2 m c2 N M Y w' hkl hn (hM.below hb) (hY.below hb)
  have cR := fun w' (hb : Below w.heap.size w w') => rPut18_any kd op key sq cl dg a1 n c1 a2 m c2 N M Y w' hkl hn hN (hM.below hb) (hY.below hb)
  have cC := fun w' (hb : Below w.heap.size w w') => wCheck_any kd op key sq cl dg a1 n c1 a2 m c2 N M w' hkl hn (hM.below hb)
  have cM := fun w' (hb : Below w.heap.size w w') => rmay18_any kd op key sq cl dg a1 n c1 a2 m c2 N M w' hkl hn hN (hM.below hb)
  cases hW : wmB kd op key sq cl dg (brB n m) (dlB n m (xmB n N M))
  ·rw [hW] at cP cR cC cM
   exact core_f kd op key sq cl dg a1 n c1 a2 m c2 N M Y s w hM hY hf (by omega) _ _ cP cR cC cM
  ·rw [hW] at cP cR cC cM
   exact core_t kd op key sq cl dg a1 n c1 a2 m c2 N M Y s w hM hY hf (by omega) _ _ cP cR cC cM
set_option maxRecDepth 100000 in
theorem lifted (os : Os) (started : os.Started) (H : Type) (enc : TypeId × Value → H) :
  ReturnsInHanded {} Try.checked os 3 .any (Rows.wirePutsSpec.pre6 enc Try.prog Try.f3 Rows.wirePutsRow.domain false) (Rows.wirePutsSpec.post enc Try.prog Try.f3 false true false false) := by
 refine returnsInHanded_of_change (C := Try.checked) own started (by kernel_rfl) Try.func3
  (ChangeSpec.witness6 (enc := enc) (C := Try.checked) false ⟨#[], #[.agg #[.int .i64 0, .int .i64 0, .string ⟨#[]⟩, .int .i64 0, .int .i64 0, .string ⟨#[]⟩, .slice none 0 0, .slice none 0 0], .string ⟨#[]⟩], []⟩ 8 (by kernel_rfl) (by kernel_rfl) (by kernel_rfl) (by kernel_rfl)) ?_
 intro W base args ds gs before hval0 hW hcnd _
 have hval : ∀ (j : Nat) t v, Try.f3.params[j]? = some t → args[j]? = some v → Value.okWide Try.prog W .any base t v := hval0
 have hW' := hW
 obtain ⟨p, q, hA0, hV, rfl, hfz, hnd⟩ := hW
 have hA : DataW.TrodAll enc Try.prog W 0 (fun _ => true) true Try.f3.params.toList args.toList ds p := hA0
 rw [Try.params3] at hA hval
 obtain ⟨v0, vs0, d0, ds0, p0, q0, hargs, rfl, rfl, h0, r0⟩ := trodAll_cons hA
 obtain ⟨v1, vs1, d1, ds1, p1, q1, rfl, rfl, rfl, h1, r1⟩ := trodAll_cons r0
 obtain ⟨rfl, rfl, rfl⟩ := trodAll_nil r1
 obtain rfl : args = #[v0, v1] := by cases args; simp_all
 obtain ⟨rfl, rfl⟩ := trodVars_none hV
 have k0 := h0
 have lt0 := lt_of_trod h0
 obtain ⟨kd0, op0, key0, sq0, cl0, dg0, aa0, n0, ca0, ab0, m0, cb0, N0, M0, Y0, rfl, hm0, hy0⟩ := open_msg (hval 0 28 v0 rfl rfl) h0
 have k1 := h1
 have lt1 := lt_of_trod h1
 obtain ⟨s1, rfl, rfl, rfl, w1⟩ := open_string Try.underlying9 (hval 1 9 v1 rfl rfl) h1
 clear hA0 hval0
 refine (walk kd0 op0 key0 sq0 cl0 dg0 aa0 n0 ca0 ab0 m0 cb0 N0 M0 Y0 s1 W hm0 hy0 w1).mono fun e W' ⟨he, bel⟩ => ?_
 subst he
 exact ⟨_, rfl, _, _, _, [], _, [], hW', trodAll_mk1 (shut_bool Try.underlying4 _), (trodAll_cons_mk (Below.trod laidOut (by kernel_rfl) (of_decide_eq_true (by kernel_rfl)) k0 bel lt0) (trodAll_cons_mk (Below.trod laidOut (by kernel_rfl) (of_decide_eq_true (by kernel_rfl)) k1 bel lt1) trodAll_mk0)), rfl, bel.frame _, fun h => by cases h⟩
theorem over : Rows.wirePutsRow.holds Try.pinned (OpenSpec.ofChange Rows.wirePutsSpec) :=
 OpenClaim.holds_of_wide 3 Try.f3 rfl rfl rfl rfl rfl rfl rfl ⟨rfl, rfl, rfl, rfl, rfl⟩ rfl rfl rfl rfl rfl (by kernel_rfl) Try.func3 (by kernel_rfl)
  (of_decide_eq_true (by kernel_rfl)) (by unfold Func.isWrapper; first | (rw [if_pos (by decide +kernel)]; kernel_rfl) | (rw [if_neg (by decide +kernel)]; exact ⟨rfl, rfl⟩))
  (fun os started H enc _ => lifted os started H enc)
end Go.Proofs.Ytnkpfcbcmfhjkaa.wirePutsP
namespace Go.Proofs.Ytnkpfcbcmfhjkaa
theorem wirePuts_holds : Rows.WirePutsSaid := wirePutsP.over
end Go.Proofs.Ytnkpfcbcmfhjkaa
