/- GroupChecks: for all parameters: Check and New tell whether up to ten links, of naturals below 2^62, and G are a group's, as the document does; no condition. -/
import Derived.Test.YtbmkebdfaokmhaaGAwake
import Derived.Test.YtbmkebdfaokmhaaGMay
import Derived.Test.YtbmkebdfaokmhaaGOpen
namespace Go.Proofs.Ytbmkebdfaokmhaa
open Go.ChangeShapes Go.WideShapes Go.ChangeAt Go.RowKit
namespace groupChecksP
theorem y_neqB {P : Program} {o : Oper} {ρ : Operand → Value} (t : TypeId) (x y : Operand) (u : TypeId) (ho : o.op = .binOp .neq t x y u) (b : Bool) (hx : ρ x = .bool b) (hy : ρ y = .bool b) (hu : P.underlying t = some .bool) (w : World) :
  (execOp ρ o).run P w = .ok (.value (.bool false)) w := by
 unfold execOp
 simp only [ho, hx, hy]
 simp [go_sem, hu]
set_option maxRecDepth 100000 in
set_option maxHeartbeats 2000000 in
theorem core_long (n c : Nat) (ab : Option Addr) (G : Nat) (w : World)
  (hli : ∀ w', Below w.heap.size w w' → Calls Try.prog 27 #[.agg (paC ab n c G)] w' fun e w2 => e = .returned (.bool false) ∧ Below w'.heap.size w' w2) :
  Calls Try.prog 4 #[.agg (paC ab n c G)] w fun e w' => e = .returned (.bool true) ∧ Below w.heap.size w w' := by
 have haw := awake7_any
 go_enter Try.func4, Try.ntmps4
 (repeat ((fail_if_success with_reducible refine rg ?_); go_step))
 refine wp_region_pw ?_
 refine pw_boxr (by rfl) 27 _ rfl (_) rfl ?_
 intro g1 z0 n0 r1 k
 simp only [Act.put, pu]
 have b1 : w.heap.size ≤ g1 := n0
 clear n0
 have sb := k.below w.heap.size (Nat.le_refl _) (by simp)
 clear k
 refine pw_value (by rfl) (.bool false) (fun _ => rfl) ?_
 simp only [Act.put, pu]
 refine pw_nil ?_
 (repeat ((fail_if_success with_reducible refine rg ?_); go_step))
 refine wp_region_pw ?_
 refine pw_loadm (by rfl) 27 _ rfl _ 0 rfl r1.r _ (part_all _) _ Try.underlying27 rfl size_pa ?_
 simp only [Act.put, pu]
 refine pw_callB (by rfl) 27 _ _ rfl Try.func27 (by kernel_rfl) #[.agg (paC ab n c G)] rfl _ (hli _ sb) ?_
 intro z1001 k
 simp only [Act.put, pu]
 replace r1 := k.row r1 (by simp <;> omega)
 replace sb := sb.trans (k.below w.heap.size sb.size (by simp <;> omega))
 clear k
 refine pw_value (by rfl) (.bool true) (exec_not _ _ rfl false rfl) ?_
 simp only [Act.put, pu]
 refine pw_nil ?_
 (repeat ((fail_if_success with_reducible refine rg ?_); go_step))
 refine wp_region_pw ?_
 refine pw_callB (by rfl) 26 _ _ rfl Try.func26 (by kernel_rfl) #[] rfl _ (haw _) ?_
 intro z2000 k
 simp only [Act.put, pu]
 replace sb := sb.trans (k.below w.heap.size sb.size (by simp <;> omega))
 clear k
 refine pw_as (by rfl) rfl rfl ?_
 simp only [Act.put, pu]
 refine pw_nil ?_
 go_wp2
 go_ret
 exact ⟨rfl, sb⟩
set_option maxRecDepth 100000 in
set_option maxHeartbeats 2000000 in
theorem core_no (n c : Nat) (ab : Option Addr) (G : Nat) (w : World)
  (hli : ∀ w', Below w.heap.size w w' → Calls Try.prog 27 #[.agg (paC ab n c G)] w' fun e w2 => e = .returned (.bool true) ∧ Below w'.heap.size w' w2)
  (hck : ∀ w', Below w.heap.size w w' → Calls Try.prog 15 #[.agg (paC ab n c G)] w' fun e w2 => e = .returned (.int .i64 4) ∧ Below w'.heap.size w' w2)
  (hnw : ∀ w', Below w.heap.size w w' → Calls Try.prog 13 #[.agg (paC ab n c G)] w' fun e w2 => e = .returned (.tuple #[.pointer none, .int .i64 4]) ∧ Below w'.heap.size w' w2)
  (hma : ∀ w', Below w.heap.size w w' → Calls Try.prog 28 #[.agg (paC ab n c G)] w' fun e w2 => e = .returned (.bool false) ∧ Below w'.heap.size w' w2) :
  Calls Try.prog 4 #[.agg (paC ab n c G)] w fun e w' => e = .returned (.bool true) ∧ Below w.heap.size w w' := by
 have haw := awake7_any
 go_enter Try.func4, Try.ntmps4
 (repeat ((fail_if_success with_reducible refine rg ?_); go_step))
 refine wp_region_pw ?_
 refine pw_boxr (by rfl) 27 _ rfl (_) rfl ?_
 intro g1 z0 n0 r1 k
 simp only [Act.put, pu]
 have b1 : w.heap.size ≤ g1 := n0
 clear n0
 have sb := k.below w.heap.size (Nat.le_refl _) (by simp)
 clear k
 refine pw_value (by rfl) (.bool false) (fun _ => rfl) ?_
 simp only [Act.put, pu]
 refine pw_nil ?_
 (repeat ((fail_if_success with_reducible refine rg ?_); go_step))
 refine wp_region_pw ?_
 refine pw_loadm (by rfl) 27 _ rfl _ 0 rfl r1.r _ (part_all _) _ Try.underlying27 rfl size_pa ?_
 simp only [Act.put, pu]
 refine pw_callB (by rfl) 27 _ _ rfl Try.func27 (by kernel_rfl) #[.agg (paC ab n c G)] rfl _ (hli _ sb) ?_
 intro z1001 k
 simp only [Act.put, pu]
 replace r1 := k.row r1 (by simp <;> omega)
 replace sb := sb.trans (k.below w.heap.size sb.size (by simp <;> omega))
 clear k
 refine pw_value (by rfl) (.bool false) (exec_not _ _ rfl true rfl) ?_
 simp only [Act.put, pu]
 refine pw_nil ?_
 (repeat ((fail_if_success with_reducible refine rg ?_); go_step))
 refine wp_region_pw ?_
 refine pw_loadm (by rfl) 27 _ rfl _ 0 rfl r1.r _ (part_all _) _ Try.underlying27 rfl size_pa ?_
 simp only [Act.put, pu]
 refine pw_callB (by rfl) 15 _ _ rfl Try.func15 (by kernel_rfl) #[.agg (paC ab n c G)] rfl _ (hck _ sb) ?_
 intro z3001 k
 simp only [Act.put, pu]
 replace r1 := k.row r1 (by simp <;> omega)
 replace sb := sb.trans (k.below w.heap.size sb.size (by simp <;> omega))
 clear k
 refine pw_as (by rfl) rfl rfl ?_
 simp only [Act.put, pu]
 refine pw_nil ?_
 (repeat ((fail_if_success with_reducible refine rg ?_); go_step))
 refine wp_region_pw ?_
 refine pw_loadm (by rfl) 27 _ rfl _ 0 rfl r1.r _ (part_all _) _ Try.underlying27 rfl size_pa ?_
 simp only [Act.put, pu]
 refine pw_callB (by rfl) 13 _ _ rfl Try.func13 (by kernel_rfl) #[.agg (paC ab n c G)] rfl _ (hnw _ sb) ?_
 intro z4001 k
 simp only [Act.put, pu]
 replace r1 := k.row r1 (by simp <;> omega)
 replace sb := sb.trans (k.below w.heap.size sb.size (by simp <;> omega))
 clear k
 refine pw_mv (by rfl) rfl rfl ?_
 simp only [Act.put, pu]
 refine pw_ext (by rfl) rfl rfl rfl ?_
 simp only [Act.put, pu]
 refine pw_ext (by rfl) rfl rfl rfl ?_
 simp only [Act.put, pu]
 refine pw_as (by rfl) rfl rfl ?_
 simp only [Act.put, pu]
 refine pw_as (by rfl) rfl rfl ?_
 simp only [Act.put, pu]
 refine pw_nil ?_
 (repeat ((fail_if_success with_reducible refine rg ?_); go_step))
 refine wp_region_pw ?_
 refine pw_loadm (by rfl) 27 _ rfl _ 0 rfl r1.r _ (part_all _) _ Try.underlying27 rfl size_pa ?_
 simp only [Act.put, pu]
 refine pw_callB (by rfl) 28 _ _ rfl Try.func28 (by kernel_rfl) #[.agg (paC ab n c G)] rfl _ (hma _ sb) ?_
 intro z5001 k
 simp only [Act.put, pu]
 replace r1 := k.row r1 (by simp <;> omega)
 replace sb := sb.trans (k.below w.heap.size sb.size (by simp <;> omega))
 clear k
 refine pw_as (by rfl) rfl rfl ?_
 simp only [Act.put, pu]
 refine pw_nil ?_
 clear hli hck hnw hma
 (repeat ((fail_if_success with_reducible refine rg ?_); go_step))
 refine wp_region_pw ?_
 refine pw_mv (by rfl) rfl rfl ?_
 simp only [Act.put, pu]
 refine pw_value (by rfl) (.bool false) (exec_eql_k .i64 _ _ _ _ rfl 4 0 rfl rfl false rfl) ?_
 simp only [Act.put, pu]
 refine pw_mv (by rfl) rfl rfl ?_
 simp only [Act.put, pu]
 refine pw_value (by rfl) (.bool false) (y_neqB _ _ _ _ rfl false rfl rfl Try.underlying4) ?_
 simp only [Act.put, pu]
 refine pw_mv (by rfl) rfl rfl ?_
 simp only [Act.put, pu]
 refine pw_mv (by rfl) rfl rfl ?_
 simp only [Act.put, pu]
 refine pw_mv (by rfl) rfl rfl ?_
 simp only [Act.put, pu]
 refine pw_value (by rfl) (.bool false) (exec_neq_k .i64 _ _ _ _ rfl 4 4 rfl rfl false rfl) ?_
 simp only [Act.put, pu]
 refine pw_pick (by rfl) false (v := .bool false) rfl rfl rfl ?_
 simp only [Act.put, pu]
 refine pw_mv (by rfl) rfl rfl ?_
 simp only [Act.put, pu]
 refine pw_mv (by rfl) rfl rfl ?_
 simp only [Act.put, pu]
 refine pw_value (by rfl) (.bool false) (exec_neq_nilp _ _ _ _ rfl none rfl rfl ptr_grp) ?_
 simp only [Act.put, pu]
 refine pw_mv (by rfl) rfl rfl ?_
 simp only [Act.put, pu]
 refine pw_value (by rfl) (.bool false) (y_neqB _ _ _ _ rfl false rfl rfl Try.underlying4) ?_
 simp only [Act.put, pu]
 refine pw_pick (by rfl) false (v := .bool false) rfl rfl rfl ?_
 simp only [Act.put, pu]
 refine pw_mv (by rfl) rfl rfl ?_
 simp only [Act.put, pu]
 refine pw_mv (by rfl) rfl rfl ?_
 simp only [Act.put, pu]
 refine pw_value (by rfl) (.bool true) (exec_neq_k .i64 _ _ _ _ rfl 4 0 rfl rfl true rfl) ?_
 simp only [Act.put, pu]
 refine pw_mv (by rfl) rfl rfl ?_
 simp only [Act.put, pu]
 refine pw_mv (by rfl) rfl rfl ?_
 simp only [Act.put, pu]
 refine pw_value (by rfl) (.bool false) (exec_neq_k .i64 _ _ _ _ rfl 4 4 rfl rfl false rfl) ?_
 simp only [Act.put, pu]
 refine pw_pick (by rfl) true (v := .bool false) rfl rfl rfl ?_
 simp only [Act.put, pu]
 refine pw_pick (by rfl) false (v := .bool false) rfl rfl rfl ?_
 simp only [Act.put, pu]
 refine pw_nil ?_
 (repeat ((fail_if_success with_reducible refine rg ?_); go_step))
 refine wp_region_qw (by kernel_rfl) (by kernel_rfl) ?_
 refine qw_move (by rfl) rfl rfl ?_
 simp only [Act.put, pu]
 refine qw_value (by rfl) (.bool true) (exec_not _ _ rfl false rfl) ?_
 simp only [Act.put, pu]
 refine qw_move (by rfl) rfl rfl ?_
 simp only [Act.put, pu]
 refine qw_skip (by rfl) ?_
 simp only [Act.put, pu]
 refine qw_skip (by rfl) ?_
 simp only [Act.put, pu]
 refine qw_skip (by rfl) ?_
 simp only [Act.put, pu]
 refine qw_skip (by rfl) ?_
 simp only [Act.put, pu]
 refine qw_skip (by rfl) ?_
 simp only [Act.put, pu]
 refine qw_skip (by rfl) ?_
 simp only [Act.put, pu]
 refine qw_skip (by rfl) ?_
 simp only [Act.put, pu]
 refine qw_skip (by rfl) ?_
 simp only [Act.put, pu]
 refine qw_skip (by rfl) ?_
 simp only [Act.put, pu]
 refine qw_skip (by rfl) ?_
 simp only [Act.put, pu]
 refine qw_skip (by rfl) ?_
 simp only [Act.put, pu]
 refine qw_skip (by rfl) ?_
 simp only [Act.put, pu]
 refine qw_skip (by rfl) ?_
 simp only [Act.put, pu]
 refine qw_skip (by rfl) ?_
 simp only [Act.put, pu]
 refine qw_skip (by rfl) ?_
 simp only [Act.put, pu]
 refine qw_skip (by rfl) ?_
 simp only [Act.put, pu]
 refine qw_skip (by rfl) ?_
 simp only [Act.put, pu]
 refine qw_skip (by rfl) ?_
 simp only [Act.put, pu]
 refine qw_skip (by rfl) ?_
 simp only [Act.put, pu]
 refine qw_skip (by rfl) ?_
 simp only [Act.put, pu]
 refine qw_skip (by rfl) ?_
 simp only [Act.put, pu]
 refine qw_skip (by rfl) ?_
 simp only [Act.put, pu]
 refine qw_skip (by rfl) ?_
 simp only [Act.put, pu]
 refine qw_skip (by rfl) ?_
 simp only [Act.put, pu]
 refine qw_skip (by rfl) ?_
 simp only [Act.put, pu]
 refine qw_skip (by rfl) ?_
 simp only [Act.put, pu]
 refine qw_pick true (v := .bool true) (by rfl) rfl rfl rfl ?_
 simp only [Act.put, pu]
 refine qw_move (by rfl) rfl rfl ?_
 simp only [Act.put, pu]
 refine qw_call (by rfl) 26 _ _ rfl Try.func26 (by kernel_rfl) #[] rfl _ haw ?_
 simp only [Act.put, pu]
 refine qw_pick true (v := .bool true) (by rfl) rfl rfl rfl ?_
 simp only [Act.put, pu]
 refine qw_asg (by rfl) rfl rfl ?_
 simp only [Act.put, pu]
 refine qw_nil ?_
 intro w9 hqb
 replace sb := below_on sb (Nat.le_refl _) hqb
 clear hqb
 go_wp2
 go_ret
 exact ⟨rfl, sb⟩
set_option maxRecDepth 100000 in
set_option maxHeartbeats 2000000 in
theorem core_yes (n c : Nat) (ab : Option Addr) (G PP QQ : Nat) (SZ : Int) (w : World)
  (hli : ∀ w', Below w.heap.size w w' → Calls Try.prog 27 #[.agg (paC ab n c G)] w' fun e w2 => e = .returned (.bool true) ∧ Below w'.heap.size w' w2)
  (hck : ∀ w', Below w.heap.size w w' → Calls Try.prog 15 #[.agg (paC ab n c G)] w' fun e w2 => e = .returned (.int .i64 0) ∧ Below w'.heap.size w' w2)
  (hnw : ∀ w', Below w.heap.size w w' → Calls Try.prog 13 #[.agg (paC ab n c G)] w' fun e w2 => ∃ g gr gf, e = .returned (.tuple #[.pointer (some ⟨g, 0, none⟩), .int .i64 0]) ∧ GrpAt w2 g gr gf PP QQ G ∧ Below w'.heap.size w' w2)
  (hma : ∀ w', Below w.heap.size w w' → Calls Try.prog 28 #[.agg (paC ab n c G)] w' fun e w2 => e = .returned (.bool true) ∧ Below w'.heap.size w' w2)
  (hrp : ∀ w', Below w.heap.size w w' → Calls Try.prog 17 #[.agg (paC ab n c G)] w' fun e w2 => e = .returned (.agg (natC PP)) ∧ Below w'.heap.size w' w2)
  (hrq : ∀ w', Below w.heap.size w w' → Calls Try.prog 19 #[.agg (paC ab n c G)] w' fun e w2 => e = .returned (.agg (natC QQ)) ∧ Below w'.heap.size w' w2)
  (hrs : ∀ w', Below w.heap.size w w' → Calls Try.prog 22 #[.agg (paC ab n c G)] w' fun e w2 => e = .returned (.int .i64 SZ) ∧ Below w'.heap.size w' w2)
  (hsz : ∀ w' g gr gf, GrpAt w' g gr gf PP QQ G → Calls Try.prog 21 #[.pointer (some ⟨g, 0, none⟩)] w' fun e w2 => e = .returned (.int .i64 SZ) ∧ Below w'.heap.size w' w2) :
  Calls Try.prog 4 #[.agg (paC ab n c G)] w fun e w' => e = .returned (.bool true) ∧ Below w.heap.size w w' := by
 have haw := awake7_any
 go_enter Try.func4, Try.ntmps4
 (repeat ((fail_if_success with_reducible refine rg ?_); go_step))
 refine wp_region_pw ?_
 refine pw_boxr (by rfl) 27 _ rfl (_) rfl ?_
 intro g1 z0 n0 r1 k
 simp only [Act.put, pu]
 have b1 : w.heap.size ≤ g1 := n0
 clear n0
 have sb := k.below w.heap.size (Nat.le_refl _) (by simp)
 clear k
 refine pw_value (by rfl) (.bool false) (fun _ => rfl) ?_
 simp only [Act.put, pu]
 refine pw_nil ?_
 (repeat ((fail_if_success with_reducible refine rg ?_); go_step))
 refine wp_region_pw ?_
 refine pw_loadm (by rfl) 27 _ rfl _ 0 rfl r1.r _ (part_all _) _ Try.underlying27 rfl size_pa ?_
 simp only [Act.put, pu]
 refine pw_callB (by rfl) 27 _ _ rfl Try.func27 (by kernel_rfl) #[.agg (paC ab n c G)] rfl _ (hli _ sb) ?_
 intro z1001 k
 simp only [Act.put, pu]
 replace r1 := k.row r1 (by simp <;> omega)
 replace sb := sb.trans (k.below w.heap.size sb.size (by simp <;> omega))
 clear k
 refine pw_value (by rfl) (.bool false) (exec_not _ _ rfl true rfl) ?_
 simp only [Act.put, pu]
 refine pw_nil ?_
 (repeat ((fail_if_success with_reducible refine rg ?_); go_step))
 refine wp_region_pw ?_
 refine pw_loadm (by rfl) 27 _ rfl _ 0 rfl r1.r _ (part_all _) _ Try.underlying27 rfl size_pa ?_
 simp only [Act.put, pu]
 refine pw_callB (by rfl) 15 _ _ rfl Try.func15 (by kernel_rfl) #[.agg (paC ab n c G)] rfl _ (hck _ sb) ?_
 intro z3001 k
 simp only [Act.put, pu]
 replace r1 := k.row r1 (by simp <;> omega)
 replace sb := sb.trans (k.below w.heap.size sb.size (by simp <;> omega))
 clear k
 refine pw_as (by rfl) rfl rfl ?_
 simp only [Act.put, pu]
 refine pw_nil ?_
 (repeat ((fail_if_success with_reducible refine rg ?_); go_step))
 refine wp_region_pw ?_
 refine pw_loadm (by rfl) 27 _ rfl _ 0 rfl r1.r _ (part_all _) _ Try.underlying27 rfl size_pa ?_
 simp only [Act.put, pu]
 refine pw_callE (by rfl) 13 _ _ rfl Try.func13 (by kernel_rfl) #[.agg (paC ab n c G)] rfl (hnw _ sb) ?_
 rintro _ z4001 ⟨g, gr, gf, rfl, hg, hb⟩
 refine ⟨_, rfl, ?_⟩
 simp only [Act.put, pu]
 have k := Kept.ofBelow hb
 clear hb
 replace r1 := k.row r1 (by simp <;> omega)
 replace sb := sb.trans (k.below w.heap.size sb.size (by simp <;> omega))
 clear k
 refine pw_mv (by rfl) rfl rfl ?_
 simp only [Act.put, pu]
 refine pw_ext (by rfl) rfl rfl rfl ?_
 simp only [Act.put, pu]
 refine pw_ext (by rfl) rfl rfl rfl ?_
 simp only [Act.put, pu]
 refine pw_as (by rfl) rfl rfl ?_
 simp only [Act.put, pu]
 refine pw_as (by rfl) rfl rfl ?_
 simp only [Act.put, pu]
 refine pw_nil ?_
 (repeat ((fail_if_success with_reducible refine rg ?_); go_step))
 refine wp_region_pw ?_
 refine pw_loadm (by rfl) 27 _ rfl _ 0 rfl r1.r _ (part_all _) _ Try.underlying27 rfl size_pa ?_
 simp only [Act.put, pu]
 refine pw_callB (by rfl) 28 _ _ rfl Try.func28 (by kernel_rfl) #[.agg (paC ab n c G)] rfl _ (hma _ sb) ?_
 intro z5001 k
 simp only [Act.put, pu]
 replace r1 := k.row r1 (by simp <;> omega)
 replace hg := hg.below k.nil
 replace sb := sb.trans (k.below w.heap.size sb.size (by simp <;> omega))
 clear k
 refine pw_as (by rfl) rfl rfl ?_
 simp only [Act.put, pu]
 refine pw_nil ?_
 clear hli hck hnw hma
 (repeat ((fail_if_success with_reducible refine rg ?_); go_step))
 refine wp_region_pw ?_
 refine pw_mv (by rfl) rfl rfl ?_
 simp only [Act.put, pu]
 refine pw_value (by rfl) (.bool true) (exec_eql_k .i64 _ _ _ _ rfl 0 0 rfl rfl true rfl) ?_
 simp only [Act.put, pu]
 refine pw_mv (by rfl) rfl rfl ?_
 simp only [Act.put, pu]
 refine pw_value (by rfl) (.bool false) (y_neqB _ _ _ _ rfl true rfl rfl Try.underlying4) ?_
 simp only [Act.put, pu]
 refine pw_mv (by rfl) rfl rfl ?_
 simp only [Act.put, pu]
 refine pw_mv (by rfl) rfl rfl ?_
 simp only [Act.put, pu]
 refine pw_mv (by rfl) rfl rfl ?_
 simp only [Act.put, pu]
 refine pw_value (by rfl) (.bool false) (exec_neq_k .i64 _ _ _ _ rfl 0 0 rfl rfl false rfl) ?_
 simp only [Act.put, pu]
 refine pw_pick (by rfl) false (v := .bool false) rfl rfl rfl ?_
 simp only [Act.put, pu]
 refine pw_mv (by rfl) rfl rfl ?_
 simp only [Act.put, pu]
 refine pw_mv (by rfl) rfl rfl ?_
 simp only [Act.put, pu]
 refine pw_value (by rfl) (.bool true) (exec_neq_nilp _ _ _ _ rfl (some ⟨g, 0, none⟩) rfl rfl ptr_grp) ?_
 simp only [Act.put, pu]
 refine pw_mv (by rfl) rfl rfl ?_
 simp only [Act.put, pu]
 refine pw_value (by rfl) (.bool false) (y_neqB _ _ _ _ rfl true rfl rfl Try.underlying4) ?_
 simp only [Act.put, pu]
 refine pw_pick (by rfl) false (v := .bool false) rfl rfl rfl ?_
 simp only [Act.put, pu]
 refine pw_mv (by rfl) rfl rfl ?_
 simp only [Act.put, pu]
 refine pw_mv (by rfl) rfl rfl ?_
 simp only [Act.put, pu]
 refine pw_value (by rfl) (.bool false) (exec_neq_k .i64 _ _ _ _ rfl 0 0 rfl rfl false rfl) ?_
 simp only [Act.put, pu]
 refine pw_mv (by rfl) rfl rfl ?_
 simp only [Act.put, pu]
 refine pw_skip (by rfl) ?_
 simp only [Act.put, pu]
 refine pw_skip (by rfl) ?_
 simp only [Act.put, pu]
 refine pw_pick (by rfl) false (v := .bool false) rfl rfl rfl ?_
 simp only [Act.put, pu]
 refine pw_pick (by rfl) false (v := .bool false) rfl rfl rfl ?_
 simp only [Act.put, pu]
 refine pw_nil ?_
 (repeat ((fail_if_success with_reducible refine rg ?_); go_step))
 refine wp_region_qw (by kernel_rfl) (by kernel_rfl) ?_
 refine qw_move (by rfl) rfl rfl ?_
 simp only [Act.put, pu]
 refine qw_value (by rfl) (.bool false) (exec_not _ _ rfl true rfl) ?_
 simp only [Act.put, pu]
 refine qw_move (by rfl) rfl rfl ?_
 simp only [Act.put, pu]
 refine qw_move (by rfl) rfl rfl ?_
 simp only [Act.put, pu]
 refine qw_callK (by rfl) 16 _ _ rfl Try.func16 (by kernel_rfl) #[.pointer (some ⟨g, 0, none⟩)] rfl _ (fun w' hb => grpP_any _ _ _ _ _ _ w' (hg.below hb).kn) ?_
 simp only [Act.put, pu]
 refine qw_loadm (by rfl) 27 _ rfl _ (0) rfl r1 (paC ab n c G) (part_all _) _ Try.underlying27 rfl size_pa ?_
 simp only [Act.put, pu]
 refine qw_callK (by rfl) 17 _ _ rfl Try.func17 (by kernel_rfl) #[.agg (paC ab n c G)] rfl _ (fun w' hb => hrp w' (below_on sb (Nat.le_refl _) hb)) ?_
 simp only [Act.put, pu]
 refine qw_value (by rfl) (.bool true) (fun w' => (exec_eql_nat _ _ _ rfl PP PP rfl rfl w').trans (by rw [eqn_yes])) ?_
 simp only [Act.put, pu]
 refine qw_move (by rfl) rfl rfl ?_
 simp only [Act.put, pu]
 refine qw_move (by rfl) rfl rfl ?_
 simp only [Act.put, pu]
 refine qw_callK (by rfl) 18 _ _ rfl Try.func18 (by kernel_rfl) #[.pointer (some ⟨g, 0, none⟩)] rfl _ (fun w' hb => grpQ_any _ _ _ _ _ _ w' (hg.below hb).kn) ?_
 simp only [Act.put, pu]
 refine qw_loadm (by rfl) 27 _ rfl _ (0) rfl r1 (paC ab n c G) (part_all _) _ Try.underlying27 rfl size_pa ?_
 simp only [Act.put, pu]
 refine qw_callK (by rfl) 19 _ _ rfl Try.func19 (by kernel_rfl) #[.agg (paC ab n c G)] rfl _ (fun w' hb => hrq w' (below_on sb (Nat.le_refl _) hb)) ?_
 simp only [Act.put, pu]
 refine qw_value (by rfl) (.bool true) (fun w' => (exec_eql_nat _ _ _ rfl QQ QQ rfl rfl w').trans (by rw [eqn_yes])) ?_
 simp only [Act.put, pu]
 refine qw_pick true (v := .bool true) (by rfl) rfl rfl rfl ?_
 simp only [Act.put, pu]
 refine qw_move (by rfl) rfl rfl ?_
 simp only [Act.put, pu]
 refine qw_move (by rfl) rfl rfl ?_
 simp only [Act.put, pu]
 refine qw_callK (by rfl) 20 _ _ rfl Try.func20 (by kernel_rfl) #[.pointer (some ⟨g, 0, none⟩)] rfl _ (fun w' hb => grpG_any _ _ _ _ _ _ w' (hg.below hb).kn) ?_
 simp only [Act.put, pu]
 refine qw_value (by rfl) (.pointer (some ⟨g1, 1, none⟩)) (exec_field 27 _ 1 rfl g1 0 rfl _ Try.underlying27 _ rfl 3 Try.sizeOf25) ?_
 simp only [Act.put, pu]
 refine qw_loadm (by rfl) 25 _ rfl _ (1) rfl r1 (natC G) (pa_g _ _ _ _) _ Try.underlying25 rfl size_nat ?_
 simp only [Act.put, pu]
 refine qw_value (by rfl) (.bool true) (fun w' => (exec_eql_nat _ _ _ rfl G G rfl rfl w').trans (by rw [eqn_yes])) ?_
 simp only [Act.put, pu]
 refine qw_pick true (v := .bool true) (by rfl) rfl rfl rfl ?_
 simp only [Act.put, pu]
 refine qw_move (by rfl) rfl rfl ?_
 simp only [Act.put, pu]
 refine qw_move (by rfl) rfl rfl ?_
 simp only [Act.put, pu]
 refine qw_callK (by rfl) 21 _ _ rfl Try.func21 (by kernel_rfl) #[.pointer (some ⟨g, 0, none⟩)] rfl _ (fun w' hb => hsz w' g gr gf (hg.below hb)) ?_
 simp only [Act.put, pu]
 refine qw_loadm (by rfl) 27 _ rfl _ (0) rfl r1 (paC ab n c G) (part_all _) _ Try.underlying27 rfl size_pa ?_
 simp only [Act.put, pu]
 refine qw_callK (by rfl) 22 _ _ rfl Try.func22 (by kernel_rfl) #[.agg (paC ab n c G)] rfl _ (fun w' hb => hrs w' (below_on sb (Nat.le_refl _) hb)) ?_
 simp only [Act.put, pu]
 refine qw_value (by rfl) (.bool true) (exec_eql_k .i64 _ _ _ _ rfl SZ SZ rfl rfl true (decide_eq_true rfl)) ?_
 simp only [Act.put, pu]
 refine qw_pick true (v := .bool true) (by rfl) rfl rfl rfl ?_
 simp only [Act.put, pu]
 refine qw_pick false (v := .bool true) (by rfl) rfl rfl rfl ?_
 simp only [Act.put, pu]
 refine qw_move (by rfl) rfl rfl ?_
 simp only [Act.put, pu]
 refine qw_call (by rfl) 26 _ _ rfl Try.func26 (by kernel_rfl) #[] rfl _ haw ?_
 simp only [Act.put, pu]
 refine qw_pick true (v := .bool true) (by rfl) rfl rfl rfl ?_
 simp only [Act.put, pu]
 refine qw_asg (by rfl) rfl rfl ?_
 simp only [Act.put, pu]
 refine qw_nil ?_
 intro w9 hqb
 replace sb := below_on sb (Nat.le_refl _) hqb
 clear hqb
 go_wp2
 go_ret
 exact ⟨rfl, sb⟩
theorem walk (ab : Option Addr) (n c G : Nat) (N : Nat → Nat) (A : Nat → Int) (gb ob : Nat) (bcs : Array Value) (tb : TypeId) (w : World) (hn : n < 9223372036854775808) (hG : G < 2 ^ 256) (hL : LinksAt w ab n N A gb ob bcs tb) :
  Calls Try.prog 4 #[.agg (paC ab n c G)] w fun e w' => e = .returned (.bool true) ∧ Below w.heap.size w w' := by
 have hli := fun w' (hb : Below w.heap.size w w') => light_any n c ab G N A gb ob bcs tb w' (hL.below hb)
 cases hl : liN n N with
 | false =>
  rw [hl] at hli
  exact core_long n c ab G w hli
 | true =>
  rw [hl] at hli
  have hma := fun w' (hb : Below w.heap.size w w') => may_any n c ab G N A gb ob bcs tb w' hn hG (hL.below hb) (liN_lt hl).2
  cases hg : grN n N A G with
  | false =>
   rw [hg] at hma
   exact core_no n c ab G w hli (fun w' hb => gcheck_no n c ab G N A gb ob bcs tb w' hn hG (hL.below hb) hg) (fun w' hb => gnew_no n c ab G N A gb ob bcs tb w' hn hG (hL.below hb) hg) hma
  | true =>
   rw [hg] at hma
   have h2 := ((grN_iff n N A G).1 hg).1
   exact core_yes n c ab G _ _ _ w hli (fun w' hb => gcheck_yes n c ab G N A gb ob bcs tb w' hn hG (hL.below hb) hg) (fun w' hb => gnew_yes n c ab G N A gb ob bcs tb w' hn hG (hL.below hb) hg) hma
    (fun w' hb => rP_any n c ab G N A gb ob bcs tb w' h2 hn (hL.below hb)) (fun w' hb => rQ_any n c ab G N A gb ob bcs tb w' h2 hn (hL.below hb)) (fun w' hb => rSize_any n c ab G N A gb ob bcs tb w' h2 hn (hL.below hb))
    (fun w' g gr gf h => grpSize_any _ _ _ _ _ _ w' (hL.lt (n - 2) (by omega)) h.kn)
set_option maxRecDepth 100000 in
theorem lifted (os : Os) (started : os.Started) (H : Type) (enc : TypeId × Value → H) :
  ReturnsInHanded {} Try.checked os 4 .any (Rows.groupChecksSpec.pre6 enc Try.prog Try.f4 Rows.groupChecksRow.domain false) (Rows.groupChecksSpec.post enc Try.prog Try.f4 false true false false) := by
 refine returnsInHanded_of_change (C := Try.checked) own started (by kernel_rfl) Try.func4
  (ChangeSpec.witness6 (enc := enc) (C := Try.checked) false ⟨#[], #[.agg #[.slice none 0 0, .int .u64 0, .int .u64 0, .int .u64 0, .int .u64 0]], []⟩ 8 (by kernel_rfl) (by kernel_rfl) (by kernel_rfl) (by kernel_rfl)) ?_
 intro W base args ds gs before hval0 hW hcnd _
 have hval : ∀ (j : Nat) t v, Try.f4.params[j]? = some t → args[j]? = some v → Value.okWide Try.prog W .any base t v := hval0
 have hW' := hW
 obtain ⟨p, q, hA0, hV, rfl, hfz, hnd⟩ := hW
 have hA : DataW.TrodAll enc Try.prog W 0 (fun _ => true) true Try.f4.params.toList args.toList ds p := hA0
 rw [Try.params4] at hA hval
 obtain ⟨v0, vs0, d0, ds0, p0, q0, hargs, rfl, rfl, h0, r0⟩ := trodAll_cons hA
 obtain ⟨rfl, rfl, rfl⟩ := trodAll_nil r0
 obtain rfl : args = #[v0] := by cases args; simp_all
 obtain ⟨rfl, rfl⟩ := trodVars_none hV
 have k0 := h0
 have lt0 := lt_of_trod h0
 obtain ⟨ab, n, c, G, N, A, gb, ob, bcs, tb, rfl, hn, hG, q1⟩ := open_pars (hval 0 27 v0 rfl rfl) h0
 clear hA0 hval0
 refine (walk ab n c G N A gb ob bcs tb W hn hG q1).mono fun e W' ⟨he, bel⟩ => ?_
 subst he
 exact ⟨_, rfl, _, _, _, [], _, [], hW', trodAll_mk1 (shut_bool Try.underlying4 _), (trodAll_cons_mk (Below.trod laidOut (by kernel_rfl) (of_decide_eq_true (by kernel_rfl)) k0 bel lt0) trodAll_mk0), rfl, bel.frame _, fun h => by cases h⟩
theorem over : Rows.groupChecksRow.holds Try.pinned (OpenSpec.ofChange Rows.groupChecksSpec) :=
 OpenClaim.holds_of_wide 4 Try.f4 rfl rfl rfl rfl rfl rfl rfl ⟨rfl, rfl, rfl, rfl, rfl⟩ rfl rfl rfl rfl rfl (by kernel_rfl) Try.func4 (by kernel_rfl)
  (of_decide_eq_true (by kernel_rfl)) (by unfold Func.isWrapper; first | (rw [if_pos (by decide +kernel)]; kernel_rfl) | (rw [if_neg (by decide +kernel)]; exact ⟨rfl, rfl⟩))
  (fun os started H enc _ => lifted os started H enc)
end groupChecksP
/-- for all parameters: Check and New tell whether up to ten links, of naturals below 2^62, and G are a group's, as the document does; no condition. -/
theorem groupChecks_holds : Rows.GroupChecksSaid := groupChecksP.over
end Go.Proofs.Ytbmkebdfaokmhaa
