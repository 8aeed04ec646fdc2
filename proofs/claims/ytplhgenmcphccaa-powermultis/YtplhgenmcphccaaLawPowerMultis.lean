/- PowerMultis: for every number and any two lists of naturals: the product of powers by a small group's P is the document's, or they are not as long; no condition. -/
import Derived.Test.YtplhgenmcphccaaQAwake
import Derived.Test.YtplhgenmcphccaaGU
namespace Go.Proofs.Ytplhgenmcphccaa
open Go.ChangeShapes Go.WideShapes Go.ChangeAt Go.RowKit
namespace powerMultisP
set_option maxRecDepth 100000 in
set_option maxHeartbeats 2000000 in
theorem core0 (a0 : Int) (n m ca ce : Nat) (ab ae : Option Addr) (w : World) (h : 8 < n ∨ 8 < m) :
  Calls Try.prog 4 #[.int .i64 a0, .slice ab n ca, .slice ae m ce] w fun e w' => e = .returned (.bool true) ∧ Below w.heap.size w w' := by
 have haw := awake9_any
 go_enter Try.func4, Try.ntmps4
 have sb := Below.refl w.heap.size w
 (repeat ((fail_if_success with_reducible refine rg ?_); go_step))
 refine wp_region_pw ?_
 refine pw_value (by rfl) (.bool false) (fun _ => rfl) ?_
 simp only [Act.put, pu]
 refine pw_nil ?_
 by_cases h12 : 8 < n
 ·clear h
  (repeat ((fail_if_success with_reducible refine rg ?_); go_step))
  refine wp_region_pw ?_
  refine pw_mv (by rfl) rfl rfl ?_
  simp only [Act.put, pu]
  refine pw_value (by rfl) (.int .i64 n) (exec_len_s 49 _ rfl ab n ca rfl sl_nats) ?_
  simp only [Act.put, pu]
  refine pw_value (by rfl) (.bool true) (exec_gt_i _ _ _ _ rfl n 8 rfl rfl true (decide_eq_true (by omega))) ?_
  simp only [Act.put, pu]
  refine pw_mv (by rfl) rfl rfl ?_
  simp only [Act.put, pu]
  refine pw_skip (by rfl) ?_
  simp only [Act.put, pu]
  refine pw_skip (by rfl) ?_
  simp only [Act.put, pu]
  refine pw_skip (by rfl) ?_
  simp only [Act.put, pu]
  refine pw_pick (by rfl) true (v := .bool true) rfl rfl rfl ?_
  simp only [Act.put, pu]
  refine pw_nil ?_
  (repeat ((fail_if_success with_reducible refine rg ?_); go_step))
  refine wp_region_pw ?_
  refine pw_callB (by rfl) 22 _ _ rfl Try.func22 (by kernel_rfl) #[] rfl _ (haw _) ?_
  intro z2000 k
  simp only [Act.put, pu]
  replace sb := sb.trans (k.below w.heap.size sb.size (by simp <;> omega))
  clear k
  refine pw_as (by rfl) rfl rfl ?_
  simp only [Act.put, pu]
  refine pw_nil ?_
  go_wp2
  go_ret
  exact ⟨rfl, sb⟩
 ·have hm12 : 8 < m := h.resolve_left h12
  clear h
  (repeat ((fail_if_success with_reducible refine rg ?_); go_step))
  refine wp_region_pw ?_
  refine pw_mv (by rfl) rfl rfl ?_
  simp only [Act.put, pu]
  refine pw_value (by rfl) (.int .i64 n) (exec_len_s 49 _ rfl ab n ca rfl sl_nats) ?_
  simp only [Act.put, pu]
  refine pw_value (by rfl) (.bool false) (exec_gt_i _ _ _ _ rfl n 8 rfl rfl false (decide_eq_false (by omega))) ?_
  simp only [Act.put, pu]
  refine pw_mv (by rfl) rfl rfl ?_
  simp only [Act.put, pu]
  refine pw_mv (by rfl) rfl rfl ?_
  simp only [Act.put, pu]
  refine pw_value (by rfl) (.int .i64 m) (exec_len_s 49 _ rfl ae m ce rfl sl_nats) ?_
  simp only [Act.put, pu]
  refine pw_value (by rfl) (.bool true) (exec_gt_i _ _ _ _ rfl m 8 rfl rfl true (decide_eq_true (by omega))) ?_
  simp only [Act.put, pu]
  refine pw_pick (by rfl) false (v := .bool true) rfl rfl rfl ?_
  simp only [Act.put, pu]
  refine pw_nil ?_
  (repeat ((fail_if_success with_reducible refine rg ?_); go_step))
  refine wp_region_pw ?_
  refine pw_callB (by rfl) 22 _ _ rfl Try.func22 (by kernel_rfl) #[] rfl _ (haw _) ?_
  intro z2000 k
  simp only [Act.put, pu]
  replace sb := sb.trans (k.below w.heap.size sb.size (by simp <;> omega))
  clear k
  refine pw_as (by rfl) rfl rfl ?_
  simp only [Act.put, pu]
  refine pw_nil ?_
  go_wp2
  go_ret
  exact ⟨rfl, sb⟩
set_option maxRecDepth 100000 in
set_option maxHeartbeats 2000000 in
theorem core1 (a0 : Int) (n m ca ce GG PP QQ : Nat) (ab ae : Option Addr) (LK : Array Value) (w : World) (hn12 : ¬ 8 < n) (hm12 : ¬ 8 < m) (hnm : n ≠ m)
  (hpk : ∀ w', Calls Try.prog 7 #[.int .i64 a0] w' fun e w2 => ∃ g, e = .returned (.agg (paC (some ⟨g, 0, none⟩) 3 3 GG)) ∧ w'.heap.size ≤ g ∧ Row w2 g LK 74 ∧ Below w'.heap.size w' w2)
  (hnw : ∀ w' x, Row w' x LK 74 → Calls Try.prog 8 #[.agg (paC (some ⟨x, 0, none⟩) 3 3 GG)] w' fun e w2 => ∃ g gr gf, e = .returned (.tuple #[.pointer (some ⟨g, 0, none⟩), .int .i64 0]) ∧ GrpAt w2 g gr gf PP QQ GG ∧ Below w'.heap.size w' w2)
  (hdo : ∀ w' g gr gf, GrpAt w' g gr gf PP QQ GG → Calls Try.prog 23 #[.pointer (some ⟨g, 0, none⟩), .slice ab n ca, .slice ae m ce] w' fun e w2 => e = .returned (.tuple #[.agg (natC 0), .int .i64 1]) ∧ Below w'.heap.size w' w2) :
  Calls Try.prog 4 #[.int .i64 a0, .slice ab n ca, .slice ae m ce] w fun e w' => e = .returned (.bool true) ∧ Below w.heap.size w w' := by
 have haw := awake9_any
 go_enter Try.func4, Try.ntmps4
 have sb := Below.refl w.heap.size w
 (repeat ((fail_if_success with_reducible refine rg ?_); go_step))
 refine wp_region_pw ?_
 refine pw_value (by rfl) (.bool false) (fun _ => rfl) ?_
 simp only [Act.put, pu]
 refine pw_nil ?_
 (repeat ((fail_if_success with_reducible refine rg ?_); go_step))
 refine wp_region_pw ?_
 refine pw_mv (by rfl) rfl rfl ?_
 simp only [Act.put, pu]
 refine pw_value (by rfl) (.int .i64 n) (exec_len_s 49 _ rfl ab n ca rfl sl_nats) ?_
 simp only [Act.put, pu]
 refine pw_value (by rfl) (.bool false) (exec_gt_i _ _ _ _ rfl n 8 rfl rfl false (decide_eq_false (by omega))) ?_
 simp only [Act.put, pu]
 refine pw_mv (by rfl) rfl rfl ?_
 simp only [Act.put, pu]
 refine pw_mv (by rfl) rfl rfl ?_
 simp only [Act.put, pu]
 refine pw_value (by rfl) (.int .i64 m) (exec_len_s 49 _ rfl ae m ce rfl sl_nats) ?_
 simp only [Act.put, pu]
 refine pw_value (by rfl) (.bool false) (exec_gt_i _ _ _ _ rfl m 8 rfl rfl false (decide_eq_false (by omega))) ?_
 simp only [Act.put, pu]
 refine pw_pick (by rfl) false (v := .bool false) rfl rfl rfl ?_
 simp only [Act.put, pu]
 refine pw_nil ?_
 (repeat ((fail_if_success with_reducible refine rg ?_); go_step))
 refine wp_region_pw ?_
 refine pw_mv (by rfl) rfl rfl ?_
 simp only [Act.put, pu]
 refine pw_callE (by rfl) 7 _ _ rfl Try.func7 (by kernel_rfl) #[.int .i64 a0] rfl (hpk _) ?_
 rintro _ z3001 ⟨gL, rfl, nL, rL, hb⟩
 refine ⟨_, rfl, ?_⟩
 simp only [Act.put, pu]
 have bL := Nat.le_trans sb.size nL
 clear nL
 have k := Kept.ofBelow hb
 clear hb
 replace sb := sb.trans (k.below w.heap.size sb.size (by simp <;> omega))
 clear k
 refine pw_new (by rfl) 27 rfl _ zero_pa ?_
 intro g7 z3002 n0 r7 k
 simp only [Act.put, pu]
 have dLx7 := Nat.lt_of_lt_of_le rL.lt n0
 have b7 := Nat.le_trans sb.size n0
 clear n0
 replace rL := k.row rL (by simp <;> omega)
 replace sb := sb.trans (k.below w.heap.size sb.size (by simp <;> omega))
 clear k
 refine pw_put (by rfl) 27 _ _ rfl _ rfl r7 (paC (some ⟨gL, 0, none⟩) 3 3 GG) rfl (by exact size_pa) (by rfl) (pa_one _ _ _ _) ?_
 clear r7
 intro z3003 r7 k
 simp only [Act.put]
 replace rL := k.row rL (by simp <;> omega)
 replace sb := sb.trans (k.below w.heap.size sb.size (by simp <;> omega))
 clear k
 refine pw_nil ?_
 clear hpk
 (repeat ((fail_if_success with_reducible refine rg ?_); go_step))
 refine wp_region_pw ?_
 refine pw_loadm (by rfl) 27 _ rfl _ 0 rfl r7.r _ (part_all _) _ Try.underlying27 rfl size_pa ?_
 simp only [Act.put, pu]
 refine pw_callE (by rfl) 8 _ _ rfl Try.func8 (by kernel_rfl) #[.agg (paC (some ⟨gL, 0, none⟩) 3 3 GG)] rfl (hnw _ gL rL) ?_
 rintro _ z4001 ⟨g, gr, gf, rfl, ⟨rG, rR, rF⟩, hb⟩
 refine ⟨_, rfl, ?_⟩
 simp only [Act.put, pu]
 have k := Kept.ofBelow hb
 clear hb
 replace r7 := k.row r7 (by simp <;> omega)
 replace rL := k.row rL (by simp <;> omega)
 replace sb := sb.trans (k.below w.heap.size sb.size (by simp <;> omega))
 clear k
 refine pw_mv (by rfl) rfl rfl ?_
 simp only [Act.put, pu]
 refine pw_ext (by rfl) rfl rfl rfl ?_
 simp only [Act.put, pu]
 refine pw_ext (by rfl) rfl rfl rfl ?_
 simp only [Act.put, pu]
 refine pw_as (by rfl) rfl rfl ?_
 simp only [Act.put, pu]
 refine pw_as (by rfl) rfl rfl ?_
 simp only [Act.put, pu]
 refine pw_nil ?_
 clear hnw
 (repeat ((fail_if_success with_reducible refine rg ?_); go_step))
 refine wp_region_pw ?_
 refine pw_mv (by rfl) rfl rfl ?_
 simp only [Act.put, pu]
 refine pw_mv (by rfl) rfl rfl ?_
 simp only [Act.put, pu]
 refine pw_mv (by rfl) rfl rfl ?_
 simp only [Act.put, pu]
 refine pw_callB (by rfl) 23 _ _ rfl Try.func23 (by kernel_rfl) #[.pointer (some ⟨g, 0, none⟩), .slice ab n ca, .slice ae m ce] rfl _ (hdo _ g gr gf ⟨rG, rR, rF⟩) ?_
 intro z5003 k
 simp only [Act.put, pu]
 replace r7 := k.row r7 (by simp <;> omega)
 replace rL := k.row rL (by simp <;> omega)
 replace rG := k.row rG (by simp <;> omega)
 replace rR := k.row rR (by simp <;> omega)
 replace rF := k.row rF (by simp <;> omega)
 replace sb := sb.trans (k.below w.heap.size sb.size (by simp <;> omega))
 clear k
 refine pw_mv (by rfl) rfl rfl ?_
 simp only [Act.put, pu]
 refine pw_ext (by rfl) rfl rfl rfl ?_
 simp only [Act.put, pu]
 refine pw_ext (by rfl) rfl rfl rfl ?_
 simp only [Act.put, pu]
 refine pw_new (by rfl) 24 rfl _ zero_nat ?_
 intro g10 z5007 n0 r10 k
 simp only [Act.put, pu]
 have d7x10 := Nat.lt_of_lt_of_le r7.lt n0
 have dLx10 := Nat.lt_of_lt_of_le rL.lt n0
 have dGx10 := Nat.lt_of_lt_of_le rG.lt n0
 have dRx10 := Nat.lt_of_lt_of_le rR.lt n0
 have dFx10 := Nat.lt_of_lt_of_le rF.lt n0
 have b10 := Nat.le_trans sb.size n0
 clear n0
 replace r7 := k.row r7 (by simp <;> omega)
 replace rL := k.row rL (by simp <;> omega)
 replace rG := k.row rG (by simp <;> omega)
 replace rR := k.row rR (by simp <;> omega)
 replace rF := k.row rF (by simp <;> omega)
 replace sb := sb.trans (k.below w.heap.size sb.size (by simp <;> omega))
 clear k
 refine pw_put (by rfl) 24 _ _ rfl _ rfl r10 (natC 0) rfl (by exact size_nat) (by simp only [natC_size]) (natC_one _) ?_
 clear r10
 intro z5008 r10 k
 simp only [Act.put]
 replace r7 := k.row r7 (by simp <;> omega)
 replace rL := k.row rL (by simp <;> omega)
 replace rG := k.row rG (by simp <;> omega)
 replace rR := k.row rR (by simp <;> omega)
 replace rF := k.row rF (by simp <;> omega)
 replace sb := sb.trans (k.below w.heap.size sb.size (by simp <;> omega))
 clear k
 refine pw_as (by rfl) rfl rfl ?_
 simp only [Act.put, pu]
 refine pw_nil ?_
 clear rG rR rF hdo
 (repeat ((fail_if_success with_reducible refine rg ?_); go_step))
 refine wp_region_pw ?_
 refine pw_mv (by rfl) rfl rfl ?_
 simp only [Act.put, pu]
 refine pw_value (by rfl) (.bool false) (exec_neq_k .i64 _ _ _ _ rfl 0 0 rfl rfl false rfl) ?_
 simp only [Act.put, pu]
 refine pw_nil ?_
 clear r7 rL
 (repeat ((fail_if_success with_reducible refine rg ?_); go_step))
 refine wp_region_pw ?_
 refine pw_mv (by rfl) rfl rfl ?_
 simp only [Act.put, pu]
 refine pw_value (by rfl) (.int .i64 n) (exec_len_s 49 _ rfl ab n ca rfl sl_nats) ?_
 simp only [Act.put, pu]
 refine pw_mv (by rfl) rfl rfl ?_
 simp only [Act.put, pu]
 refine pw_value (by rfl) (.int .i64 m) (exec_len_s 49 _ rfl ae m ce rfl sl_nats) ?_
 simp only [Act.put, pu]
 refine pw_value (by rfl) (.bool true) (exec_neq_k .i64 _ _ _ _ rfl n m rfl rfl true (by rw [decide_eq_false (by omega)]; rfl)) ?_
 simp only [Act.put, pu]
 refine pw_nil ?_
 (repeat ((fail_if_success with_reducible refine rg ?_); go_step))
 refine wp_region_pw ?_
 refine pw_loadm (by rfl) 24 _ rfl _ 0 rfl r10.r _ (part_all _) _ Try.underlying24 rfl size_nat ?_
 simp only [Act.put, pu]
 refine pw_value (by rfl) (.agg (natC 0)) (exec_build0 _ rfl _ built_nat) ?_
 simp only [Act.put, pu]
 refine pw_value (by rfl) (.bool true) (fun w' => (exec_eql_nat _ _ _ rfl 0 0 rfl rfl w').trans (by rw [eqn_yes])) ?_
 simp only [Act.put, pu]
 refine pw_mv (by rfl) rfl rfl ?_
 simp only [Act.put, pu]
 refine pw_mv (by rfl) rfl rfl ?_
 simp only [Act.put, pu]
 refine pw_value (by rfl) (.bool true) (exec_eql_k .i64 _ _ _ _ rfl 1 1 rfl rfl true rfl) ?_
 simp only [Act.put, pu]
 refine pw_pick (by rfl) true (v := .bool true) rfl rfl rfl ?_
 simp only [Act.put, pu]
 refine pw_mv (by rfl) rfl rfl ?_
 simp only [Act.put, pu]
 refine pw_callB (by rfl) 22 _ _ rfl Try.func22 (by kernel_rfl) #[] rfl _ (haw _) ?_
 intro z9008 k
 simp only [Act.put, pu]
 replace r10 := k.row r10 (by simp <;> omega)
 replace sb := sb.trans (k.below w.heap.size sb.size (by simp <;> omega))
 clear k
 refine pw_pick (by rfl) true (v := .bool true) rfl rfl rfl ?_
 simp only [Act.put, pu]
 refine pw_as (by rfl) rfl rfl ?_
 simp only [Act.put, pu]
 refine pw_nil ?_
 go_wp2
 go_ret
 exact ⟨rfl, sb⟩
set_option maxRecDepth 100000 in
set_option maxHeartbeats 2000000 in
theorem core2 (a0 : Int) (n m ca ce GG PP QQ D : Nat) (ab ae : Option Addr) (LK : Array Value) (w : World) (hn12 : ¬ 8 < n) (hm12 : ¬ 8 < m) (hnm : n = m)
  (hpk : ∀ w', Calls Try.prog 7 #[.int .i64 a0] w' fun e w2 => ∃ g, e = .returned (.agg (paC (some ⟨g, 0, none⟩) 3 3 GG)) ∧ w'.heap.size ≤ g ∧ Row w2 g LK 74 ∧ Below w'.heap.size w' w2)
  (hnw : ∀ w' x, Row w' x LK 74 → Calls Try.prog 8 #[.agg (paC (some ⟨x, 0, none⟩) 3 3 GG)] w' fun e w2 => ∃ g gr gf, e = .returned (.tuple #[.pointer (some ⟨g, 0, none⟩), .int .i64 0]) ∧ GrpAt w2 g gr gf PP QQ GG ∧ Below w'.heap.size w' w2)
  (hsm : ∀ w' x, Row w' x LK 74 → Calls Try.prog 9 #[.agg (paC (some ⟨x, 0, none⟩) 3 3 GG)] w' fun e w2 => e = .returned (.agg (smC (PP : Nat) (QQ : Nat) (GG : Nat))) ∧ Below w'.heap.size w' w2)
  (hdo : ∀ w', Below w.heap.size w w' → ∀ g gr gf, GrpAt w' g gr gf PP QQ GG → Calls Try.prog 23 #[.pointer (some ⟨g, 0, none⟩), .slice ab n ca, .slice ae m ce] w' fun e w2 => e = .returned (.tuple #[.agg (natC D), .int .i64 0]) ∧ Below w'.heap.size w' w2)
  (hmR : ∀ w', Below w.heap.size w w' → Calls Try.prog 24 #[.agg (smC (PP : Nat) (QQ : Nat) (GG : Nat)), .slice ab n ca, .slice ae m ce] w' fun e w2 => e = .returned (.int .i64 (D : Nat)) ∧ Below w'.heap.size w' w2)
  (hof : ∀ w', Calls Try.prog 13 #[.int .i64 (D : Nat)] w' fun e w2 => e = .returned (.agg (natC D)) ∧ Below w'.heap.size w' w2) :
  Calls Try.prog 4 #[.int .i64 a0, .slice ab n ca, .slice ae m ce] w fun e w' => e = .returned (.bool true) ∧ Below w.heap.size w w' := by
 have haw := awake9_any
 subst hnm
 go_enter Try.func4, Try.ntmps4
 have sb := Below.refl w.heap.size w
 (repeat ((fail_if_success with_reducible refine rg ?_); go_step))
 refine wp_region_pw ?_
 refine pw_value (by rfl) (.bool false) (fun _ => rfl) ?_
 simp only [Act.put, pu]
 refine pw_nil ?_
 (repeat ((fail_if_success with_reducible refine rg ?_); go_step))
 refine wp_region_pw ?_
 refine pw_mv (by rfl) rfl rfl ?_
 simp only [Act.put, pu]
 refine pw_value (by rfl) (.int .i64 n) (exec_len_s 49 _ rfl ab n ca rfl sl_nats) ?_
 simp only [Act.put, pu]
 refine pw_value (by rfl) (.bool false) (exec_gt_i _ _ _ _ rfl n 8 rfl rfl false (decide_eq_false (by omega))) ?_
 simp only [Act.put, pu]
 refine pw_mv (by rfl) rfl rfl ?_
 simp only [Act.put, pu]
 refine pw_mv (by rfl) rfl rfl ?_
 simp only [Act.put, pu]
 refine pw_value (by rfl) (.int .i64 n) (exec_len_s 49 _ rfl ae n ce rfl sl_nats) ?_
 simp only [Act.put, pu]
 refine pw_value (by rfl) (.bool false) (exec_gt_i _ _ _ _ rfl n 8 rfl rfl false (decide_eq_false (by omega))) ?_
 simp only [Act.put, pu]
 refine pw_pick (by rfl) false (v := .bool false) rfl rfl rfl ?_
 simp only [Act.put, pu]
 refine pw_nil ?_
 (repeat ((fail_if_success with_reducible refine rg ?_); go_step))
 refine wp_region_pw ?_
 refine pw_mv (by rfl) rfl rfl ?_
 simp only [Act.put, pu]
 refine pw_callE (by rfl) 7 _ _ rfl Try.func7 (by kernel_rfl) #[.int .i64 a0] rfl (hpk _) ?_
 rintro _ z3001 ⟨gL, rfl, nL, rL, hb⟩
 refine ⟨_, rfl, ?_⟩
 simp only [Act.put, pu]
 have bL := Nat.le_trans sb.size nL
 clear nL
 have k := Kept.ofBelow hb
 clear hb
 replace sb := sb.trans (k.below w.heap.size sb.size (by simp <;> omega))
 clear k
 refine pw_new (by rfl) 27 rfl _ zero_pa ?_
 intro g7 z3002 n0 r7 k
 simp only [Act.put, pu]
 have dLx7 := Nat.lt_of_lt_of_le rL.lt n0
 have b7 := Nat.le_trans sb.size n0
 clear n0
 replace rL := k.row rL (by simp <;> omega)
 replace sb := sb.trans (k.below w.heap.size sb.size (by simp <;> omega))
 clear k
 refine pw_put (by rfl) 27 _ _ rfl _ rfl r7 (paC (some ⟨gL, 0, none⟩) 3 3 GG) rfl (by exact size_pa) (by rfl) (pa_one _ _ _ _) ?_
 clear r7
 intro z3003 r7 k
 simp only [Act.put]
 replace rL := k.row rL (by simp <;> omega)
 replace sb := sb.trans (k.below w.heap.size sb.size (by simp <;> omega))
 clear k
 refine pw_nil ?_
 clear hpk
 (repeat ((fail_if_success with_reducible refine rg ?_); go_step))
 refine wp_region_pw ?_
 refine pw_loadm (by rfl) 27 _ rfl _ 0 rfl r7.r _ (part_all _) _ Try.underlying27 rfl size_pa ?_
 simp only [Act.put, pu]
 refine pw_callE (by rfl) 8 _ _ rfl Try.func8 (by kernel_rfl) #[.agg (paC (some ⟨gL, 0, none⟩) 3 3 GG)] rfl (hnw _ gL rL) ?_
 rintro _ z4001 ⟨g, gr, gf, rfl, ⟨rG, rR, rF⟩, hb⟩
 refine ⟨_, rfl, ?_⟩
 simp only [Act.put, pu]
 have k := Kept.ofBelow hb
 clear hb
 replace r7 := k.row r7 (by simp <;> omega)
 replace rL := k.row rL (by simp <;> omega)
 replace sb := sb.trans (k.below w.heap.size sb.size (by simp <;> omega))
 clear k
 refine pw_mv (by rfl) rfl rfl ?_
 simp only [Act.put, pu]
 refine pw_ext (by rfl) rfl rfl rfl ?_
 simp only [Act.put, pu]
 refine pw_ext (by rfl) rfl rfl rfl ?_
 simp only [Act.put, pu]
 refine pw_as (by rfl) rfl rfl ?_
 simp only [Act.put, pu]
 refine pw_as (by rfl) rfl rfl ?_
 simp only [Act.put, pu]
 refine pw_nil ?_
 clear hnw
 (repeat ((fail_if_success with_reducible refine rg ?_); go_step))
 refine wp_region_pw ?_
 refine pw_mv (by rfl) rfl rfl ?_
 simp only [Act.put, pu]
 refine pw_mv (by rfl) rfl rfl ?_
 simp only [Act.put, pu]
 refine pw_mv (by rfl) rfl rfl ?_
 simp only [Act.put, pu]
 refine pw_callB (by rfl) 23 _ _ rfl Try.func23 (by kernel_rfl) #[.pointer (some ⟨g, 0, none⟩), .slice ab n ca, .slice ae n ce] rfl _ (hdo _ sb g gr gf ⟨rG, rR, rF⟩) ?_
 intro z5003 k
 simp only [Act.put, pu]
 replace r7 := k.row r7 (by simp <;> omega)
 replace rL := k.row rL (by simp <;> omega)
 replace rG := k.row rG (by simp <;> omega)
 replace rR := k.row rR (by simp <;> omega)
 replace rF := k.row rF (by simp <;> omega)
 replace sb := sb.trans (k.below w.heap.size sb.size (by simp <;> omega))
 clear k
 refine pw_mv (by rfl) rfl rfl ?_
 simp only [Act.put, pu]
 refine pw_ext (by rfl) rfl rfl rfl ?_
 simp only [Act.put, pu]
 refine pw_ext (by rfl) rfl rfl rfl ?_
 simp only [Act.put, pu]
 refine pw_new (by rfl) 24 rfl _ zero_nat ?_
 intro g10 z5007 n0 r10 k
 simp only [Act.put, pu]
 have d7x10 := Nat.lt_of_lt_of_le r7.lt n0
 have dLx10 := Nat.lt_of_lt_of_le rL.lt n0
 have dGx10 := Nat.lt_of_lt_of_le rG.lt n0
 have dRx10 := Nat.lt_of_lt_of_le rR.lt n0
 have dFx10 := Nat.lt_of_lt_of_le rF.lt n0
 have b10 := Nat.le_trans sb.size n0
 clear n0
 replace r7 := k.row r7 (by simp <;> omega)
 replace rL := k.row rL (by simp <;> omega)
 replace rG := k.row rG (by simp <;> omega)
 replace rR := k.row rR (by simp <;> omega)
 replace rF := k.row rF (by simp <;> omega)
 replace sb := sb.trans (k.below w.heap.size sb.size (by simp <;> omega))
 clear k
 refine pw_put (by rfl) 24 _ _ rfl _ rfl r10 (natC D) rfl (by exact size_nat) (by simp only [natC_size]) (natC_one _) ?_
 clear r10
 intro z5008 r10 k
 simp only [Act.put]
 replace r7 := k.row r7 (by simp <;> omega)
 replace rL := k.row rL (by simp <;> omega)
 replace rG := k.row rG (by simp <;> omega)
 replace rR := k.row rR (by simp <;> omega)
 replace rF := k.row rF (by simp <;> omega)
 replace sb := sb.trans (k.below w.heap.size sb.size (by simp <;> omega))
 clear k
 refine pw_as (by rfl) rfl rfl ?_
 simp only [Act.put, pu]
 refine pw_nil ?_
 clear rG rR rF hdo
 (repeat ((fail_if_success with_reducible refine rg ?_); go_step))
 refine wp_region_pw ?_
 refine pw_mv (by rfl) rfl rfl ?_
 simp only [Act.put, pu]
 refine pw_value (by rfl) (.bool false) (exec_neq_k .i64 _ _ _ _ rfl 0 0 rfl rfl false rfl) ?_
 simp only [Act.put, pu]
 refine pw_nil ?_
 (repeat ((fail_if_success with_reducible refine rg ?_); go_step))
 refine wp_region_pw ?_
 refine pw_mv (by rfl) rfl rfl ?_
 simp only [Act.put, pu]
 refine pw_value (by rfl) (.int .i64 n) (exec_len_s 49 _ rfl ab n ca rfl sl_nats) ?_
 simp only [Act.put, pu]
 refine pw_mv (by rfl) rfl rfl ?_
 simp only [Act.put, pu]
 refine pw_value (by rfl) (.int .i64 n) (exec_len_s 49 _ rfl ae n ce rfl sl_nats) ?_
 simp only [Act.put, pu]
 refine pw_value (by rfl) (.bool false) (exec_neq_k .i64 _ _ _ _ rfl n n rfl rfl false (by rw [decide_eq_true rfl]; rfl)) ?_
 simp only [Act.put, pu]
 refine pw_nil ?_
 (repeat ((fail_if_success with_reducible refine rg ?_); go_step))
 refine wp_region_qw (by kernel_rfl) (by kernel_rfl) ?_
 refine qw_load (by rfl) 24 _ rfl _ rfl r10 4 _ Try.underlying24 size_nat ?_
 simp only [Act.put, pu]
 refine qw_loadm (by rfl) 27 _ rfl _ (0) rfl r7 (paC (some ⟨gL, 0, none⟩) 3 3 GG) (part_all _) _ Try.underlying27 rfl size_pa ?_
 simp only [Act.put, pu]
 refine qw_callK (by rfl) 9 _ _ rfl Try.func9 (by kernel_rfl) #[.agg (paC (some ⟨gL, 0, none⟩) 3 3 GG)] rfl _ (fun w' hb => hsm w' gL (rL.belowAll hb)) ?_
 simp only [Act.put, pu]
 refine qw_move (by rfl) rfl rfl ?_
 simp only [Act.put, pu]
 refine qw_move (by rfl) rfl rfl ?_
 simp only [Act.put, pu]
 refine qw_callK (by rfl) 24 _ _ rfl Try.func24 (by kernel_rfl) #[.agg (smC (PP : Nat) (QQ : Nat) (GG : Nat)), .slice ab n ca, .slice ae n ce] rfl _ (fun w' hb => hmR w' (below_on sb (Nat.le_refl _) hb)) ?_
 simp only [Act.put, pu]
 refine qw_call (by rfl) 13 _ _ rfl Try.func13 (by kernel_rfl) #[.int .i64 (D : Nat)] rfl _ hof ?_
 simp only [Act.put, pu]
 refine qw_value (by rfl) (.bool true) (fun w' => (exec_eql_nat _ _ _ rfl D D rfl rfl w').trans (by rw [eqn_yes])) ?_
 simp only [Act.put, pu]
 refine qw_move (by rfl) rfl rfl ?_
 simp only [Act.put, pu]
 refine qw_move (by rfl) rfl rfl ?_
 simp only [Act.put, pu]
 refine qw_value (by rfl) (.bool true) (exec_eql_k .i64 _ _ _ _ rfl 0 0 rfl rfl true rfl) ?_
 simp only [Act.put, pu]
 refine qw_pick true (v := .bool true) (by rfl) rfl rfl rfl ?_
 simp only [Act.put, pu]
 refine qw_move (by rfl) rfl rfl ?_
 simp only [Act.put, pu]
 refine qw_call (by rfl) 22 _ _ rfl Try.func22 (by kernel_rfl) #[] rfl _ haw ?_
 simp only [Act.put, pu]
 refine qw_pick true (v := .bool true) (by rfl) rfl rfl rfl ?_
 simp only [Act.put, pu]
 refine qw_asg (by rfl) rfl rfl ?_
 simp only [Act.put, pu]
 refine qw_nil ?_
 intro w9 hqb
 replace sb := below_on sb (Nat.le_refl _) hqb
 clear hqb
 go_wp2
 go_ret
 exact ⟨rfl, sb⟩
theorem walk (a0 : Int) (n m ca ce : Nat) (ab ae : Option Addr) (a' b' : Nat → Nat) (gb ob ge oe : Nat) (bcs ecs : Array Value) (tb te : TypeId) (w : World) (_ : -9223372036854775808 ≤ a0 ∧ a0 ≤ 9223372036854775807)
  (hna : NatsAt w ab n a' gb ob bcs tb) (hnb : NatsAt w ae m b' ge oe ecs te) :
  Calls Try.prog 4 #[.int .i64 a0, .slice ab n ca, .slice ae m ce] w fun e w' => e = .returned (.bool true) ∧ Below w.heap.size w w' := by
 by_cases h12 : 8 < n ∨ 8 < m
 ·exact core0 a0 n m ca ce ab ae w h12
 have hn12 : ¬ 8 < n := fun h => h12 (.inl h)
 have hm12 : ¬ 8 < m := fun h => h12 (.inr h)
 clear h12
 obtain ⟨his, hlt, hG, hq62⟩ := pk2_gr (pkB a0)
 obtain ⟨hp62, hg62⟩ := pk2_p (pkB a0)
 have pP := (grN_primes his).1
 have hP9 := ((grN_iff _ _ _ _).1 his).2.2.2.2.2.1
 have hG2 : 1 < pk2 (pkB a0) otG leG := by
  have h := (grN_iff _ _ _ _).1 his
  have h1 := h.2.2.2.1
  have h2 := h.2.2.2.2.1
  omega
 have hnw : ∀ w' x, Row w' x (lksC 3 (lN (pk2 (pkB a0) otL leL)) twoA) 74 → _ := fun w' x r => gnew_yes 3 3 (some ⟨x, 0, none⟩) (pk2 (pkB a0) otG leG) _ _ x 0 _ _ w' (by decide) hG (lks_links r hlt) his
 have hsm : ∀ w' x, Row w' x (lksC 3 (lN (pk2 (pkB a0) otL leL)) twoA) 74 → _ := fun w' x r => rof9_any x _ _ (pk2 (pkB a0) otG leG) w' r hlt (Nat.lt_trans hp62 (by decide)) (Nat.lt_trans hq62 (by decide)) (Nat.lt_trans hg62 (by decide))
 have hpk := rpick_any a0
 clear hlt his
 generalize lN (pk2 (pkB a0) otL leL) (3 - 1) = PP at *
 generalize lN (pk2 (pkB a0) otL leL) (3 - 2) = QQ at *
 generalize pk2 (pkB a0) otG leG = GG at *
 generalize lksC 3 (lN (pk2 (pkB a0) otL leL)) twoA = LK at *
 have p0 : 0 < PP := by omega
 have q : RgQ PP := ⟨by omega, isP_odd pP (by omega), pP.1⟩
 by_cases hnm : n = m
 ·refine core2 a0 n m ca ce GG PP QQ (prd (fun i => a' i ^ b' i) n % PP) ab ae LK w hn12 hm12 hnm hpk hnw hsm (fun w' hb g gr gf h => ?_) (fun w' hb => ?_) (fun w' => of9_any _ w' (by have := Nat.mod_lt (prd (fun i => a' i ^ b' i) n) p0; omega))
  ·subst hnm
   exact qMulti_ok g gr gf _ _ _ n ca ce ab ae a' b' gb ob ge oe bcs ecs tb te w' (by omega) (hna.below hb) (hnb.below hb) q h
  ·subst hnm
   exact rmulti_any n PP _ _ ca ce ab ae a' b' gb ob ge oe bcs ecs tb te w' (by omega) pP.1 hp62 (hna.below hb) (hnb.below hb)
 ·exact core1 a0 n m ca ce GG PP QQ ab ae LK w hn12 hm12 hnm hpk hnw fun w' g gr gf h => qMulti_differ g gr gf _ _ _ n m ca ce ab ae w' hnm q h
set_option maxRecDepth 100000 in
theorem lifted (os : Os) (started : os.Started) (H : Type) (enc : TypeId × Value → H) :
  ReturnsInHanded {} Try.checked os 4 .any (Rows.powerMultisSpec.pre6 enc Try.prog Try.f4 Rows.powerMultisRow.domain false) (Rows.powerMultisSpec.post enc Try.prog Try.f4 false true false false) := by
 refine returnsInHanded_of_change (C := Try.checked) own started (by kernel_rfl) Try.func4
  (ChangeSpec.witness6 (enc := enc) (C := Try.checked) false ⟨#[], #[.int .i64 0, .slice none 0 0, .slice none 0 0], []⟩ 8 (by kernel_rfl) (by kernel_rfl) (by kernel_rfl) (by kernel_rfl)) ?_
 intro W base args ds gs before hval0 hW hcnd _
 have hval : ∀ (j : Nat) t v, Try.f4.params[j]? = some t → args[j]? = some v → Value.okWide Try.prog W .any base t v := hval0
 have hW' := hW
 obtain ⟨p, q, hA0, hV, rfl, hfz, hnd⟩ := hW
 have hA : DataW.TrodAll enc Try.prog W 0 (fun _ => true) true Try.f4.params.toList args.toList ds p := hA0
 rw [Try.params4] at hA hval
 obtain ⟨v0, vs0, d0, ds0, p0, q0, hargs, rfl, rfl, h0, r0⟩ := trodAll_cons hA
 obtain ⟨v1, vs1, d1, ds1, p1, q1, rfl, rfl, rfl, h1, r1⟩ := trodAll_cons r0
 obtain ⟨v2, vs2, d2, ds2, p2, q2, rfl, rfl, rfl, h2, r2⟩ := trodAll_cons r1
 obtain ⟨rfl, rfl, rfl⟩ := trodAll_nil r2
 obtain rfl : args = #[v0, v1, v2] := by cases args; simp_all
 obtain ⟨rfl, rfl⟩ := trodVars_none hV
 have k0 := h0
 have lt0 := lt_of_trod h0
 obtain ⟨a0, rfl, rfl, rfl, w0⟩ := open_int Try.underlying3 (hval 0 3 v0 rfl rfl) h0
 have k1 := h1
 have lt1 := lt_of_trod h1
 obtain ⟨ab, n, ca, b, gb, ob, bcs, tb, rfl, l1, l2, q1⟩ := open_nats (hval 1 49 v1 rfl rfl) h1
 have k2 := h2
 have lt2 := lt_of_trod h2
 obtain ⟨ae, m, ce, x, ge, oe, ecs, te, rfl, l3, l4, q2⟩ := open_nats (hval 2 49 v2 rfl rfl) h2
 clear hA0 hval0
 refine (walk a0 n m ca ce ab ae b x gb ob ge oe bcs ecs tb te W (bounds_i64 w0) q1 q2).mono fun e W' ⟨he, bel⟩ => ?_
 subst he
 exact ⟨_, rfl, _, _, _, [], _, [], hW', trodAll_mk1 (shut_bool Try.underlying4 _), (trodAll_cons_mk (Below.trod laidOut (by kernel_rfl) (of_decide_eq_true (by kernel_rfl)) k0 bel lt0) (trodAll_cons_mk (Below.trod laidOut (by kernel_rfl) (of_decide_eq_true (by kernel_rfl)) k1 bel lt1) (trodAll_cons_mk (Below.trod laidOut (by kernel_rfl) (of_decide_eq_true (by kernel_rfl)) k2 bel lt2) trodAll_mk0))), rfl, bel.frame _, fun h => by cases h⟩
theorem over : Rows.powerMultisRow.holds Try.pinned (OpenSpec.ofChange Rows.powerMultisSpec) :=
 OpenClaim.holds_of_wide 4 Try.f4 rfl rfl rfl rfl rfl rfl rfl ⟨rfl, rfl, rfl, rfl, rfl⟩ rfl rfl rfl rfl rfl (by kernel_rfl) Try.func4 (by kernel_rfl)
  (of_decide_eq_true (by kernel_rfl)) (by unfold Func.isWrapper; first | (rw [if_pos (by decide +kernel)]; kernel_rfl) | (rw [if_neg (by decide +kernel)]; exact ⟨rfl, rfl⟩))
  (fun os started H enc _ => lifted os started H enc)
end powerMultisP
/-- for every number and any two lists of naturals: the product of powers by a small group's P is the document's, or they are not as long; no condition. -/
theorem powerMultis_holds : Rows.PowerMultisSaid := powerMultisP.over
end Go.Proofs.Ytplhgenmcphccaa
