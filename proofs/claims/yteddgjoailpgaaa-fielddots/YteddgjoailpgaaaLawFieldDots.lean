/- FieldDots: for every number and any two lists of naturals: the sum of products by a small group's Q is the document's, or they are not as long; no condition. -/
import Derived.Test.YteddgjoailpgaaaFA
import Derived.Test.YteddgjoailpgaaaGU
namespace Go.Proofs.Yteddgjoailpgaaa
open Go.ChangeShapes Go.WideShapes Go.ChangeAt Go.RowKit
namespace fieldDotsP
set_option maxRecDepth 100000 in
set_option maxHeartbeats 2000000 in
theorem core0 (a0 : Int) (n m ca ce : Nat) (ab ae : Option Addr) (w : World) (h : 12 < n ∨ 12 < m) :
  Calls Try.prog 6 #[.int .i64 a0, .slice ab n ca, .slice ae m ce] w fun e w' => e = .returned (.bool true) ∧ Below w.heap.size w w' := by
 have haw := awake8_any
 go_enter Try.func6, Try.ntmps6
 have sb := Below.refl w.heap.size w
 (repeat ((fail_if_success with_reducible refine rg ?_); go_step))
 refine wp_region_pw ?_
 refine pw_value (by rfl) (.bool false) (fun _ => rfl) ?_
 simp only [Act.put, pu]
 refine pw_nil ?_
 by_cases h12 : 12 < n
 ·clear h
  (repeat ((fail_if_success with_reducible refine rg ?_); go_step))
  refine wp_region_pw ?_
  refine pw_mv (by rfl) rfl rfl ?_
  simp only [Act.put, pu]
  refine pw_value (by rfl) (.int .i64 n) (exec_len_s 49 _ rfl ab n ca rfl sl_nats) ?_
  simp only [Act.put, pu]
  refine pw_value (by rfl) (.bool true) (exec_gt_i _ _ _ _ rfl n 12 rfl rfl true (decide_eq_true (by omega))) ?_
  simp only [Act.put, pu]
  refine pw_mv (by rfl) rfl rfl ?_
  simp only [Act.put, pu]
  refine pw_skip (by rfl) ?_
  simp only [Act.put, pu]
  refine pw_skip (by rfl) ?_
  simp only [Act.put, pu]
  refine pw_skip (by rfl) ?_
  simp only [Act.put, pu]
  refine pw_pick (by rfl) true (v := .bool true) rfl rfl rfl ?_
  simp only [Act.put, pu]
  refine pw_nil ?_
  (repeat ((fail_if_success with_reducible refine rg ?_); go_step))
  refine wp_region_pw ?_
  refine pw_callB (by rfl) 33 _ _ rfl Try.func33 (by kernel_rfl) #[] rfl _ (haw _) ?_
  intro z2000 k
  simp only [Act.put, pu]
  replace sb := sb.trans (k.below w.heap.size sb.size (by simp <;> omega))
  clear k
  refine pw_as (by rfl) rfl rfl ?_
  simp only [Act.put, pu]
  refine pw_nil ?_
  go_wp2
  go_ret
  exact ⟨rfl, sb⟩
 ·have hm12 : 12 < m := h.resolve_left h12
  clear h
  (repeat ((fail_if_success with_reducible refine rg ?_); go_step))
  refine wp_region_pw ?_
  refine pw_mv (by rfl) rfl rfl ?_
  simp only [Act.put, pu]
  refine pw_value (by rfl) (.int .i64 n) (exec_len_s 49 _ rfl ab n ca rfl sl_nats) ?_
  simp only [Act.put, pu]
  refine pw_value (by rfl) (.bool false) (exec_gt_i _ _ _ _ rfl n 12 rfl rfl false (decide_eq_false (by omega))) ?_
  simp only [Act.put, pu]
  refine pw_mv (by rfl) rfl rfl ?_
  simp only [Act.put, pu]
  refine pw_mv (by rfl) rfl rfl ?_
  simp only [Act.put, pu]
  refine pw_value (by rfl) (.int .i64 m) (exec_len_s 49 _ rfl ae m ce rfl sl_nats) ?_
  simp only [Act.put, pu]
  refine pw_value (by rfl) (.bool true) (exec_gt_i _ _ _ _ rfl m 12 rfl rfl true (decide_eq_true (by omega))) ?_
  simp only [Act.put, pu]
  refine pw_pick (by rfl) false (v := .bool true) rfl rfl rfl ?_
  simp only [Act.put, pu]
  refine pw_nil ?_
  (repeat ((fail_if_success with_reducible refine rg ?_); go_step))
  refine wp_region_pw ?_
  refine pw_callB (by rfl) 33 _ _ rfl Try.func33 (by kernel_rfl) #[] rfl _ (haw _) ?_
  intro z2000 k
  simp only [Act.put, pu]
  replace sb := sb.trans (k.below w.heap.size sb.size (by simp <;> omega))
  clear k
  refine pw_as (by rfl) rfl rfl ?_
  simp only [Act.put, pu]
  refine pw_nil ?_
  go_wp2
  go_ret
  exact ⟨rfl, sb⟩
set_option maxRecDepth 100000 in
set_option maxHeartbeats 2000000 in
theorem core1 (a0 : Int) (n m ca ce GG PP QQ : Nat) (ab ae : Option Addr) (LK : Array Value) (w : World) (hn12 : ¬ 12 < n) (hm12 : ¬ 12 < m) (hnm : n ≠ m)
  (hpk : ∀ w', Calls Try.prog 18 #[.int .i64 a0] w' fun e w2 => ∃ g, e = .returned (.agg (paC (some ⟨g, 0, none⟩) 3 3 GG)) ∧ w'.heap.size ≤ g ∧ Row w2 g LK 79 ∧ Below w'.heap.size w' w2)
  (hnw : ∀ w' x, Row w' x LK 79 → Calls Try.prog 19 #[.agg (paC (some ⟨x, 0, none⟩) 3 3 GG)] w' fun e w2 => ∃ g gr gf, e = .returned (.tuple #[.pointer (some ⟨g, 0, none⟩), .int .i64 0]) ∧ GrpAt w2 g gr gf PP QQ GG ∧ Below w'.heap.size w' w2)
  (hrq : ∀ w' x, Row w' x LK 79 → Calls Try.prog 21 #[.agg (paC (some ⟨x, 0, none⟩) 3 3 GG)] w' fun e w2 => e = .returned (.agg (natC QQ)) ∧ Below w'.heap.size w' w2)
  (hlo : ∀ w', Calls Try.prog 20 #[.agg (natC QQ)] w' fun e w2 => e = .returned (.tuple #[.int .i64 (QQ : Nat), .bool true]) ∧ Below w'.heap.size w' w2)
  (hdo : ∀ w' g gr gf, GrpAt w' g gr gf PP QQ GG → Calls Try.prog 34 #[.pointer (some ⟨g, 0, none⟩), .slice ab n ca, .slice ae m ce] w' fun e w2 => e = .returned (.tuple #[.agg (natC 0), .int .i64 1]) ∧ Below w'.heap.size w' w2) :
  Calls Try.prog 6 #[.int .i64 a0, .slice ab n ca, .slice ae m ce] w fun e w' => e = .returned (.bool true) ∧ Below w.heap.size w w' := by
 have haw := awake8_any
 go_enter Try.func6, Try.ntmps6
 have sb := Below.refl w.heap.size w
 (repeat ((fail_if_success with_reducible refine rg ?_); go_step))
 refine wp_region_pw ?_
 refine pw_value (by rfl) (.bool false) (fun _ => rfl) ?_
 simp only [Act.put, pu]
 refine pw_nil ?_
 (repeat ((fail_if_success with_reducible refine rg ?_); go_step))
 refine wp_region_pw ?_
 refine pw_mv (by rfl) rfl rfl ?_
 simp only [Act.put, pu]
 refine pw_value (by rfl) (.int .i64 n) (exec_len_s 49 _ rfl ab n ca rfl sl_nats) ?_
 simp only [Act.put, pu]
 refine pw_value (by rfl) (.bool false) (exec_gt_i _ _ _ _ rfl n 12 rfl rfl false (decide_eq_false (by omega))) ?_
 simp only [Act.put, pu]
 refine pw_mv (by rfl) rfl rfl ?_
 simp only [Act.put, pu]
 refine pw_mv (by rfl) rfl rfl ?_
 simp only [Act.put, pu]
 refine pw_value (by rfl) (.int .i64 m) (exec_len_s 49 _ rfl ae m ce rfl sl_nats) ?_
 simp only [Act.put, pu]
 refine pw_value (by rfl) (.bool false) (exec_gt_i _ _ _ _ rfl m 12 rfl rfl false (decide_eq_false (by omega))) ?_
 simp only [Act.put, pu]
 refine pw_pick (by rfl) false (v := .bool false) rfl rfl rfl ?_
 simp only [Act.put, pu]
 refine pw_nil ?_
 (repeat ((fail_if_success with_reducible refine rg ?_); go_step))
 refine wp_region_pw ?_
 refine pw_mv (by rfl) rfl rfl ?_
 simp only [Act.put, pu]
 refine pw_callE (by rfl) 18 _ _ rfl Try.func18 (by kernel_rfl) #[.int .i64 a0] rfl (hpk _) ?_
 rintro _ z3001 ⟨gL, rfl, nL, rL, hb⟩
 refine ⟨_, rfl, ?_⟩
 simp only [Act.put, pu]
 have bL := Nat.le_trans sb.size nL
 clear nL
 have k := Kept.ofBelow hb
 clear hb
 replace sb := sb.trans (k.below w.heap.size sb.size (by simp <;> omega))
 clear k
 refine pw_new (by rfl) 33 rfl _ zero_pa ?_
 intro g7 z3002 n0 r7 k
 simp only [Act.put, pu]
 have dLx7 := Nat.lt_of_lt_of_le rL.lt n0
 have b7 := Nat.le_trans sb.size n0
 clear n0
 replace rL := k.row rL (by simp <;> omega)
 replace sb := sb.trans (k.below w.heap.size sb.size (by simp <;> omega))
 clear k
 refine pw_put (by rfl) 33 _ _ rfl _ rfl r7 (paC (some ⟨gL, 0, none⟩) 3 3 GG) rfl (by exact size_pa) (by rfl) (pa_one _ _ _ _) ?_
 clear r7
 intro z3003 r7 k
 simp only [Act.put]
 replace rL := k.row rL (by simp <;> omega)
 replace sb := sb.trans (k.below w.heap.size sb.size (by simp <;> omega))
 clear k
 refine pw_nil ?_
 clear hpk
 (repeat ((fail_if_success with_reducible refine rg ?_); go_step))
 refine wp_region_pw ?_
 refine pw_loadm (by rfl) 33 _ rfl _ 0 rfl r7.r _ (part_all _) _ Try.underlying33 rfl size_pa ?_
 simp only [Act.put, pu]
 refine pw_callE (by rfl) 19 _ _ rfl Try.func19 (by kernel_rfl) #[.agg (paC (some ⟨gL, 0, none⟩) 3 3 GG)] rfl (hnw _ gL rL) ?_
 rintro _ z4001 ⟨g, gr, gf, rfl, hg, hb⟩
 refine ⟨_, rfl, ?_⟩
 simp only [Act.put, pu]
 have k := Kept.ofBelow hb
 clear hb
 replace r7 := k.row r7 (by simp <;> omega)
 replace rL := k.row rL (by simp <;> omega)
 replace sb := sb.trans (k.below w.heap.size sb.size (by simp <;> omega))
 clear k
 refine pw_mv (by rfl) rfl rfl ?_
 simp only [Act.put, pu]
 refine pw_ext (by rfl) rfl rfl rfl ?_
 simp only [Act.put, pu]
 refine pw_ext (by rfl) rfl rfl rfl ?_
 simp only [Act.put, pu]
 refine pw_as (by rfl) rfl rfl ?_
 simp only [Act.put, pu]
 refine pw_as (by rfl) rfl rfl ?_
 simp only [Act.put, pu]
 refine pw_nil ?_
 clear hnw
 (repeat ((fail_if_success with_reducible refine rg ?_); go_step))
 refine wp_region_pw ?_
 refine pw_loadm (by rfl) 33 _ rfl _ 0 rfl r7.r _ (part_all _) _ Try.underlying33 rfl size_pa ?_
 simp only [Act.put, pu]
 refine pw_callB (by rfl) 21 _ _ rfl Try.func21 (by kernel_rfl) #[.agg (paC (some ⟨gL, 0, none⟩) 3 3 GG)] rfl _ (hrq _ gL rL) ?_
 intro z5001 k
 simp only [Act.put, pu]
 replace r7 := k.row r7 (by simp <;> omega)
 replace rL := k.row rL (by simp <;> omega)
 replace hg := hg.below k.nil
 replace sb := sb.trans (k.below w.heap.size sb.size (by simp <;> omega))
 clear k
 refine pw_callB (by rfl) 20 _ _ rfl Try.func20 (by kernel_rfl) #[.agg (natC QQ)] rfl _ (hlo _) ?_
 intro z5002 k
 simp only [Act.put, pu]
 replace r7 := k.row r7 (by simp <;> omega)
 replace rL := k.row rL (by simp <;> omega)
 replace hg := hg.below k.nil
 replace sb := sb.trans (k.below w.heap.size sb.size (by simp <;> omega))
 clear k
 refine pw_mv (by rfl) rfl rfl ?_
 simp only [Act.put, pu]
 refine pw_ext (by rfl) rfl rfl rfl ?_
 simp only [Act.put, pu]
 refine pw_ext (by rfl) rfl rfl rfl ?_
 simp only [Act.put, pu]
 refine pw_as (by rfl) rfl rfl ?_
 simp only [Act.put, pu]
 refine pw_as (by rfl) rfl rfl ?_
 simp only [Act.put, pu]
 refine pw_nil ?_
 clear hlo hrq rL r7
 obtain ⟨rG, rR, rF⟩ := hg
 (repeat ((fail_if_success with_reducible refine rg ?_); go_step))
 refine wp_region_pw ?_
 refine pw_mv (by rfl) rfl rfl ?_
 simp only [Act.put, pu]
 refine pw_mv (by rfl) rfl rfl ?_
 simp only [Act.put, pu]
 refine pw_mv (by rfl) rfl rfl ?_
 simp only [Act.put, pu]
 refine pw_callB (by rfl) 34 _ _ rfl Try.func34 (by kernel_rfl) #[.pointer (some ⟨g, 0, none⟩), .slice ab n ca, .slice ae m ce] rfl _ (hdo _ g gr gf ⟨rG, rR, rF⟩) ?_
 intro z6003 k
 simp only [Act.put, pu]
 replace rG := k.row rG (by simp <;> omega)
 replace rR := k.row rR (by simp <;> omega)
 replace rF := k.row rF (by simp <;> omega)
 replace sb := sb.trans (k.below w.heap.size sb.size (by simp <;> omega))
 clear k
 refine pw_mv (by rfl) rfl rfl ?_
 simp only [Act.put, pu]
 refine pw_ext (by rfl) rfl rfl rfl ?_
 simp only [Act.put, pu]
 refine pw_ext (by rfl) rfl rfl rfl ?_
 simp only [Act.put, pu]
 refine pw_new (by rfl) 24 rfl _ zero_nat ?_
 intro g12 z6007 n0 r12 k
 simp only [Act.put, pu]
 have dGx12 := Nat.lt_of_lt_of_le rG.lt n0
 have dRx12 := Nat.lt_of_lt_of_le rR.lt n0
 have dFx12 := Nat.lt_of_lt_of_le rF.lt n0
 have b12 := Nat.le_trans sb.size n0
 clear n0
 replace rG := k.row rG (by simp <;> omega)
 replace rR := k.row rR (by simp <;> omega)
 replace rF := k.row rF (by simp <;> omega)
 replace sb := sb.trans (k.below w.heap.size sb.size (by simp <;> omega))
 clear k
 refine pw_put (by rfl) 24 _ _ rfl _ rfl r12 (natC 0) rfl (by exact size_nat) (by simp only [natC_size]) (natC_one _) ?_
 clear r12
 intro z6008 r12 k
 simp only [Act.put]
 replace rG := k.row rG (by simp <;> omega)
 replace rR := k.row rR (by simp <;> omega)
 replace rF := k.row rF (by simp <;> omega)
 replace sb := sb.trans (k.below w.heap.size sb.size (by simp <;> omega))
 clear k
 refine pw_as (by rfl) rfl rfl ?_
 simp only [Act.put, pu]
 refine pw_nil ?_
 clear rG rR rF hdo
 (repeat ((fail_if_success with_reducible refine rg ?_); go_step))
 refine wp_region_pw ?_
 refine pw_mv (by rfl) rfl rfl ?_
 simp only [Act.put, pu]
 refine pw_value (by rfl) (.bool false) (exec_neq_k .i64 _ _ _ _ rfl 0 0 rfl rfl false rfl) ?_
 simp only [Act.put, pu]
 refine pw_nil ?_
 (repeat ((fail_if_success with_reducible refine rg ?_); go_step))
 refine wp_region_pw ?_
 refine pw_mv (by rfl) rfl rfl ?_
 simp only [Act.put, pu]
 refine pw_value (by rfl) (.int .i64 n) (exec_len_s 49 _ rfl ab n ca rfl sl_nats) ?_
 simp only [Act.put, pu]
 refine pw_mv (by rfl) rfl rfl ?_
 simp only [Act.put, pu]
 refine pw_value (by rfl) (.int .i64 m) (exec_len_s 49 _ rfl ae m ce rfl sl_nats) ?_
 simp only [Act.put, pu]
 refine pw_value (by rfl) (.bool true) (exec_neq_k .i64 _ _ _ _ rfl n m rfl rfl true (by rw [decide_eq_false (by omega)]; rfl)) ?_
 simp only [Act.put, pu]
 refine pw_nil ?_
 (repeat ((fail_if_success with_reducible refine rg ?_); go_step))
 refine wp_region_pw ?_
 refine pw_loadm (by rfl) 24 _ rfl _ 0 rfl r12.r _ (part_all _) _ Try.underlying24 rfl size_nat ?_
 simp only [Act.put, pu]
 refine pw_value (by rfl) (.agg (natC 0)) (exec_build0 _ rfl _ built_nat) ?_
 simp only [Act.put, pu]
 refine pw_value (by rfl) (.bool true) (fun w' => (exec_eql_nat _ _ _ rfl 0 0 rfl rfl w').trans (by rw [eqn_yes])) ?_
 simp only [Act.put, pu]
 refine pw_mv (by rfl) rfl rfl ?_
 simp only [Act.put, pu]
 refine pw_mv (by rfl) rfl rfl ?_
 simp only [Act.put, pu]
 refine pw_value (by rfl) (.bool true) (exec_eql_k .i64 _ _ _ _ rfl 1 1 rfl rfl true rfl) ?_
 simp only [Act.put, pu]
 refine pw_pick (by rfl) true (v := .bool true) rfl rfl rfl ?_
 simp only [Act.put, pu]
 refine pw_mv (by rfl) rfl rfl ?_
 simp only [Act.put, pu]
 refine pw_callB (by rfl) 33 _ _ rfl Try.func33 (by kernel_rfl) #[] rfl _ (haw _) ?_
 intro z10008 k
 simp only [Act.put, pu]
 replace r12 := k.row r12 (by simp <;> omega)
 replace sb := sb.trans (k.below w.heap.size sb.size (by simp <;> omega))
 clear k
 refine pw_pick (by rfl) true (v := .bool true) rfl rfl rfl ?_
 simp only [Act.put, pu]
 refine pw_as (by rfl) rfl rfl ?_
 simp only [Act.put, pu]
 refine pw_nil ?_
 go_wp2
 go_ret
 exact ⟨rfl, sb⟩
set_option maxRecDepth 100000 in
set_option maxHeartbeats 2000000 in
theorem core2 (a0 : Int) (n m ca ce GG PP QQ : Nat) (ab ae : Option Addr) (a' b' X Y T D : Nat → Nat) (gb ob ge oe : Nat) (bcs ecs : Array Value) (tb te : TypeId) (LK : Array Value) (w : World) (hn12 : ¬ 12 < n) (hm12 : ¬ 12 < m) (hnm : n = m) (hD0 : D 0 = 0)
  (hna : NatsAt w ab n a' gb ob bcs tb) (hnb : NatsAt w ae m b' ge oe ecs te)
  (hpk : ∀ w', Calls Try.prog 18 #[.int .i64 a0] w' fun e w2 => ∃ g, e = .returned (.agg (paC (some ⟨g, 0, none⟩) 3 3 GG)) ∧ w'.heap.size ≤ g ∧ Row w2 g LK 79 ∧ Below w'.heap.size w' w2)
  (hnw : ∀ w' x, Row w' x LK 79 → Calls Try.prog 19 #[.agg (paC (some ⟨x, 0, none⟩) 3 3 GG)] w' fun e w2 => ∃ g gr gf, e = .returned (.tuple #[.pointer (some ⟨g, 0, none⟩), .int .i64 0]) ∧ GrpAt w2 g gr gf PP QQ GG ∧ Below w'.heap.size w' w2)
  (hrq : ∀ w' x, Row w' x LK 79 → Calls Try.prog 21 #[.agg (paC (some ⟨x, 0, none⟩) 3 3 GG)] w' fun e w2 => e = .returned (.agg (natC QQ)) ∧ Below w'.heap.size w' w2)
  (hlo : ∀ w', Calls Try.prog 20 #[.agg (natC QQ)] w' fun e w2 => e = .returned (.tuple #[.int .i64 (QQ : Nat), .bool true]) ∧ Below w'.heap.size w' w2)
  (hdo : ∀ w', Below w.heap.size w w' → ∀ g gr gf, GrpAt w' g gr gf PP QQ GG → Calls Try.prog 34 #[.pointer (some ⟨g, 0, none⟩), .slice ab n ca, .slice ae m ce] w' fun e w2 => e = .returned (.tuple #[.agg (natC (D n)), .int .i64 0]) ∧ Below w'.heap.size w' w2)
  (hbx : ∀ i, i < n → ∀ w', Calls Try.prog 22 #[.agg (natC (a' i)), .int .i64 (QQ : Nat)] w' fun e w2 => e = .returned (.int .i64 (X i : Nat)) ∧ Below w'.heap.size w' w2)
  (hby : ∀ i, i < n → ∀ w', Calls Try.prog 22 #[.agg (natC (b' i)), .int .i64 (QQ : Nat)] w' fun e w2 => e = .returned (.int .i64 (Y i : Nat)) ∧ Below w'.heap.size w' w2)
  (hmu : ∀ i, ∀ w', Calls Try.prog 30 #[.int .i64 (X i : Nat), .int .i64 (Y i : Nat), .int .i64 (QQ : Nat)] w' fun e w2 => e = .returned (.int .i64 (T i : Nat)) ∧ Below w'.heap.size w' w2)
  (had : ∀ i, ∀ w', Calls Try.prog 26 #[.int .i64 (D i : Nat), .int .i64 (T i : Nat), .int .i64 (QQ : Nat)] w' fun e w2 => e = .returned (.int .i64 (D (i + 1) : Nat)) ∧ Below w'.heap.size w' w2)
  (hof : ∀ w', Calls Try.prog 25 #[.int .i64 (D n : Nat)] w' fun e w2 => e = .returned (.agg (natC (D n))) ∧ Below w'.heap.size w' w2) :
  Calls Try.prog 6 #[.int .i64 a0, .slice ab n ca, .slice ae m ce] w fun e w' => e = .returned (.bool true) ∧ Below w.heap.size w w' := by
 have haw := awake8_any
 subst hnm
 have HB : Hid (NatsAt w ab n a' gb ob bcs tb) := hna
 have HE : Hid (NatsAt w ae n b' ge oe ecs te) := hnb
 have HD : Hid (D 0 = 0) := hD0
 clear hna hnb hD0
 go_enter Try.func6, Try.ntmps6
 have sb := Below.refl w.heap.size w
 (repeat ((fail_if_success with_reducible refine rg ?_); go_step))
 refine wp_region_pw ?_
 refine pw_value (by rfl) (.bool false) (fun _ => rfl) ?_
 simp only [Act.put, pu]
 refine pw_nil ?_
 (repeat ((fail_if_success with_reducible refine rg ?_); go_step))
 refine wp_region_pw ?_
 refine pw_mv (by rfl) rfl rfl ?_
 simp only [Act.put, pu]
 refine pw_value (by rfl) (.int .i64 n) (exec_len_s 49 _ rfl ab n ca rfl sl_nats) ?_
 simp only [Act.put, pu]
 refine pw_value (by rfl) (.bool false) (exec_gt_i _ _ _ _ rfl n 12 rfl rfl false (decide_eq_false (by omega))) ?_
 simp only [Act.put, pu]
 refine pw_mv (by rfl) rfl rfl ?_
 simp only [Act.put, pu]
 refine pw_mv (by rfl) rfl rfl ?_
 simp only [Act.put, pu]
 refine pw_value (by rfl) (.int .i64 n) (exec_len_s 49 _ rfl ae n ce rfl sl_nats) ?_
 simp only [Act.put, pu]
 refine pw_value (by rfl) (.bool false) (exec_gt_i _ _ _ _ rfl n 12 rfl rfl false (decide_eq_false (by omega))) ?_
 simp only [Act.put, pu]
 refine pw_pick (by rfl) false (v := .bool false) rfl rfl rfl ?_
 simp only [Act.put, pu]
 refine pw_nil ?_
 (repeat ((fail_if_success with_reducible refine rg ?_); go_step))
 refine wp_region_pw ?_
 refine pw_mv (by rfl) rfl rfl ?_
 simp only [Act.put, pu]
 refine pw_callE (by rfl) 18 _ _ rfl Try.func18 (by kernel_rfl) #[.int .i64 a0] rfl (hpk _) ?_
 rintro _ z3001 ⟨gL, rfl, nL, rL, hb⟩
 refine ⟨_, rfl, ?_⟩
 simp only [Act.put, pu]
 have bL := Nat.le_trans sb.size nL
 clear nL
 have k := Kept.ofBelow hb
 clear hb
 replace sb := sb.trans (k.below w.heap.size sb.size (by simp <;> omega))
 clear k
 refine pw_new (by rfl) 33 rfl _ zero_pa ?_
 intro g7 z3002 n0 r7 k
 simp only [Act.put, pu]
 have dLx7 := Nat.lt_of_lt_of_le rL.lt n0
 have b7 := Nat.le_trans sb.size n0
 clear n0
 replace rL := k.row rL (by simp <;> omega)
 replace sb := sb.trans (k.below w.heap.size sb.size (by simp <;> omega))
 clear k
 refine pw_put (by rfl) 33 _ _ rfl _ rfl r7 (paC (some ⟨gL, 0, none⟩) 3 3 GG) rfl (by exact size_pa) (by rfl) (pa_one _ _ _ _) ?_
 clear r7
 intro z3003 r7 k
 simp only [Act.put]
 replace rL := k.row rL (by simp <;> omega)
 replace sb := sb.trans (k.below w.heap.size sb.size (by simp <;> omega))
 clear k
 refine pw_nil ?_
 clear hpk
 (repeat ((fail_if_success with_reducible refine rg ?_); go_step))
 refine wp_region_pw ?_
 refine pw_loadm (by rfl) 33 _ rfl _ 0 rfl r7.r _ (part_all _) _ Try.underlying33 rfl size_pa ?_
 simp only [Act.put, pu]
 refine pw_callE (by rfl) 19 _ _ rfl Try.func19 (by kernel_rfl) #[.agg (paC (some ⟨gL, 0, none⟩) 3 3 GG)] rfl (hnw _ gL rL) ?_
 rintro _ z4001 ⟨g, gr, gf, rfl, hg, hb⟩
 refine ⟨_, rfl, ?_⟩
 simp only [Act.put, pu]
 have k := Kept.ofBelow hb
 clear hb
 replace r7 := k.row r7 (by simp <;> omega)
 replace rL := k.row rL (by simp <;> omega)
 replace sb := sb.trans (k.below w.heap.size sb.size (by simp <;> omega))
 clear k
 refine pw_mv (by rfl) rfl rfl ?_
 simp only [Act.put, pu]
 refine pw_ext (by rfl) rfl rfl rfl ?_
 simp only [Act.put, pu]
 refine pw_ext (by rfl) rfl rfl rfl ?_
 simp only [Act.put, pu]
 refine pw_as (by rfl) rfl rfl ?_
 simp only [Act.put, pu]
 refine pw_as (by rfl) rfl rfl ?_
 simp only [Act.put, pu]
 refine pw_nil ?_
 clear hnw
 (repeat ((fail_if_success with_reducible refine rg ?_); go_step))
 refine wp_region_pw ?_
 refine pw_loadm (by rfl) 33 _ rfl _ 0 rfl r7.r _ (part_all _) _ Try.underlying33 rfl size_pa ?_
 simp only [Act.put, pu]
 refine pw_callB (by rfl) 21 _ _ rfl Try.func21 (by kernel_rfl) #[.agg (paC (some ⟨gL, 0, none⟩) 3 3 GG)] rfl _ (hrq _ gL rL) ?_
 intro z5001 k
 simp only [Act.put, pu]
 replace r7 := k.row r7 (by simp <;> omega)
 replace rL := k.row rL (by simp <;> omega)
 replace hg := hg.below k.nil
 replace sb := sb.trans (k.below w.heap.size sb.size (by simp <;> omega))
 clear k
 refine pw_callB (by rfl) 20 _ _ rfl Try.func20 (by kernel_rfl) #[.agg (natC QQ)] rfl _ (hlo _) ?_
 intro z5002 k
 simp only [Act.put, pu]
 replace r7 := k.row r7 (by simp <;> omega)
 replace rL := k.row rL (by simp <;> omega)
 replace hg := hg.below k.nil
 replace sb := sb.trans (k.below w.heap.size sb.size (by simp <;> omega))
 clear k
 refine pw_mv (by rfl) rfl rfl ?_
 simp only [Act.put, pu]
 refine pw_ext (by rfl) rfl rfl rfl ?_
 simp only [Act.put, pu]
 refine pw_ext (by rfl) rfl rfl rfl ?_
 simp only [Act.put, pu]
 refine pw_as (by rfl) rfl rfl ?_
 simp only [Act.put, pu]
 refine pw_as (by rfl) rfl rfl ?_
 simp only [Act.put, pu]
 refine pw_nil ?_
 clear hlo hrq rL r7
 obtain ⟨rG, rR, rF⟩ := hg
 (repeat ((fail_if_success with_reducible refine rg ?_); go_step))
 refine wp_region_pw ?_
 refine pw_mv (by rfl) rfl rfl ?_
 simp only [Act.put, pu]
 refine pw_mv (by rfl) rfl rfl ?_
 simp only [Act.put, pu]
 refine pw_mv (by rfl) rfl rfl ?_
 simp only [Act.put, pu]
 refine pw_callB (by rfl) 34 _ _ rfl Try.func34 (by kernel_rfl) #[.pointer (some ⟨g, 0, none⟩), .slice ab n ca, .slice ae n ce] rfl _ (hdo _ sb g gr gf ⟨rG, rR, rF⟩) ?_
 intro z6003 k
 simp only [Act.put, pu]
 replace rG := k.row rG (by simp <;> omega)
 replace rR := k.row rR (by simp <;> omega)
 replace rF := k.row rF (by simp <;> omega)
 replace sb := sb.trans (k.below w.heap.size sb.size (by simp <;> omega))
 clear k
 refine pw_mv (by rfl) rfl rfl ?_
 simp only [Act.put, pu]
 refine pw_ext (by rfl) rfl rfl rfl ?_
 simp only [Act.put, pu]
 refine pw_ext (by rfl) rfl rfl rfl ?_
 simp only [Act.put, pu]
 refine pw_new (by rfl) 24 rfl _ zero_nat ?_
 intro g12 z6007 n0 r12 k
 simp only [Act.put, pu]
 have dGx12 := Nat.lt_of_lt_of_le rG.lt n0
 have dRx12 := Nat.lt_of_lt_of_le rR.lt n0
 have dFx12 := Nat.lt_of_lt_of_le rF.lt n0
 have b12 := Nat.le_trans sb.size n0
 clear n0
 replace rG := k.row rG (by simp <;> omega)
 replace rR := k.row rR (by simp <;> omega)
 replace rF := k.row rF (by simp <;> omega)
 replace sb := sb.trans (k.below w.heap.size sb.size (by simp <;> omega))
 clear k
 refine pw_put (by rfl) 24 _ _ rfl _ rfl r12 (natC (D n)) rfl (by exact size_nat) (by simp only [natC_size]) (natC_one _) ?_
 clear r12
 intro z6008 r12 k
 simp only [Act.put]
 replace rG := k.row rG (by simp <;> omega)
 replace rR := k.row rR (by simp <;> omega)
 replace rF := k.row rF (by simp <;> omega)
 replace sb := sb.trans (k.below w.heap.size sb.size (by simp <;> omega))
 clear k
 refine pw_as (by rfl) rfl rfl ?_
 simp only [Act.put, pu]
 refine pw_nil ?_
 clear rG rR rF hdo
 (repeat ((fail_if_success with_reducible refine rg ?_); go_step))
 refine wp_region_pw ?_
 refine pw_mv (by rfl) rfl rfl ?_
 simp only [Act.put, pu]
 refine pw_value (by rfl) (.bool false) (exec_neq_k .i64 _ _ _ _ rfl 0 0 rfl rfl false rfl) ?_
 simp only [Act.put, pu]
 refine pw_nil ?_
 (repeat ((fail_if_success with_reducible refine rg ?_); go_step))
 refine wp_region_pw ?_
 refine pw_mv (by rfl) rfl rfl ?_
 simp only [Act.put, pu]
 refine pw_value (by rfl) (.int .i64 n) (exec_len_s 49 _ rfl ab n ca rfl sl_nats) ?_
 simp only [Act.put, pu]
 refine pw_mv (by rfl) rfl rfl ?_
 simp only [Act.put, pu]
 refine pw_value (by rfl) (.int .i64 n) (exec_len_s 49 _ rfl ae n ce rfl sl_nats) ?_
 simp only [Act.put, pu]
 refine pw_value (by rfl) (.bool false) (exec_neq_k .i64 _ _ _ _ rfl n n rfl rfl false (by rw [decide_eq_true rfl]; rfl)) ?_
 simp only [Act.put, pu]
 refine pw_nil ?_
 (repeat ((fail_if_success with_reducible refine rg ?_); go_step))
 refine wp_region_pw ?_
 refine pw_value (by rfl) (.int .i64 0) (fun _ => rfl) ?_
 simp only [Act.put, pu]
 refine pw_nil ?_
 (repeat ((fail_if_success with_reducible refine rg ?_); go_step))
 refine wp_region_pw ?_
 refine pw_value (by rfl) (.int .i64 0) (fun _ => rfl) ?_
 simp only [Act.put, pu]
 refine pw_nil ?_
 go_wp2_with fail
 go_loopg [14, 15] n (fun g s14 s15 wr => ∃ i : Nat, i + g = n ∧ s15 = .int .i64 i ∧ s14 = .int .i64 (D i : Nat) ∧ Row wr g12 (natC (D n)) 24 ∧ Below w.heap.size w wr)
 case atStart => exact ⟨0, by omega, rfl, by rw [HD.out]; rfl, r12, sb⟩
 case round =>
  clear r12 sb HD
  obtain ⟨i, hi, rfl, rfl, r12, sb⟩ := hrel
  cases gk with
  | zero =>
   obtain rfl : i = n := by omega
   clear hi hmu had hbx hby
   (repeat ((fail_if_success with_reducible refine rg ?_); go_step))
   refine wp_region_pw ?_
   refine pw_mv (by rfl) rfl rfl ?_
   simp only [Act.put, pu]
   refine pw_mv (by rfl) rfl rfl ?_
   simp only [Act.put, pu]
   refine pw_value (by rfl) (.int .i64 i) (exec_len_s 49 _ rfl ab i ca rfl sl_nats) ?_
   simp only [Act.put, pu]
   refine pw_value (by rfl) (.bool false) (exec_lt_b _ _ _ _ rfl i i rfl rfl false (decide_eq_false (Int.lt_irrefl _))) ?_
   simp only [Act.put, pu]
   refine pw_mv (by rfl) rfl rfl ?_
   simp only [Act.put, pu]
   refine pw_skip (by rfl) ?_
   simp only [Act.put, pu]
   refine pw_skip (by rfl) ?_
   simp only [Act.put, pu]
   refine pw_skip (by rfl) ?_
   simp only [Act.put, pu]
   refine pw_skip (by rfl) ?_
   simp only [Act.put, pu]
   refine pw_pick (by rfl) false (v := .bool false) rfl rfl rfl ?_
   simp only [Act.put, pu]
   refine pw_nil ?_
   (repeat ((fail_if_success with_reducible refine rg ?_); go_step))
   refine wp_region_qw (by kernel_rfl) (by kernel_rfl) ?_
   refine qw_load (by rfl) 24 _ rfl _ rfl r12 4 _ Try.underlying24 size_nat ?_
   simp only [Act.put, pu]
   refine qw_move (by rfl) rfl rfl ?_
   simp only [Act.put, pu]
   refine qw_call (by rfl) 25 _ _ rfl Try.func25 (by kernel_rfl) #[.int .i64 (D i : Nat)] rfl _ hof ?_
   simp only [Act.put, pu]
   refine qw_value (by rfl) (.bool true) (fun w' => (exec_eql_nat _ _ _ rfl (D i) (D i) rfl rfl w').trans (by rw [eqn_yes])) ?_
   simp only [Act.put, pu]
   refine qw_move (by rfl) rfl rfl ?_
   simp only [Act.put, pu]
   refine qw_move (by rfl) rfl rfl ?_
   simp only [Act.put, pu]
   refine qw_value (by rfl) (.bool true) (exec_eql_k .i64 _ _ _ _ rfl 0 0 rfl rfl true rfl) ?_
   simp only [Act.put, pu]
   refine qw_pick true (v := .bool true) (by rfl) rfl rfl rfl ?_
   simp only [Act.put, pu]
   refine qw_move (by rfl) rfl rfl ?_
   simp only [Act.put, pu]
   refine qw_call (by rfl) 33 _ _ rfl Try.func33 (by kernel_rfl) #[] rfl _ haw ?_
   simp only [Act.put, pu]
   refine qw_pick true (v := .bool true) (by rfl) rfl rfl rfl ?_
   simp only [Act.put, pu]
   refine qw_asg (by rfl) rfl rfl ?_
   simp only [Act.put, pu]
   refine qw_nil ?_
   intro w9 hqb
   replace sb := below_on sb (Nat.le_refl _) hqb
   clear hqb
   go_wp2
   go_ret
   exact ⟨rfl, sb⟩
  | succ g =>
   have hlt : i < n := by omega
   replace hbx := hbx i hlt
   replace hby := hby i hlt
   replace hmu := hmu i
   replace had := had i
   clear haw hof
   (repeat ((fail_if_success with_reducible refine rg ?_); go_step))
   refine wp_region_pw ?_
   refine pw_mv (by rfl) rfl rfl ?_
   simp only [Act.put, pu]
   refine pw_mv (by rfl) rfl rfl ?_
   simp only [Act.put, pu]
   refine pw_value (by rfl) (.int .i64 n) (exec_len_s 49 _ rfl ab n ca rfl sl_nats) ?_
   simp only [Act.put, pu]
   refine pw_value (by rfl) (.bool true) (exec_lt_b _ _ _ _ rfl i n rfl rfl true (decide_eq_true (by omega))) ?_
   simp only [Act.put, pu]
   refine pw_mv (by rfl) rfl rfl ?_
   simp only [Act.put, pu]
   refine pw_mv (by rfl) rfl rfl ?_
   simp only [Act.put, pu]
   refine pw_mv (by rfl) rfl rfl ?_
   simp only [Act.put, pu]
   refine pw_value (by rfl) (.int .i64 n) (exec_len_s 49 _ rfl ae n ce rfl sl_nats) ?_
   simp only [Act.put, pu]
   refine pw_value (by rfl) (.bool true) (exec_lt_b _ _ _ _ rfl i n rfl rfl true (decide_eq_true (by omega))) ?_
   simp only [Act.put, pu]
   refine pw_pick (by rfl) true (v := .bool true) rfl rfl rfl ?_
   simp only [Act.put, pu]
   refine pw_nil ?_
   obtain h0 | ⟨rfl, rB, hbt⟩ := (HB.out.below sb).at'
   ·omega
   obtain h0 | ⟨rfl, rE, het⟩ := (HE.out.below sb).at'
   ·omega
   (repeat ((fail_if_success with_reducible refine rg ?_); go_step))
   refine wp_region_qw (by kernel_rfl) (by kernel_rfl) ?_
   refine qw_move (by rfl) rfl rfl ?_
   simp only [Act.put, pu]
   refine qw_move (by rfl) rfl rfl ?_
   simp only [Act.put, pu]
   refine qw_move (by rfl) rfl rfl ?_
   simp only [Act.put, pu]
   refine qw_value (by rfl) (.pointer (some ⟨gb, ob + i * 4, none⟩)) (exec_index_s 49 _ _ rfl gb ob n ca rfl i rfl hlt _ Try.underlying49 4 size_nat4) ?_
   simp only [Act.put, pu]
   refine qw_loadmR (by rfl) 24 _ rfl _ ((ob + i * 4)) rfl rB (natC (a' i)) (hbt i hlt) _ Try.underlying24 rfl size_nat ?_
   simp only [Act.put, pu]
   refine qw_move (by rfl) rfl rfl ?_
   simp only [Act.put, pu]
   refine qw_call (by rfl) 22 _ _ rfl Try.func22 (by kernel_rfl) #[.agg (natC (a' i)), .int .i64 (QQ : Nat)] rfl _ hbx ?_
   simp only [Act.put, pu]
   refine qw_move (by rfl) rfl rfl ?_
   simp only [Act.put, pu]
   refine qw_move (by rfl) rfl rfl ?_
   simp only [Act.put, pu]
   refine qw_value (by rfl) (.pointer (some ⟨ge, oe + i * 4, none⟩)) (exec_index_s 49 _ _ rfl ge oe n ce rfl i rfl hlt _ Try.underlying49 4 size_nat4) ?_
   simp only [Act.put, pu]
   refine qw_loadmR (by rfl) 24 _ rfl _ ((oe + i * 4)) rfl rE (natC (b' i)) (het i hlt) _ Try.underlying24 rfl size_nat ?_
   simp only [Act.put, pu]
   refine qw_move (by rfl) rfl rfl ?_
   simp only [Act.put, pu]
   refine qw_call (by rfl) 22 _ _ rfl Try.func22 (by kernel_rfl) #[.agg (natC (b' i)), .int .i64 (QQ : Nat)] rfl _ hby ?_
   simp only [Act.put, pu]
   refine qw_move (by rfl) rfl rfl ?_
   simp only [Act.put, pu]
   refine qw_call (by rfl) 30 _ _ rfl Try.func30 (by kernel_rfl) #[.int .i64 (X i : Nat), .int .i64 (Y i : Nat), .int .i64 (QQ : Nat)] rfl _ hmu ?_
   simp only [Act.put, pu]
   refine qw_move (by rfl) rfl rfl ?_
   simp only [Act.put, pu]
   refine qw_call (by rfl) 26 _ _ rfl Try.func26 (by kernel_rfl) #[.int .i64 (D i : Nat), .int .i64 (T i : Nat), .int .i64 (QQ : Nat)] rfl _ had ?_
   simp only [Act.put, pu]
   refine qw_asg (by rfl) rfl rfl ?_
   simp only [Act.put, pu]
   refine qw_nil ?_
   intro w8 hqb
   replace r12 := r12.belowAll hqb
   replace sb := below_on sb (Nat.le_refl _) hqb
   clear hqb
   (repeat ((fail_if_success with_reducible refine rg ?_); go_step))
   refine wp_region_pw ?_
   refine pw_mv (by rfl) rfl rfl ?_
   simp only [Act.put, pu]
   refine pw_value (by rfl) (.int .i64 ((i + 1 : Nat) : Int)) (exec_add_in _ _ _ _ rfl i 1 rfl rfl (by omega)) ?_
   simp only [Act.put, pu]
   refine pw_as (by rfl) rfl rfl ?_
   simp only [Act.put, pu]
   refine pw_nil ?_
   go_wp2
   go_roundg g
   case measure => omega
   case rel => exact ⟨i + 1, by omega, rfl, rfl, r12, sb⟩
theorem walk (a0 : Int) (n m ca ce : Nat) (ab ae : Option Addr) (a' b' : Nat → Nat) (gb ob ge oe : Nat) (bcs ecs : Array Value) (tb te : TypeId) (w : World) (_ : -9223372036854775808 ≤ a0 ∧ a0 ≤ 9223372036854775807)
  (hna : NatsAt w ab n a' gb ob bcs tb) (hnb : NatsAt w ae m b' ge oe ecs te) :
  Calls Try.prog 6 #[.int .i64 a0, .slice ab n ca, .slice ae m ce] w fun e w' => e = .returned (.bool true) ∧ Below w.heap.size w w' := by
 by_cases h12 : 12 < n ∨ 12 < m
 ·exact core0 a0 n m ca ce ab ae w h12
 have hn12 : ¬ 12 < n := fun h => h12 (.inl h)
 have hm12 : ¬ 12 < m := fun h => h12 (.inr h)
 clear h12
 obtain ⟨his, hlt, hG, hq62⟩ := pk2_gr (pkB a0)
 have pQ := (grN_primes his).2
 have hQ9 := ((grN_iff _ _ _ _).1 his).2.2.1
 have hnw : ∀ w' x, Row w' x (lksC 3 (lN (pk2 (pkB a0) otL leL)) twoA) 79 → _ := fun w' x r => gnew_yes 3 3 (some ⟨x, 0, none⟩) (pk2 (pkB a0) otG leG) _ _ x 0 _ _ w' (by decide) hG (lks_links r hlt) his
 have hrq : ∀ w' x, Row w' x (lksC 3 (lN (pk2 (pkB a0) otL leL)) twoA) 79 → _ := fun w' x r => rQ_any 3 3 (some ⟨x, 0, none⟩) (pk2 (pkB a0) otG leG) _ _ x 0 _ _ w' (by decide) (by decide) (lks_links r hlt)
 have hpk := rpick_any a0
 clear hlt his hG
 generalize lN (pk2 (pkB a0) otL leL) (3 - 1) = PP at *
 generalize lN (pk2 (pkB a0) otL leL) (3 - 2) = QQ at *
 generalize pk2 (pkB a0) otG leG = GG at *
 generalize lksC 3 (lN (pk2 (pkB a0) otL leL)) twoA = LK at *
 have q0 : 0 < QQ := by omega
 have q : FdQ QQ := ⟨⟨by omega, isP_odd pQ (by omega), pQ.1⟩, pQ⟩
 have hlo : ∀ w', Calls Try.prog 20 #[.agg (natC QQ)] w' fun e w2 => e = .returned (.tuple #[.int .i64 (QQ : Nat), .bool true]) ∧ Below w'.heap.size w' w2 := fun w' => by
  have := rlow_any QQ w' q.m
  rw [show lowI QQ = ((QQ : Nat) : Int) from if_pos (by omega), show lowB QQ = true from decide_eq_true (by omega)] at this
  exact this
 by_cases hnm : n = m
 ·have hlD := dotN_lt a' b' QQ q0
  refine core2 a0 n m ca ce GG PP QQ ab ae a' b' (fun i => a' i % QQ) (fun i => b' i % QQ) (fun i => a' i * b' i % QQ) (dotN a' b' QQ) gb ob ge oe bcs ecs tb te LK w hn12 hm12 hnm rfl hna hnb hpk hnw hrq hlo (fun w' hb g gr gf h => ?_) (fun i hi w' => rby_any _ QQ w' (hna.lt i hi) q0 hq62) (fun i hi w' => rby_any _ QQ w' (hnb.lt i (by omega)) q0 hq62) (fun i w' => ?_) (fun i w' => ?_) (fun w' => of8_any _ w' (by have := hlD n; omega))
  ·subst hnm
   exact fDot_ok g gr gf _ _ _ n ca ce ab ae a' b' gb ob ge oe bcs ecs tb te w' q (by omega) (hna.below hb) (hnb.below hb) h
  ·have := rmul8_any (a' i % QQ) (b' i % QQ) QQ w' q0 hq62
   rw [← Nat.mul_mod] at this
   exact this
  ·have h1 := hlD i
   have h2 := Nat.mod_lt (a' i * b' i) q0
   exact radd8_any (dotN a' b' QQ i) (a' i * b' i % QQ) QQ w' q0 (by omega) (by omega)
 ·exact core1 a0 n m ca ce GG PP QQ ab ae LK w hn12 hm12 hnm hpk hnw hrq hlo fun w' g gr gf h => fDot_differ g gr gf _ _ _ n m ca ce ab ae w' hnm h
set_option maxRecDepth 100000 in
theorem lifted (os : Os) (started : os.Started) (H : Type) (enc : TypeId × Value → H) :
  ReturnsInHanded {} Try.checked os 6 .any (Rows.fieldDotsSpec.pre6 enc Try.prog Try.f6 Rows.fieldDotsRow.domain false) (Rows.fieldDotsSpec.post enc Try.prog Try.f6 false true false false) := by
 refine returnsInHanded_of_change (C := Try.checked) own started (by kernel_rfl) Try.func6
  (ChangeSpec.witness6 (enc := enc) (C := Try.checked) false ⟨#[], #[.int .i64 0, .slice none 0 0, .slice none 0 0], []⟩ 8 (by kernel_rfl) (by kernel_rfl) (by kernel_rfl) (by kernel_rfl)) ?_
 intro W base args ds gs before hval0 hW hcnd _
 have hval : ∀ (j : Nat) t v, Try.f6.params[j]? = some t → args[j]? = some v → Value.okWide Try.prog W .any base t v := hval0
 have hW' := hW
 obtain ⟨p, q, hA0, hV, rfl, hfz, hnd⟩ := hW
 have hA : DataW.TrodAll enc Try.prog W 0 (fun _ => true) true Try.f6.params.toList args.toList ds p := hA0
 rw [Try.params6] at hA hval
 obtain ⟨v0, vs0, d0, ds0, p0, q0, hargs, rfl, rfl, h0, r0⟩ := trodAll_cons hA
 obtain ⟨v1, vs1, d1, ds1, p1, q1, rfl, rfl, rfl, h1, r1⟩ := trodAll_cons r0
 obtain ⟨v2, vs2, d2, ds2, p2, q2, rfl, rfl, rfl, h2, r2⟩ := trodAll_cons r1
 obtain ⟨rfl, rfl, rfl⟩ := trodAll_nil r2
 obtain rfl : args = #[v0, v1, v2] := by cases args; simp_all
 obtain ⟨rfl, rfl⟩ := trodVars_none hV
 have k0 := h0
 have lt0 := lt_of_trod h0
 obtain ⟨a0, rfl, rfl, rfl, w0⟩ := open_int Try.underlying3 (hval 0 3 v0 rfl rfl) h0
 have k1 := h1
 have lt1 := lt_of_trod h1
 obtain ⟨ab, n, ca, b, gb, ob, bcs, tb, rfl, l1, l2, q1⟩ := open_nats (hval 1 49 v1 rfl rfl) h1
 have k2 := h2
 have lt2 := lt_of_trod h2
 obtain ⟨ae, m, ce, x, ge, oe, ecs, te, rfl, l3, l4, q2⟩ := open_nats (hval 2 49 v2 rfl rfl) h2
 clear hA0 hval0
 refine (walk a0 n m ca ce ab ae b x gb ob ge oe bcs ecs tb te W (bounds_i64 w0) q1 q2).mono fun e W' ⟨he, bel⟩ => ?_
 subst he
 exact ⟨_, rfl, _, _, _, [], _, [], hW', trodAll_mk1 (shut_bool Try.underlying4 _), (trodAll_cons_mk (Below.trod laidOut (by kernel_rfl) (of_decide_eq_true (by kernel_rfl)) k0 bel lt0) (trodAll_cons_mk (Below.trod laidOut (by kernel_rfl) (of_decide_eq_true (by kernel_rfl)) k1 bel lt1) (trodAll_cons_mk (Below.trod laidOut (by kernel_rfl) (of_decide_eq_true (by kernel_rfl)) k2 bel lt2) trodAll_mk0))), rfl, bel.frame _, fun h => by cases h⟩
theorem over : Rows.fieldDotsRow.holds Try.pinned (OpenSpec.ofChange Rows.fieldDotsSpec) :=
 OpenClaim.holds_of_wide 6 Try.f6 rfl rfl rfl rfl rfl rfl rfl ⟨rfl, rfl, rfl, rfl, rfl⟩ rfl rfl rfl rfl rfl (by kernel_rfl) Try.func6 (by kernel_rfl)
  (of_decide_eq_true (by kernel_rfl)) (by unfold Func.isWrapper; first | (rw [if_pos (by decide +kernel)]; kernel_rfl) | (rw [if_neg (by decide +kernel)]; exact ⟨rfl, rfl⟩))
  (fun os started H enc _ => lifted os started H enc)
end fieldDotsP
/-- for every number and any two lists of naturals: the sum of products by a small group's Q is the document's, or they are not as long; no condition. -/
theorem fieldDots_holds : Rows.FieldDotsSaid := fieldDotsP.over
end Go.Proofs.Yteddgjoailpgaaa
