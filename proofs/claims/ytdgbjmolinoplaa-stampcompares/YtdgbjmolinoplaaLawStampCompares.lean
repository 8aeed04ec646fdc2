/- StampCompares: for any two stamps and any number: Compare, May and Next answer as the document says; no condition. -/
import Derived.Test.YtdgbjmolinoplaaStAwake
import Derived.Test.YtdgbjmolinoplaaStOpen
namespace Go.Proofs.Ytdgbjmolinoplaa
open Go.ChangeShapes Go.WideShapes Go.ChangeAt Go.RowKit
set_option linter.unusedVariables false
set_option linter.unusedSectionVars false
set_option linter.unusedSimpArgs false
namespace stampComparesP
theorem x_eqb {P : Program} {o : Oper} {ρ : Operand → Value} (t : TypeId) (x y : Operand) (u : TypeId) (ho : o.op = .binOp .eql t x y u) (n : Bool) (hx : ρ x = .bool n) (hy : ρ y = .bool n) (hu : P.underlying t = some .bool) (w : World) :
  (execOp ρ o).run P w = .ok (.value (.bool true)) w := by
 unfold execOp
 simp only [ho, hx, hy]
 simp [eqGuard, go_sem, hu]
theorem x_neb {P : Program} {o : Oper} {ρ : Operand → Value} (t : TypeId) (x y : Operand) (u : TypeId) (ho : o.op = .binOp .neq t x y u) (n : Bool) (hx : ρ x = .bool n) (hy : ρ y = .bool n) (hu : P.underlying t = some .bool) (w : World) :
  (execOp ρ o).run P w = .ok (.value (.bool false)) w := by
 unfold execOp
 simp only [ho, hx, hy]
 simp [eqGuard, go_sem, hu]
theorem nx_may (n c : Int) (h : nxE n c = 0) : stB (nxS n c) (nxC n c) = true := by
 have h1 : ¬ (n < 0 ∨ clB c = false) := fun q => by unfold nxE at h; rw [if_pos q] at h; exact absurd h (by decide)
 have h2 : ¬ 1099511627776 ≤ n := fun q => by unfold nxE at h; rw [if_neg h1, if_pos q] at h; exact absurd h (by decide)
 have h3 : 1 ≤ c ∧ c ≤ 4 := by
  cases e : clB c with
  | false => exact absurd (.inr e) h1
  | true => exact of_decide_eq_true e
 rw [show nxS n c = n + 1 from if_pos h, show nxC n c = c from if_pos h]
 exact decide_eq_true (by omega)
set_option maxRecDepth 100000 in
set_option maxHeartbeats 2000000 in
theorem walk (sq cl sq2 cl2 n : Int) (w : World) (hn : -9223372036854775808 ≤ n ∧ n ≤ 9223372036854775807) :
  Calls Try.prog 3 #[.agg (tsC sq cl), .agg (tsC sq2 cl2), .int .i64 n] w fun e w' => e = .returned (.bool true) ∧ Below w.heap.size w w' := by
 have hA := fun w' => snx_any n cl w'
 have hB := fun w' => rsnx_any n cl w'
 have hP := fun w' => scmp_any sq cl sq2 cl2 w'
 have hQ := fun w' => rscmp_any sq cl sq2 cl2 w'
 have hM := fun w' => smay_any sq cl w'
 have hR := fun w' => rsmay_any sq cl w'
 have hS := fun w' => smay_any (nxS n cl) (nxC n cl) w'
 have hmy := nx_may n cl
 generalize cpS sq cl sq2 cl2 = z at *
 generalize stB sq cl = b at *
 by_cases he : nxE n cl = 0
 ·rw [hmy he] at hS
  clear hmy
  generalize nxS n cl = s at *
  generalize nxC n cl = x at *
  generalize nxE n cl = e at *
  go_enter Try.func3, Try.ntmps3
  have sb := sbmk w
  (repeat ((fail_if_success with_reducible refine rg ?_); go_step))
  refine wp_region_pw ?_
  refine pw_boxr (by rfl) 23 _ rfl (tsC sq cl) rfl ?_
  intro g3 z0 n0 r3 k
  simp only [Act.put, pu]
  have b3 := Nat.le_trans sb.size n0
  clear n0
  replace sb := sb.trans (k.below w.heap.size sb.size (by simp <;> omega))
  clear k
  refine pw_boxr (by rfl) 23 _ rfl (tsC sq2 cl2) rfl ?_
  intro g4 z1 n0 r4 k
  simp only [Act.put, pu]
  have d3x4 := Nat.lt_of_lt_of_le r3.lt n0
  have b4 := Nat.le_trans sb.size n0
  clear n0
  replace r3 := k.row r3 (by simp <;> omega)
  replace sb := sb.trans (k.below w.heap.size sb.size (by simp <;> omega))
  clear k
  refine pw_value (by rfl) (.bool false) (fun _ => rfl) ?_
  simp only [Act.put, pu]
  refine pw_nil ?_
  (repeat ((fail_if_success with_reducible refine rg ?_); go_step))
  refine wp_region_pw ?_
  refine pw_mv (by rfl) rfl rfl ?_
  simp only [Act.put, pu]
  refine pw_value (by rfl) (.pointer (some ⟨g3, 1, none⟩)) (exec_field 23 _ 1 rfl g3 0 rfl _ Try.underlying23 _ rfl 0 Try.sizeOf3) ?_
  simp only [Act.put, pu]
  refine pw_loadk (by rfl) 3 _ rfl _ (1) rfl r3.r (.int .i64 cl) rfl Try.isAgg3 ?_
  simp only [Act.put, pu]
  refine pw_callB (by rfl) 7 _ _ rfl Try.func7 (by kernel_rfl) #[.int .i64 n, .int .i64 cl] rfl _ (hA _) ?_
  intro z1003 k
  simp only [Act.put, pu]
  replace r3 := k.row r3 (by simp <;> omega)
  replace r4 := k.row r4 (by simp <;> omega)
  replace sb := sb.trans (k.below w.heap.size sb.size (by simp <;> omega))
  clear k
  refine pw_mv (by rfl) rfl rfl ?_
  simp only [Act.put, pu]
  refine pw_ext (by rfl) rfl rfl rfl ?_
  simp only [Act.put, pu]
  refine pw_ext (by rfl) rfl rfl rfl ?_
  simp only [Act.put, pu]
  refine pw_new (by rfl) 23 rfl _ zero_st ?_
  intro g7 z1007 n0 r7 k
  simp only [Act.put, pu]
  have d3x7 := Nat.lt_of_lt_of_le r3.lt n0
  have d4x7 := Nat.lt_of_lt_of_le r4.lt n0
  have b7 := Nat.le_trans sb.size n0
  clear n0
  replace r3 := k.row r3 (by simp <;> omega)
  replace r4 := k.row r4 (by simp <;> omega)
  replace sb := sb.trans (k.below w.heap.size sb.size (by simp <;> omega))
  clear k
  refine pw_put (by rfl) 23 _ _ rfl _ rfl r7 (tsC s x) rfl (by exact size_st) (by rfl) (st_one _ _) ?_
  clear r7
  intro z1008 r7 k
  simp only [Act.put]
  replace r3 := k.row r3 (by simp <;> omega)
  replace r4 := k.row r4 (by simp <;> omega)
  replace sb := sb.trans (k.below w.heap.size sb.size (by simp <;> omega))
  clear k
  refine pw_as (by rfl) rfl rfl ?_
  simp only [Act.put, pu]
  refine pw_nil ?_
  (repeat ((fail_if_success with_reducible refine rg ?_); go_step))
  refine wp_region_pw ?_
  refine pw_mv (by rfl) rfl rfl ?_
  simp only [Act.put, pu]
  refine pw_value (by rfl) (.pointer (some ⟨g3, 1, none⟩)) (exec_field 23 _ 1 rfl g3 0 rfl _ Try.underlying23 _ rfl 0 Try.sizeOf3) ?_
  simp only [Act.put, pu]
  refine pw_loadk (by rfl) 3 _ rfl _ (1) rfl r3.r (.int .i64 cl) rfl Try.isAgg3 ?_
  simp only [Act.put, pu]
  refine pw_callB (by rfl) 8 _ _ rfl Try.func8 (by kernel_rfl) #[.int .i64 n, .int .i64 cl] rfl _ (hB _) ?_
  intro z2003 k
  simp only [Act.put, pu]
  replace r3 := k.row r3 (by simp <;> omega)
  replace r4 := k.row r4 (by simp <;> omega)
  replace r7 := k.row r7 (by simp <;> omega)
  replace sb := sb.trans (k.below w.heap.size sb.size (by simp <;> omega))
  clear k
  refine pw_mv (by rfl) rfl rfl ?_
  simp only [Act.put, pu]
  refine pw_ext (by rfl) rfl rfl rfl ?_
  simp only [Act.put, pu]
  refine pw_ext (by rfl) rfl rfl rfl ?_
  simp only [Act.put, pu]
  refine pw_new (by rfl) 23 rfl _ zero_st ?_
  intro g9 z2007 n0 r9 k
  simp only [Act.put, pu]
  have d3x9 := Nat.lt_of_lt_of_le r3.lt n0
  have d4x9 := Nat.lt_of_lt_of_le r4.lt n0
  have d7x9 := Nat.lt_of_lt_of_le r7.lt n0
  have b9 := Nat.le_trans sb.size n0
  clear n0
  replace r3 := k.row r3 (by simp <;> omega)
  replace r4 := k.row r4 (by simp <;> omega)
  replace r7 := k.row r7 (by simp <;> omega)
  replace sb := sb.trans (k.below w.heap.size sb.size (by simp <;> omega))
  clear k
  refine pw_put (by rfl) 23 _ _ rfl _ rfl r9 (tsC s x) rfl (by exact size_st) (by rfl) (st_one _ _) ?_
  clear r9
  intro z2008 r9 k
  simp only [Act.put]
  replace r3 := k.row r3 (by simp <;> omega)
  replace r4 := k.row r4 (by simp <;> omega)
  replace r7 := k.row r7 (by simp <;> omega)
  replace sb := sb.trans (k.below w.heap.size sb.size (by simp <;> omega))
  clear k
  refine pw_as (by rfl) rfl rfl ?_
  simp only [Act.put, pu]
  refine pw_nil ?_
  (repeat ((fail_if_success with_reducible refine rg ?_); go_step))
  refine wp_region_qw (by kernel_rfl) (by kernel_rfl) ?_
  refine qw_loadm (by rfl) 23 _ rfl _ (0) rfl r3 ((tsC sq cl)) (part_all _) _ Try.underlying23 rfl size_st ?_
  simp only [Act.put, pu]
  refine qw_loadm (by rfl) 23 _ rfl _ (0) rfl r4 ((tsC sq2 cl2)) (part_all _) _ Try.underlying23 rfl size_st ?_
  simp only [Act.put, pu]
  refine qw_call (by rfl) 9 _ _ rfl Try.func9 (by kernel_rfl) #[.agg (tsC sq cl), .agg (tsC sq2 cl2)] rfl _ hP ?_
  simp only [Act.put, pu]
  refine qw_loadm (by rfl) 23 _ rfl _ (0) rfl r3 ((tsC sq cl)) (part_all _) _ Try.underlying23 rfl size_st ?_
  simp only [Act.put, pu]
  refine qw_loadm (by rfl) 23 _ rfl _ (0) rfl r4 ((tsC sq2 cl2)) (part_all _) _ Try.underlying23 rfl size_st ?_
  simp only [Act.put, pu]
  refine qw_call (by rfl) 10 _ _ rfl Try.func10 (by kernel_rfl) #[.agg (tsC sq cl), .agg (tsC sq2 cl2)] rfl _ hQ ?_
  simp only [Act.put, pu]
  refine qw_value (by rfl) (.bool true) (exec_eql_k .i64 _ _ _ _ rfl (z) (z) rfl rfl true (decide_eq_true rfl)) ?_
  simp only [Act.put, pu]
  refine qw_move (by rfl) rfl rfl ?_
  simp only [Act.put, pu]
  refine qw_loadm (by rfl) 23 _ rfl _ (0) rfl r3 ((tsC sq cl)) (part_all _) _ Try.underlying23 rfl size_st ?_
  simp only [Act.put, pu]
  refine qw_call (by rfl) 11 _ _ rfl Try.func11 (by kernel_rfl) #[.agg (tsC sq cl)] rfl _ hM ?_
  simp only [Act.put, pu]
  refine qw_loadm (by rfl) 23 _ rfl _ (0) rfl r3 ((tsC sq cl)) (part_all _) _ Try.underlying23 rfl size_st ?_
  simp only [Act.put, pu]
  refine qw_call (by rfl) 12 _ _ rfl Try.func12 (by kernel_rfl) #[.agg (tsC sq cl)] rfl _ hR ?_
  simp only [Act.put, pu]
  refine qw_value (by rfl) (.bool true) (x_eqb _ _ _ _ rfl b rfl rfl Try.underlying4) ?_
  simp only [Act.put, pu]
  refine qw_pick true (v := .bool true) (by rfl) rfl rfl rfl ?_
  simp only [Act.put, pu]
  refine qw_move (by rfl) rfl rfl ?_
  simp only [Act.put, pu]
  refine qw_loadm (by rfl) 23 _ rfl _ (0) rfl r7 ((tsC s x)) (part_all _) _ Try.underlying23 rfl size_st ?_
  simp only [Act.put, pu]
  refine qw_loadm (by rfl) 23 _ rfl _ (0) rfl r9 ((tsC s x)) (part_all _) _ Try.underlying23 rfl size_st ?_
  simp only [Act.put, pu]
  refine qw_value (by rfl) (.bool true) (exec_eql_st _ _ _ rfl s x s x rfl rfl true (by simp)) ?_
  simp only [Act.put, pu]
  refine qw_pick true (v := .bool true) (by rfl) rfl rfl rfl ?_
  simp only [Act.put, pu]
  refine qw_move (by rfl) rfl rfl ?_
  simp only [Act.put, pu]
  refine qw_move (by rfl) rfl rfl ?_
  simp only [Act.put, pu]
  refine qw_move (by rfl) rfl rfl ?_
  simp only [Act.put, pu]
  refine qw_value (by rfl) (.bool true) (exec_eql_k .i64 _ _ _ _ rfl (e) (e) rfl rfl true (decide_eq_true rfl)) ?_
  simp only [Act.put, pu]
  refine qw_pick true (v := .bool true) (by rfl) rfl rfl rfl ?_
  simp only [Act.put, pu]
  refine qw_move (by rfl) rfl rfl ?_
  simp only [Act.put, pu]
  refine qw_move (by rfl) rfl rfl ?_
  simp only [Act.put, pu]
  refine qw_value (by rfl) (.bool false) (exec_neq_k .i64 _ _ _ _ rfl (e) (0) rfl rfl false (by rw [decide_eq_true (by omega)]; rfl)) ?_
  simp only [Act.put, pu]
  refine qw_move (by rfl) rfl rfl ?_
  simp only [Act.put, pu]
  refine qw_loadm (by rfl) 23 _ rfl _ (0) rfl r7 ((tsC s x)) (part_all _) _ Try.underlying23 rfl size_st ?_
  simp only [Act.put, pu]
  refine qw_call (by rfl) 11 _ _ rfl Try.func11 (by kernel_rfl) #[.agg (tsC s x)] rfl _ hS ?_
  simp only [Act.put, pu]
  refine qw_pick false (v := .bool true) (by rfl) rfl rfl rfl ?_
  simp only [Act.put, pu]
  refine qw_pick true (v := .bool true) (by rfl) rfl rfl rfl ?_
  simp only [Act.put, pu]
  refine qw_move (by rfl) rfl rfl ?_
  simp only [Act.put, pu]
  refine qw_call (by rfl) 13 _ _ rfl Try.func13 (by kernel_rfl) #[] rfl _ awake_any ?_
  simp only [Act.put, pu]
  refine qw_pick true (v := .bool true) (by rfl) rfl rfl rfl ?_
  simp only [Act.put, pu]
  refine qw_asg (by rfl) rfl rfl ?_
  simp only [Act.put, pu]
  refine qw_nil ?_
  intro w9 hqb
  replace sb := below_on sb (Nat.le_refl _) hqb
  clear hqb
  go_wp2
  go_ret
  exact ⟨rfl, sb⟩
 ·clear hmy hS
  generalize nxS n cl = s at *
  generalize nxC n cl = x at *
  generalize nxE n cl = e at *
  go_enter Try.func3, Try.ntmps3
  have sb := sbmk w
  (repeat ((fail_if_success with_reducible refine rg ?_); go_step))
  refine wp_region_pw ?_
  refine pw_boxr (by rfl) 23 _ rfl (tsC sq cl) rfl ?_
  intro g3 z0 n0 r3 k
  simp only [Act.put, pu]
  have b3 := Nat.le_trans sb.size n0
  clear n0
  replace sb := sb.trans (k.below w.heap.size sb.size (by simp <;> omega))
  clear k
  refine pw_boxr (by rfl) 23 _ rfl (tsC sq2 cl2) rfl ?_
  intro g4 z1 n0 r4 k
  simp only [Act.put, pu]
  have d3x4 := Nat.lt_of_lt_of_le r3.lt n0
  have b4 := Nat.le_trans sb.size n0
  clear n0
  replace r3 := k.row r3 (by simp <;> omega)
  replace sb := sb.trans (k.below w.heap.size sb.size (by simp <;> omega))
  clear k
  refine pw_value (by rfl) (.bool false) (fun _ => rfl) ?_
  simp only [Act.put, pu]
  refine pw_nil ?_
  (repeat ((fail_if_success with_reducible refine rg ?_); go_step))
  refine wp_region_pw ?_
  refine pw_mv (by rfl) rfl rfl ?_
  simp only [Act.put, pu]
  refine pw_value (by rfl) (.pointer (some ⟨g3, 1, none⟩)) (exec_field 23 _ 1 rfl g3 0 rfl _ Try.underlying23 _ rfl 0 Try.sizeOf3) ?_
  simp only [Act.put, pu]
  refine pw_loadk (by rfl) 3 _ rfl _ (1) rfl r3.r (.int .i64 cl) rfl Try.isAgg3 ?_
  simp only [Act.put, pu]
  refine pw_callB (by rfl) 7 _ _ rfl Try.func7 (by kernel_rfl) #[.int .i64 n, .int .i64 cl] rfl _ (hA _) ?_
  intro z1003 k
  simp only [Act.put, pu]
  replace r3 := k.row r3 (by simp <;> omega)
  replace r4 := k.row r4 (by simp <;> omega)
  replace sb := sb.trans (k.below w.heap.size sb.size (by simp <;> omega))
  clear k
  refine pw_mv (by rfl) rfl rfl ?_
  simp only [Act.put, pu]
  refine pw_ext (by rfl) rfl rfl rfl ?_
  simp only [Act.put, pu]
  refine pw_ext (by rfl) rfl rfl rfl ?_
  simp only [Act.put, pu]
  refine pw_new (by rfl) 23 rfl _ zero_st ?_
  intro g7 z1007 n0 r7 k
  simp only [Act.put, pu]
  have d3x7 := Nat.lt_of_lt_of_le r3.lt n0
  have d4x7 := Nat.lt_of_lt_of_le r4.lt n0
  have b7 := Nat.le_trans sb.size n0
  clear n0
  replace r3 := k.row r3 (by simp <;> omega)
  replace r4 := k.row r4 (by simp <;> omega)
  replace sb := sb.trans (k.below w.heap.size sb.size (by simp <;> omega))
  clear k
  refine pw_put (by rfl) 23 _ _ rfl _ rfl r7 (tsC s x) rfl (by exact size_st) (by rfl) (st_one _ _) ?_
  clear r7
  intro z1008 r7 k
  simp only [Act.put]
  replace r3 := k.row r3 (by simp <;> omega)
  replace r4 := k.row r4 (by simp <;> omega)
  replace sb := sb.trans (k.below w.heap.size sb.size (by simp <;> omega))
  clear k
  refine pw_as (by rfl) rfl rfl ?_
  simp only [Act.put, pu]
  refine pw_nil ?_
  (repeat ((fail_if_success with_reducible refine rg ?_); go_step))
  refine wp_region_pw ?_
  refine pw_mv (by rfl) rfl rfl ?_
  simp only [Act.put, pu]
  refine pw_value (by rfl) (.pointer (some ⟨g3, 1, none⟩)) (exec_field 23 _ 1 rfl g3 0 rfl _ Try.underlying23 _ rfl 0 Try.sizeOf3) ?_
  simp only [Act.put, pu]
  refine pw_loadk (by rfl) 3 _ rfl _ (1) rfl r3.r (.int .i64 cl) rfl Try.isAgg3 ?_
  simp only [Act.put, pu]
  refine pw_callB (by rfl) 8 _ _ rfl Try.func8 (by kernel_rfl) #[.int .i64 n, .int .i64 cl] rfl _ (hB _) ?_
  intro z2003 k
  simp only [Act.put, pu]
  replace r3 := k.row r3 (by simp <;> omega)
  replace r4 := k.row r4 (by simp <;> omega)
  replace r7 := k.row r7 (by simp <;> omega)
  replace sb := sb.trans (k.below w.heap.size sb.size (by simp <;> omega))
  clear k
  refine pw_mv (by rfl) rfl rfl ?_
  simp only [Act.put, pu]
  refine pw_ext (by rfl) rfl rfl rfl ?_
  simp only [Act.put, pu]
  refine pw_ext (by rfl) rfl rfl rfl ?_
  simp only [Act.put, pu]
  refine pw_new (by rfl) 23 rfl _ zero_st ?_
  intro g9 z2007 n0 r9 k
  simp only [Act.put, pu]
  have d3x9 := Nat.lt_of_lt_of_le r3.lt n0
  have d4x9 := Nat.lt_of_lt_of_le r4.lt n0
  have d7x9 := Nat.lt_of_lt_of_le r7.lt n0
  have b9 := Nat.le_trans sb.size n0
  clear n0
  replace r3 := k.row r3 (by simp <;> omega)
  replace r4 := k.row r4 (by simp <;> omega)
  replace r7 := k.row r7 (by simp <;> omega)
  replace sb := sb.trans (k.below w.heap.size sb.size (by simp <;> omega))
  clear k
  refine pw_put (by rfl) 23 _ _ rfl _ rfl r9 (tsC s x) rfl (by exact size_st) (by rfl) (st_one _ _) ?_
  clear r9
  intro z2008 r9 k
  simp only [Act.put]
  replace r3 := k.row r3 (by simp <;> omega)
  replace r4 := k.row r4 (by simp <;> omega)
  replace r7 := k.row r7 (by simp <;> omega)
  replace sb := sb.trans (k.below w.heap.size sb.size (by simp <;> omega))
  clear k
  refine pw_as (by rfl) rfl rfl ?_
  simp only [Act.put, pu]
  refine pw_nil ?_
  (repeat ((fail_if_success with_reducible refine rg ?_); go_step))
  refine wp_region_qw (by kernel_rfl) (by kernel_rfl) ?_
  refine qw_loadm (by rfl) 23 _ rfl _ (0) rfl r3 ((tsC sq cl)) (part_all _) _ Try.underlying23 rfl size_st ?_
  simp only [Act.put, pu]
  refine qw_loadm (by rfl) 23 _ rfl _ (0) rfl r4 ((tsC sq2 cl2)) (part_all _) _ Try.underlying23 rfl size_st ?_
  simp only [Act.put, pu]
  refine qw_call (by rfl) 9 _ _ rfl Try.func9 (by kernel_rfl) #[.agg (tsC sq cl), .agg (tsC sq2 cl2)] rfl _ hP ?_
  simp only [Act.put, pu]
  refine qw_loadm (by rfl) 23 _ rfl _ (0) rfl r3 ((tsC sq cl)) (part_all _) _ Try.underlying23 rfl size_st ?_
  simp only [Act.put, pu]
  refine qw_loadm (by rfl) 23 _ rfl _ (0) rfl r4 ((tsC sq2 cl2)) (part_all _) _ Try.underlying23 rfl size_st ?_
  simp only [Act.put, pu]
  refine qw_call (by rfl) 10 _ _ rfl Try.func10 (by kernel_rfl) #[.agg (tsC sq cl), .agg (tsC sq2 cl2)] rfl _ hQ ?_
  simp only [Act.put, pu]
  refine qw_value (by rfl) (.bool true) (exec_eql_k .i64 _ _ _ _ rfl (z) (z) rfl rfl true (decide_eq_true rfl)) ?_
  simp only [Act.put, pu]
  refine qw_move (by rfl) rfl rfl ?_
  simp only [Act.put, pu]
  refine qw_loadm (by rfl) 23 _ rfl _ (0) rfl r3 ((tsC sq cl)) (part_all _) _ Try.underlying23 rfl size_st ?_
  simp only [Act.put, pu]
  refine qw_call (by rfl) 11 _ _ rfl Try.func11 (by kernel_rfl) #[.agg (tsC sq cl)] rfl _ hM ?_
  simp only [Act.put, pu]
  refine qw_loadm (by rfl) 23 _ rfl _ (0) rfl r3 ((tsC sq cl)) (part_all _) _ Try.underlying23 rfl size_st ?_
  simp only [Act.put, pu]
  refine qw_call (by rfl) 12 _ _ rfl Try.func12 (by kernel_rfl) #[.agg (tsC sq cl)] rfl _ hR ?_
  simp only [Act.put, pu]
  refine qw_value (by rfl) (.bool true) (x_eqb _ _ _ _ rfl b rfl rfl Try.underlying4) ?_
  simp only [Act.put, pu]
  refine qw_pick true (v := .bool true) (by rfl) rfl rfl rfl ?_
  simp only [Act.put, pu]
  refine qw_move (by rfl) rfl rfl ?_
  simp only [Act.put, pu]
  refine qw_loadm (by rfl) 23 _ rfl _ (0) rfl r7 ((tsC s x)) (part_all _) _ Try.underlying23 rfl size_st ?_
  simp only [Act.put, pu]
  refine qw_loadm (by rfl) 23 _ rfl _ (0) rfl r9 ((tsC s x)) (part_all _) _ Try.underlying23 rfl size_st ?_
  simp only [Act.put, pu]
  refine qw_value (by rfl) (.bool true) (exec_eql_st _ _ _ rfl s x s x rfl rfl true (by simp)) ?_
  simp only [Act.put, pu]
  refine qw_pick true (v := .bool true) (by rfl) rfl rfl rfl ?_
  simp only [Act.put, pu]
  refine qw_move (by rfl) rfl rfl ?_
  simp only [Act.put, pu]
  refine qw_move (by rfl) rfl rfl ?_
  simp only [Act.put, pu]
  refine qw_move (by rfl) rfl rfl ?_
  simp only [Act.put, pu]
  refine qw_value (by rfl) (.bool true) (exec_eql_k .i64 _ _ _ _ rfl (e) (e) rfl rfl true (decide_eq_true rfl)) ?_
  simp only [Act.put, pu]
  refine qw_pick true (v := .bool true) (by rfl) rfl rfl rfl ?_
  simp only [Act.put, pu]
  refine qw_move (by rfl) rfl rfl ?_
  simp only [Act.put, pu]
  refine qw_move (by rfl) rfl rfl ?_
  simp only [Act.put, pu]
  refine qw_value (by rfl) (.bool true) (exec_neq_k .i64 _ _ _ _ rfl (e) (0) rfl rfl true (by rw [decide_eq_false (by omega)]; rfl)) ?_
  simp only [Act.put, pu]
  refine qw_move (by rfl) rfl rfl ?_
  simp only [Act.put, pu]
  refine qw_skip (by rfl) ?_
  simp only [Act.put, pu]
  refine qw_skip (by rfl) ?_
  simp only [Act.put, pu]
  refine qw_pick true (v := .bool true) (by rfl) rfl rfl rfl ?_
  simp only [Act.put, pu]
  refine qw_pick true (v := .bool true) (by rfl) rfl rfl rfl ?_
  simp only [Act.put, pu]
  refine qw_move (by rfl) rfl rfl ?_
  simp only [Act.put, pu]
  refine qw_call (by rfl) 13 _ _ rfl Try.func13 (by kernel_rfl) #[] rfl _ awake_any ?_
  simp only [Act.put, pu]
  refine qw_pick true (v := .bool true) (by rfl) rfl rfl rfl ?_
  simp only [Act.put, pu]
  refine qw_asg (by rfl) rfl rfl ?_
  simp only [Act.put, pu]
  refine qw_nil ?_
  intro w9 hqb
  replace sb := below_on sb (Nat.le_refl _) hqb
  clear hqb
  go_wp2
  go_ret
  exact ⟨rfl, sb⟩
set_option maxRecDepth 100000 in
theorem lifted (os : Os) (started : os.Started) (H : Type) (enc : TypeId × Value → H) :
  ReturnsInHanded {} Try.checked os 3 .any (Rows.stampComparesSpec.pre6 enc Try.prog Try.f3 Rows.stampComparesRow.domain false) (Rows.stampComparesSpec.post enc Try.prog Try.f3 false true false false) := by
 refine returnsInHanded_of_change (C := Try.checked) own started (by kernel_rfl) Try.func3
  (ChangeSpec.witness6 (enc := enc) (C := Try.checked) false ⟨#[], #[.agg #[.int .i64 0, .int .i64 0], .agg #[.int .i64 0, .int .i64 0], .int .i64 0], []⟩ 8 (by kernel_rfl) (by kernel_rfl) (by kernel_rfl) (by kernel_rfl)) ?_
 intro W base args ds gs before hval0 hW hcnd _
 have hval : ∀ (j : Nat) t v, Try.f3.params[j]? = some t → args[j]? = some v → Value.okWide Try.prog W .any base t v := hval0
 have hW' := hW
 obtain ⟨p, q, hA0, hV, rfl, hfz, hnd⟩ := hW
 have hA : DataW.TrodAll enc Try.prog W 0 (fun _ => true) true Try.f3.params.toList args.toList ds p := hA0
 rw [Try.params3] at hA hval
 obtain ⟨v0, vs0, d0, ds0, p0, q0, hargs, rfl, rfl, h0, r0⟩ := trodAll_cons hA
 obtain ⟨v1, vs1, d1, ds1, p1, q1, rfl, rfl, rfl, h1, r1⟩ := trodAll_cons r0
 obtain ⟨v2, vs2, d2, ds2, p2, q2, rfl, rfl, rfl, h2, r2⟩ := trodAll_cons r1
 obtain ⟨rfl, rfl, rfl⟩ := trodAll_nil r2
 obtain rfl : args = #[v0, v1, v2] := by cases args; simp_all
 obtain ⟨rfl, rfl⟩ := trodVars_none hV
 have k0 := h0
 have lt0 := lt_of_trod h0
 obtain ⟨x0, y0, rfl⟩ := open_st (hval 0 23 v0 rfl rfl) h0
 have k1 := h1
 have lt1 := lt_of_trod h1
 obtain ⟨x1, y1, rfl⟩ := open_st (hval 1 23 v1 rfl rfl) h1
 have k2 := h2
 have lt2 := lt_of_trod h2
 obtain ⟨a2, rfl, rfl, rfl, w2⟩ := open_int Try.underlying3 (hval 2 3 v2 rfl rfl) h2
 clear hA0 hval0
 refine (walk x0 y0 x1 y1 a2 W (bounds_i64 w2)).mono fun e W' ⟨he, bel⟩ => ?_
 subst he
 exact ⟨_, rfl, _, _, _, [], _, [], hW', trodAll_mk1 (shut_bool Try.underlying4 _), (trodAll_cons_mk (Below.trod laidOut (by kernel_rfl) (of_decide_eq_true (by kernel_rfl)) k0 bel lt0) (trodAll_cons_mk (Below.trod laidOut (by kernel_rfl) (of_decide_eq_true (by kernel_rfl)) k1 bel lt1) (trodAll_cons_mk (Below.trod laidOut (by kernel_rfl) (of_decide_eq_true (by kernel_rfl)) k2 bel lt2) trodAll_mk0))), rfl, bel.frame _, fun h => by cases h⟩
theorem over : Rows.stampComparesRow.holds Try.pinned (OpenSpec.ofChange Rows.stampComparesSpec) :=
 OpenClaim.holds_of_wide 3 Try.f3 rfl rfl rfl rfl rfl rfl rfl ⟨rfl, rfl, rfl, rfl, rfl⟩ rfl rfl rfl rfl rfl (by kernel_rfl) Try.func3 (by kernel_rfl)
  (of_decide_eq_true (by kernel_rfl)) (by unfold Func.isWrapper; first | (rw [if_pos (by decide +kernel)]; kernel_rfl) | (rw [if_neg (by decide +kernel)]; exact ⟨rfl, rfl⟩))
  (fun os started H enc _ => lifted os started H enc)
end stampComparesP
/-- for any two stamps and any number: Compare, May and Next answer as the document says; no condition. -/
theorem stampCompares_holds : Rows.StampComparesSaid := stampComparesP.over
end Go.Proofs.Ytdgbjmolinoplaa
