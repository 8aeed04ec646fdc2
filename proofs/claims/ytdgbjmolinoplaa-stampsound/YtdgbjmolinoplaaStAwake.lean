/- What must come, whatever the arguments are (layer 20). -/
import Derived.Test.YtdgbjmolinoplaaStVou
namespace Go.Proofs.Ytdgbjmolinoplaa
open Go.RowKit
set_option linter.unusedVariables false
set_option linter.unusedSectionVars false
set_option linter.unusedSimpArgs false
set_option maxRecDepth 100000 in
set_option maxHeartbeats 2000000 in
theorem awake_any (w : World) :
  Calls Try.prog 13 #[] w fun e w' => e = .returned (.bool true) ∧ Below w.heap.size w w' := by
 obtain ⟨ie, hie, hze, hsz, _⟩ := info_int'
 have q1 : ¬ 4 * ie.size > 2 ^ 24 := by rw [hsz]; decide
 have q2 : ¬ 4 * ie.size = 0 := by rw [hsz]; decide
 have hl := fun a b c d => lit_z4 a b c d ie.size hsz
 have hA := fun w' g (r : Row w' g #[.int .i64 (9), .int .i64 (5), .int .i64 (4), .int .i64 (4)] 3) => vou_any 1 (some ⟨g, 0, none⟩) 4 4 (z4 (9) (5) (4) (4)) g 0 _ _ w' (zs_rowR r (z4_c _ _ _ _)) (by decide)
 rw [show voV 1 4 (z4 (9) (5) (4) (4)) = 5 by decide, show voB 1 4 (z4 (9) (5) (4) (4)) = true by decide] at hA
 have hB := fun w' g (r : Row w' g #[.int .i64 (5), .int .i64 (5), .int .i64 (4), .int .i64 (-1)] 3) => vou_any 1 (some ⟨g, 0, none⟩) 4 4 (z4 (5) (5) (4) (-1)) g 0 _ _ w' (zs_rowR r (z4_c _ _ _ _)) (by decide)
 rw [show voV 1 4 (z4 (5) (5) (4) (-1)) = 5 by decide, show voB 1 4 (z4 (5) (5) (4) (-1)) = true by decide] at hB
 have hC := fun w' g (r : Row w' g #[.int .i64 (5), .int .i64 (6), .int .i64 (-1), .int .i64 (-1)] 3) => vou_any 1 (some ⟨g, 0, none⟩) 4 4 (z4 (5) (6) (-1) (-1)) g 0 _ _ w' (zs_rowR r (z4_c _ _ _ _)) (by decide)
 rw [show voV 1 4 (z4 (5) (6) (-1) (-1)) = 0 by decide, show voB 1 4 (z4 (5) (6) (-1) (-1)) = false by decide] at hC
 have hN := fun w' => snx_any 4 2 w'
 rw [show nxS 4 2 = 5 by decide, show nxC 4 2 = 2 by decide, show nxE 4 2 = 0 by decide] at hN
 have hP := fun w' => scmp_any 5 2 5 1 w'
 rw [show cpS 5 2 5 1 = 1 by decide] at hP
 have hM := fun w' => smay_any 5 2 w'
 rw [show stB 5 2 = true by decide] at hM
 go_enter Try.func13, Try.ntmps13
 have sb := sbmk w
 (repeat ((fail_if_success with_reducible refine rg ?_); go_step))
 refine wp_region_pw ?_
 refine pw_value (by rfl) (.bool false) (fun _ => rfl) ?_
 simp only [Act.put, List.setIfInBounds_toArray, List.set_cons_zero]
 refine pw_nil ?_
 (repeat ((fail_if_success with_reducible refine rg ?_); go_step))
 refine wp_region_pw ?_
 refine pw_litr (by rfl) 31 3 4 _ rfl #[.int .i64 (9), .int .i64 (5), .int .i64 (4), .int .i64 (4)] ie _ Try.underlying31 hie hze q1 q2 [(0, .int .i64 (9)), (1, .int .i64 (5)), (2, .int .i64 (4)), (3, .int .i64 (4))] rfl (hl _ _ _ _) ?_
 intro gA z1000 n0 rA k
 simp only [Act.put, pu]
 have bA := Nat.le_trans sb.size n0
 clear n0
 replace sb := sb.trans (k.below w.heap.size sb.size (by simp <;> omega))
 clear k
 refine pw_callB (by rfl) 14 _ _ rfl Try.func14 (by kernel_rfl) #[.int .i64 1, .slice (some ⟨gA, 0, none⟩) 4 4] rfl _ (hA _ gA rA) ?_
 intro z1001 k
 simp only [Act.put, pu]
 replace rA := k.row rA (by simp <;> omega)
 replace sb := sb.trans (k.below w.heap.size sb.size (by simp <;> omega))
 clear k
 refine pw_mv (by rfl) rfl rfl ?_
 simp only [Act.put, pu]
 refine pw_ext (by rfl) rfl rfl rfl ?_
 simp only [Act.put, pu]
 refine pw_ext (by rfl) rfl rfl rfl ?_
 simp only [Act.put, pu]
 refine pw_as (by rfl) rfl rfl ?_
 simp only [Act.put, pu]
 refine pw_as (by rfl) rfl rfl ?_
 simp only [Act.put, pu]
 refine pw_nil ?_
 (repeat ((fail_if_success with_reducible refine rg ?_); go_step))
 refine wp_region_pw ?_
 refine pw_litr (by rfl) 31 3 4 _ rfl #[.int .i64 (5), .int .i64 (5), .int .i64 (4), .int .i64 (-1)] ie _ Try.underlying31 hie hze q1 q2 [(0, .int .i64 (5)), (1, .int .i64 (5)), (2, .int .i64 (4)), (3, .int .i64 (-1))] rfl (hl _ _ _ _) ?_
 intro gB z2000 n0 rB k
 simp only [Act.put, pu]
 have bB := Nat.le_trans sb.size n0
 clear n0
 replace sb := sb.trans (k.below w.heap.size sb.size (by simp <;> omega))
 clear k
 refine pw_callB (by rfl) 14 _ _ rfl Try.func14 (by kernel_rfl) #[.int .i64 1, .slice (some ⟨gB, 0, none⟩) 4 4] rfl _ (hB _ gB rB) ?_
 intro z2001 k
 simp only [Act.put, pu]
 replace rB := k.row rB (by simp <;> omega)
 replace sb := sb.trans (k.below w.heap.size sb.size (by simp <;> omega))
 clear k
 refine pw_mv (by rfl) rfl rfl ?_
 simp only [Act.put, pu]
 refine pw_ext (by rfl) rfl rfl rfl ?_
 simp only [Act.put, pu]
 refine pw_ext (by rfl) rfl rfl rfl ?_
 simp only [Act.put, pu]
 refine pw_as (by rfl) rfl rfl ?_
 simp only [Act.put, pu]
 refine pw_as (by rfl) rfl rfl ?_
 simp only [Act.put, pu]
 refine pw_nil ?_
 (repeat ((fail_if_success with_reducible refine rg ?_); go_step))
 refine wp_region_pw ?_
 refine pw_litr (by rfl) 31 3 4 _ rfl #[.int .i64 (5), .int .i64 (6), .int .i64 (-1), .int .i64 (-1)] ie _ Try.underlying31 hie hze q1 q2 [(0, .int .i64 (5)), (1, .int .i64 (6)), (2, .int .i64 (-1)), (3, .int .i64 (-1))] rfl (hl _ _ _ _) ?_
 intro gC z3000 n0 rC k
 simp only [Act.put, pu]
 have bC := Nat.le_trans sb.size n0
 clear n0
 replace sb := sb.trans (k.below w.heap.size sb.size (by simp <;> omega))
 clear k
 refine pw_callB (by rfl) 14 _ _ rfl Try.func14 (by kernel_rfl) #[.int .i64 1, .slice (some ⟨gC, 0, none⟩) 4 4] rfl _ (hC _ gC rC) ?_
 intro z3001 k
 simp only [Act.put, pu]
 replace rC := k.row rC (by simp <;> omega)
 replace sb := sb.trans (k.below w.heap.size sb.size (by simp <;> omega))
 clear k
 refine pw_mv (by rfl) rfl rfl ?_
 simp only [Act.put, pu]
 refine pw_ext (by rfl) rfl rfl rfl ?_
 simp only [Act.put, pu]
 refine pw_ext (by rfl) rfl rfl rfl ?_
 simp only [Act.put, pu]
 refine pw_as (by rfl) rfl rfl ?_
 simp only [Act.put, pu]
 refine pw_as (by rfl) rfl rfl ?_
 simp only [Act.put, pu]
 refine pw_nil ?_
 (repeat ((fail_if_success with_reducible refine rg ?_); go_step))
 refine wp_region_pw ?_
 refine pw_callB (by rfl) 7 _ _ rfl Try.func7 (by kernel_rfl) #[.int .i64 4, .int .i64 2] rfl _ (hN _) ?_
 intro z4000 k
 simp only [Act.put, pu]
 replace sb := sb.trans (k.below w.heap.size sb.size (by simp <;> omega))
 clear k
 refine pw_mv (by rfl) rfl rfl ?_
 simp only [Act.put, pu]
 refine pw_ext (by rfl) rfl rfl rfl ?_
 simp only [Act.put, pu]
 refine pw_ext (by rfl) rfl rfl rfl ?_
 simp only [Act.put, pu]
 refine pw_new (by rfl) 23 rfl _ zero_st ?_
 intro g7 z4004 n0 r7 k
 simp only [Act.put, pu]
 have b7 := Nat.le_trans sb.size n0
 clear n0
 replace sb := sb.trans (k.below w.heap.size sb.size (by simp <;> omega))
 clear k
 refine pw_put (by rfl) 23 _ _ rfl _ rfl r7 (tsC 5 2) rfl (by exact size_st) (by rfl) (st_one _ _) ?_
 clear r7
 intro z4005 r7 k
 simp only [Act.put]
 replace sb := sb.trans (k.below w.heap.size sb.size (by simp <;> omega))
 clear k
 refine pw_as (by rfl) rfl rfl ?_
 simp only [Act.put, pu]
 refine pw_nil ?_
 (repeat ((fail_if_success with_reducible refine rg ?_); go_step))
 refine wp_region_pw ?_
 refine pw_mv (by rfl) rfl rfl ?_
 simp only [Act.put, pu]
 refine pw_value (by rfl) (.bool true) (exec_eql_k .i64 _ _ _ _ rfl (5) (5) rfl rfl true (decide_eq_true rfl)) ?_
 simp only [Act.put, pu]
 refine pw_mv (by rfl) rfl rfl ?_
 simp only [Act.put, pu]
 refine pw_mv (by rfl) rfl rfl ?_
 simp only [Act.put, pu]
 refine pw_pick (by rfl) true (v := .bool true) rfl rfl rfl ?_
 simp only [Act.put, pu]
 refine pw_mv (by rfl) rfl rfl ?_
 simp only [Act.put, pu]
 refine pw_mv (by rfl) rfl rfl ?_
 simp only [Act.put, pu]
 refine pw_value (by rfl) (.bool true) (exec_eql_k .i64 _ _ _ _ rfl (5) (5) rfl rfl true (decide_eq_true rfl)) ?_
 simp only [Act.put, pu]
 refine pw_pick (by rfl) true (v := .bool true) rfl rfl rfl ?_
 simp only [Act.put, pu]
 refine pw_mv (by rfl) rfl rfl ?_
 simp only [Act.put, pu]
 refine pw_mv (by rfl) rfl rfl ?_
 simp only [Act.put, pu]
 refine pw_pick (by rfl) true (v := .bool true) rfl rfl rfl ?_
 simp only [Act.put, pu]
 refine pw_mv (by rfl) rfl rfl ?_
 simp only [Act.put, pu]
 refine pw_mv (by rfl) rfl rfl ?_
 simp only [Act.put, pu]
 refine pw_value (by rfl) (.bool true) (exec_not _ _ rfl false rfl) ?_
 simp only [Act.put, pu]
 refine pw_pick (by rfl) true (v := .bool true) rfl rfl rfl ?_
 simp only [Act.put, pu]
 refine pw_mv (by rfl) rfl rfl ?_
 simp only [Act.put, pu]
 refine pw_loadm (by rfl) 23 _ rfl _ 0 rfl r7.r _ (part_all _) _ Try.underlying23 rfl size_st ?_
 simp only [Act.put, pu]
 refine pw_value (by rfl) (.agg (tsC 5 2)) (exec_buildv _ [(0, _), (1, _)] rfl [(0, .int .i64 5), (1, .int .i64 2)] rfl _ (built_st _ _)) ?_
 simp only [Act.put, pu]
 refine pw_value (by rfl) (.bool true) (exec_eql_st _ _ _ rfl 5 2 5 2 rfl rfl true (by decide)) ?_
 simp only [Act.put, pu]
 refine pw_pick (by rfl) true (v := .bool true) rfl rfl rfl ?_
 simp only [Act.put, pu]
 refine pw_mv (by rfl) rfl rfl ?_
 simp only [Act.put, pu]
 refine pw_mv (by rfl) rfl rfl ?_
 simp only [Act.put, pu]
 refine pw_value (by rfl) (.bool true) (exec_eql_k .i64 _ _ _ _ rfl (0) (0) rfl rfl true (decide_eq_true rfl)) ?_
 simp only [Act.put, pu]
 refine pw_pick (by rfl) true (v := .bool true) rfl rfl rfl ?_
 simp only [Act.put, pu]
 refine pw_mv (by rfl) rfl rfl ?_
 simp only [Act.put, pu]
 refine pw_loadm (by rfl) 23 _ rfl _ 0 rfl r7.r _ (part_all _) _ Try.underlying23 rfl size_st ?_
 simp only [Act.put, pu]
 refine pw_value (by rfl) (.agg (tsC 5 1)) (exec_buildv _ [(0, _), (1, _)] rfl [(0, .int .i64 5), (1, .int .i64 1)] rfl _ (built_st _ _)) ?_
 simp only [Act.put, pu]
 refine pw_callB (by rfl) 9 _ _ rfl Try.func9 (by kernel_rfl) #[.agg (tsC 5 2), .agg (tsC 5 1)] rfl _ (hP _) ?_
 intro z5028 k
 simp only [Act.put, pu]
 replace r7 := k.row r7 (by simp <;> omega)
 replace sb := sb.trans (k.below w.heap.size sb.size (by simp <;> omega))
 clear k
 refine pw_value (by rfl) (.bool true) (exec_eql_k .i64 _ _ _ _ rfl (1) (1) rfl rfl true (decide_eq_true rfl)) ?_
 simp only [Act.put, pu]
 refine pw_pick (by rfl) true (v := .bool true) rfl rfl rfl ?_
 simp only [Act.put, pu]
 refine pw_mv (by rfl) rfl rfl ?_
 simp only [Act.put, pu]
 refine pw_loadm (by rfl) 23 _ rfl _ 0 rfl r7.r _ (part_all _) _ Try.underlying23 rfl size_st ?_
 simp only [Act.put, pu]
 refine pw_callB (by rfl) 11 _ _ rfl Try.func11 (by kernel_rfl) #[.agg (tsC 5 2)] rfl _ (hM _) ?_
 intro z5033 k
 simp only [Act.put, pu]
 replace r7 := k.row r7 (by simp <;> omega)
 replace sb := sb.trans (k.below w.heap.size sb.size (by simp <;> omega))
 clear k
 refine pw_pick (by rfl) true (v := .bool true) rfl rfl rfl ?_
 simp only [Act.put, pu]
 refine pw_as (by rfl) rfl rfl ?_
 simp only [Act.put, List.setIfInBounds_toArray, List.set_cons_zero]
 refine pw_nil ?_
 go_wp2
 go_ret
 exact ⟨rfl, sb⟩
end Go.Proofs.Ytdgbjmolinoplaa
