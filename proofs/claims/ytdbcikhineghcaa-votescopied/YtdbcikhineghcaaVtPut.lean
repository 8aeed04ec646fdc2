/- votes' Put, Count, At, Copy. -/
import Derived.Test.YtdbcikhineghcaaVtFun
namespace Go.Proofs.Ytdbcikhineghcaa
open Go.RowKit
set_option linter.unusedVariables false
set_option linter.unusedSectionVars false
set_option linter.unusedSimpArgs false
theorem Kept.moreB {S T : List Nat} {w w2 : World} (h : Kept S w w2) (hs : ∀ g ∈ S, g ∈ T) : Kept T w w2 := ⟨h.os, h.tape, h.output, h.size, fun b hb hn => h.block b hb fun hm => hn (hs b hm)⟩
theorem keptB {g : Nat} {w w2 : World} (h : Below w.heap.size w w2) : Kept [g] w w2 := (Kept.ofBelow h).moreB (by simp)
set_option maxRecDepth 100000 in
set_option maxHeartbeats 2000000 in
theorem put_nil (k s c : Int) (d : List UInt8) (w : World) :
  Calls Try.prog 10 #[.pointer none, .int .i64 k, .agg (tsC s c), .string ⟨d.toArray⟩] w fun e w' => e = .returned (.bool false) ∧ Below w.heap.size w w' := by
 have hP := fun w' => par_any s c w'
 have hL := fun w' (hb : Below w.heap.size w w') => place_nil k c (s % 2) w'
 go_enter Try.func10, Try.ntmps10
 have sb := sbmk w
 (repeat ((fail_if_success with_reducible refine rg ?_); go_step))
 refine wp_region_pw ?_
 refine pw_boxr (by rfl) 32 _ rfl (tsC s c) rfl ?_
 intro g6 z0 n0 r6 k
 simp only [Act.put, pu]
 have b6 := Nat.le_trans sb.size n0
 clear n0
 replace sb := sb.trans (k.below w.heap.size sb.size (by simp <;> omega))
 clear k
 refine pw_value (by rfl) (.bool false) (fun _ => rfl) ?_
 simp only [Act.put, pu]
 refine pw_nil ?_
 (repeat ((fail_if_success with_reducible refine rg ?_); go_step))
 refine wp_region_qw (by kernel_rfl) (by kernel_rfl) ?_
 refine qw_move (by rfl) rfl rfl ?_
 simp only [Act.put, pu]
 refine qw_move (by rfl) rfl rfl ?_
 simp only [Act.put, pu]
 refine qw_value (by rfl) (.pointer (some ⟨g6, 1, none⟩)) (exec_field 32 _ 1 rfl g6 0 rfl _ Try.underlying32 _ rfl 0 Try.sizeOf3) ?_
 simp only [Act.put, pu]
 refine qw_loadc (by rfl) 3 _ rfl _ (1) rfl r6 (.int .i64 c) rfl Try.isAgg3 ?_
 simp only [Act.put, pu]
 refine qw_loadm (by rfl) 32 _ rfl _ (0) rfl r6 ((tsC s c)) (part_all _) _ Try.underlying32 rfl size_st ?_
 simp only [Act.put, pu]
 refine qw_call (by rfl) 20 _ _ rfl Try.func20 (by kernel_rfl) #[.agg (tsC s c)] rfl _ hP ?_
 simp only [Act.put, pu]
 refine qw_callK (by rfl) 19 _ _ rfl Try.func19 (by kernel_rfl) #[.pointer none, .int .i64 k, .int .i64 c, .int .i64 (s % 2)] rfl _ (fun w' hb => hL w' (below_on sb (Nat.le_refl _) hb)) ?_
 simp only [Act.put, pu]
 refine qw_asg (by rfl) rfl rfl ?_
 simp only [Act.put, pu]
 refine qw_nil ?_
 intro w9 hqb
 replace r6 := r6.belowAll hqb
 replace sb := below_on sb (Nat.le_refl _) hqb
 clear hqb
 (repeat ((fail_if_success with_reducible refine rg ?_); go_step))
 refine wp_region_qw (by kernel_rfl) (by kernel_rfl) ?_
 refine qw_move (by rfl) rfl rfl ?_
 simp only [Act.put, pu]
 refine qw_value (by rfl) (.bool true) (exec_eql_nilp _ _ _ _ rfl (none) rfl rfl ptr_vo) ?_
 simp only [Act.put, pu]
 refine qw_move (by rfl) rfl rfl ?_
 simp only [Act.put, pu]
 refine qw_skip (by rfl) ?_
 simp only [Act.put, pu]
 refine qw_skip (by rfl) ?_
 simp only [Act.put, pu]
 refine qw_skip (by rfl) ?_
 simp only [Act.put, pu]
 refine qw_pick true (v := .bool true) (by rfl) rfl rfl rfl ?_
 simp only [Act.put, pu]
 refine qw_move (by rfl) rfl rfl ?_
 simp only [Act.put, pu]
 refine qw_skip (by rfl) ?_
 simp only [Act.put, pu]
 refine qw_skip (by rfl) ?_
 simp only [Act.put, pu]
 refine qw_skip (by rfl) ?_
 simp only [Act.put, pu]
 refine qw_skip (by rfl) ?_
 simp only [Act.put, pu]
 refine qw_skip (by rfl) ?_
 simp only [Act.put, pu]
 refine qw_skip (by rfl) ?_
 simp only [Act.put, pu]
 refine qw_skip (by rfl) ?_
 simp only [Act.put, pu]
 refine qw_skip (by rfl) ?_
 simp only [Act.put, pu]
 refine qw_pick true (v := .bool true) (by rfl) rfl rfl rfl ?_
 simp only [Act.put, pu]
 refine qw_nil ?_
 intro w8 hqb
 replace r6 := r6.belowAll hqb
 replace sb := below_on sb (Nat.le_refl _) hqb
 clear hqb
 (repeat ((fail_if_success with_reducible refine rg ?_); go_step))
 refine wp_region_pw ?_
 refine pw_value (by rfl) (.bool false) (fun _ => rfl) ?_
 simp only [Act.put, pu]
 refine pw_nil ?_
 go_wp2
 go_ret
 exact ⟨rfl, sb⟩
set_option maxRecDepth 100000 in
set_option maxHeartbeats 2000000 in
theorem put_no (g1 : Nat) (n : Int) (V : Nat → Vt) (k s c : Int) (d : List UInt8) (w : World) (r1 : Row w g1 (voC n V) 51) (h : plB n k c (s % 2) = false) :
  Calls Try.prog 10 #[.pointer (some ⟨g1, 0, none⟩), .int .i64 k, .agg (tsC s c), .string ⟨d.toArray⟩] w fun e w' => e = .returned (.bool false) ∧ Below w.heap.size w w' := by
 have hP := fun w' => par_any s c w'
 have hL := fun w' (hb : Below w.heap.size w w') => place_no g1 n V k c (s % 2) w' (r1.belowAll hb) h
 clear r1 h
 go_enter Try.func10, Try.ntmps10
 have sb := sbmk w
 (repeat ((fail_if_success with_reducible refine rg ?_); go_step))
 refine wp_region_pw ?_
 refine pw_boxr (by rfl) 32 _ rfl (tsC s c) rfl ?_
 intro g6 z0 n0 r6 k
 simp only [Act.put, pu]
 have b6 := Nat.le_trans sb.size n0
 clear n0
 replace sb := sb.trans (k.below w.heap.size sb.size (by simp <;> omega))
 clear k
 refine pw_value (by rfl) (.bool false) (fun _ => rfl) ?_
 simp only [Act.put, pu]
 refine pw_nil ?_
 (repeat ((fail_if_success with_reducible refine rg ?_); go_step))
 refine wp_region_qw (by kernel_rfl) (by kernel_rfl) ?_
 refine qw_move (by rfl) rfl rfl ?_
 simp only [Act.put, pu]
 refine qw_move (by rfl) rfl rfl ?_
 simp only [Act.put, pu]
 refine qw_value (by rfl) (.pointer (some ⟨g6, 1, none⟩)) (exec_field 32 _ 1 rfl g6 0 rfl _ Try.underlying32 _ rfl 0 Try.sizeOf3) ?_
 simp only [Act.put, pu]
 refine qw_loadc (by rfl) 3 _ rfl _ (1) rfl r6 (.int .i64 c) rfl Try.isAgg3 ?_
 simp only [Act.put, pu]
 refine qw_loadm (by rfl) 32 _ rfl _ (0) rfl r6 ((tsC s c)) (part_all _) _ Try.underlying32 rfl size_st ?_
 simp only [Act.put, pu]
 refine qw_call (by rfl) 20 _ _ rfl Try.func20 (by kernel_rfl) #[.agg (tsC s c)] rfl _ hP ?_
 simp only [Act.put, pu]
 refine qw_callK (by rfl) 19 _ _ rfl Try.func19 (by kernel_rfl) #[.pointer (some ⟨g1, 0, none⟩), .int .i64 k, .int .i64 c, .int .i64 (s % 2)] rfl _ (fun w' hb => hL w' (below_on sb (Nat.le_refl _) hb)) ?_
 simp only [Act.put, pu]
 refine qw_asg (by rfl) rfl rfl ?_
 simp only [Act.put, pu]
 refine qw_nil ?_
 intro w9 hqb
 replace r6 := r6.belowAll hqb
 replace sb := below_on sb (Nat.le_refl _) hqb
 clear hqb
 (repeat ((fail_if_success with_reducible refine rg ?_); go_step))
 refine wp_region_qw (by kernel_rfl) (by kernel_rfl) ?_
 refine qw_move (by rfl) rfl rfl ?_
 simp only [Act.put, pu]
 refine qw_value (by rfl) (.bool true) (exec_eql_nilp _ _ _ _ rfl (none) rfl rfl ptr_vo) ?_
 simp only [Act.put, pu]
 refine qw_move (by rfl) rfl rfl ?_
 simp only [Act.put, pu]
 refine qw_skip (by rfl) ?_
 simp only [Act.put, pu]
 refine qw_skip (by rfl) ?_
 simp only [Act.put, pu]
 refine qw_skip (by rfl) ?_
 simp only [Act.put, pu]
 refine qw_pick true (v := .bool true) (by rfl) rfl rfl rfl ?_
 simp only [Act.put, pu]
 refine qw_move (by rfl) rfl rfl ?_
 simp only [Act.put, pu]
 refine qw_skip (by rfl) ?_
 simp only [Act.put, pu]
 refine qw_skip (by rfl) ?_
 simp only [Act.put, pu]
 refine qw_skip (by rfl) ?_
 simp only [Act.put, pu]
 refine qw_skip (by rfl) ?_
 simp only [Act.put, pu]
 refine qw_skip (by rfl) ?_
 simp only [Act.put, pu]
 refine qw_skip (by rfl) ?_
 simp only [Act.put, pu]
 refine qw_skip (by rfl) ?_
 simp only [Act.put, pu]
 refine qw_skip (by rfl) ?_
 simp only [Act.put, pu]
 refine qw_pick true (v := .bool true) (by rfl) rfl rfl rfl ?_
 simp only [Act.put, pu]
 refine qw_nil ?_
 intro w8 hqb
 replace r6 := r6.belowAll hqb
 replace sb := below_on sb (Nat.le_refl _) hqb
 clear hqb
 (repeat ((fail_if_success with_reducible refine rg ?_); go_step))
 refine wp_region_pw ?_
 refine pw_value (by rfl) (.bool false) (fun _ => rfl) ?_
 simp only [Act.put, pu]
 refine pw_nil ?_
 go_wp2
 go_ret
 exact ⟨rfl, sb⟩
set_option maxRecDepth 100000 in
set_option maxHeartbeats 2000000 in
theorem put_may (g1 : Nat) (n : Int) (V : Nat → Vt) (k s c : Int) (d : List UInt8) (i : Nat) (w : World) (hL : ∀ w', Below w.heap.size w w' → Calls Try.prog 19 #[.pointer (some ⟨g1, 0, none⟩), .int .i64 k, .int .i64 c, .int .i64 (s % 2)] w' fun e w2 => e = .returned (.pointer (some ⟨g1, 1 + i * 3, none⟩)) ∧ Below w'.heap.size w' w2) (r1 : Row w g1 (voC n V) 51) (h : stB s c = false) :
  Calls Try.prog 10 #[.pointer (some ⟨g1, 0, none⟩), .int .i64 k, .agg (tsC s c), .string ⟨d.toArray⟩] w fun e w' => e = .returned (.bool false) ∧ Below w.heap.size w w' := by
 have hP := fun w' => par_any s c w'
 have hY := fun w' => smay_any s c w'
 rw [h] at hY
 clear h
 go_enter Try.func10, Try.ntmps10
 have sb := sbmk w
 (repeat ((fail_if_success with_reducible refine rg ?_); go_step))
 refine wp_region_pw ?_
 refine pw_boxr (by rfl) 32 _ rfl (tsC s c) rfl ?_
 intro g6 z0 n0 r6 k
 simp only [Act.put, pu]
 have d1x6 := Nat.lt_of_lt_of_le r1.lt n0
 have b6 := Nat.le_trans sb.size n0
 clear n0
 replace r1 := k.row r1 (by simp <;> omega)
 replace sb := sb.trans (k.below w.heap.size sb.size (by simp <;> omega))
 clear k
 refine pw_value (by rfl) (.bool false) (fun _ => rfl) ?_
 simp only [Act.put, pu]
 refine pw_nil ?_
 (repeat ((fail_if_success with_reducible refine rg ?_); go_step))
 refine wp_region_qw (by kernel_rfl) (by kernel_rfl) ?_
 refine qw_move (by rfl) rfl rfl ?_
 simp only [Act.put, pu]
 refine qw_move (by rfl) rfl rfl ?_
 simp only [Act.put, pu]
 refine qw_value (by rfl) (.pointer (some ⟨g6, 1, none⟩)) (exec_field 32 _ 1 rfl g6 0 rfl _ Try.underlying32 _ rfl 0 Try.sizeOf3) ?_
 simp only [Act.put, pu]
 refine qw_loadc (by rfl) 3 _ rfl _ (1) rfl r6 (.int .i64 c) rfl Try.isAgg3 ?_
 simp only [Act.put, pu]
 refine qw_loadm (by rfl) 32 _ rfl _ (0) rfl r6 ((tsC s c)) (part_all _) _ Try.underlying32 rfl size_st ?_
 simp only [Act.put, pu]
 refine qw_call (by rfl) 20 _ _ rfl Try.func20 (by kernel_rfl) #[.agg (tsC s c)] rfl _ hP ?_
 simp only [Act.put, pu]
 refine qw_callK (by rfl) 19 _ _ rfl Try.func19 (by kernel_rfl) #[.pointer (some ⟨g1, 0, none⟩), .int .i64 k, .int .i64 c, .int .i64 (s % 2)] rfl _ (fun w' hb => hL w' (below_on sb (Nat.le_refl _) hb)) ?_
 simp only [Act.put, pu]
 refine qw_asg (by rfl) rfl rfl ?_
 simp only [Act.put, pu]
 refine qw_nil ?_
 intro w9 hqb
 replace r1 := r1.belowAll hqb
 replace r6 := r6.belowAll hqb
 replace sb := below_on sb (Nat.le_refl _) hqb
 clear hqb
 (repeat ((fail_if_success with_reducible refine rg ?_); go_step))
 refine wp_region_qw (by kernel_rfl) (by kernel_rfl) ?_
 refine qw_move (by rfl) rfl rfl ?_
 simp only [Act.put, pu]
 refine qw_value (by rfl) (.bool false) (exec_eql_nilp _ _ _ _ rfl (some ⟨g1, 1 + i * 3, none⟩) rfl rfl ptr_vo) ?_
 simp only [Act.put, pu]
 refine qw_move (by rfl) rfl rfl ?_
 simp only [Act.put, pu]
 refine qw_loadm (by rfl) 32 _ rfl _ (0) rfl r6 ((tsC s c)) (part_all _) _ Try.underlying32 rfl size_st ?_
 simp only [Act.put, pu]
 refine qw_call (by rfl) 21 _ _ rfl Try.func21 (by kernel_rfl) #[.agg (tsC s c)] rfl _ hY ?_
 simp only [Act.put, pu]
 refine qw_value (by rfl) (.bool true) (exec_not _ _ rfl false rfl) ?_
 simp only [Act.put, pu]
 refine qw_pick false (v := .bool true) (by rfl) rfl rfl rfl ?_
 simp only [Act.put, pu]
 refine qw_move (by rfl) rfl rfl ?_
 simp only [Act.put, pu]
 refine qw_skip (by rfl) ?_
 simp only [Act.put, pu]
 refine qw_skip (by rfl) ?_
 simp only [Act.put, pu]
 refine qw_skip (by rfl) ?_
 simp only [Act.put, pu]
 refine qw_skip (by rfl) ?_
 simp only [Act.put, pu]
 refine qw_skip (by rfl) ?_
 simp only [Act.put, pu]
 refine qw_skip (by rfl) ?_
 simp only [Act.put, pu]
 refine qw_skip (by rfl) ?_
 simp only [Act.put, pu]
 refine qw_skip (by rfl) ?_
 simp only [Act.put, pu]
 refine qw_pick true (v := .bool true) (by rfl) rfl rfl rfl ?_
 simp only [Act.put, pu]
 refine qw_nil ?_
 intro w8 hqb
 replace r6 := r6.belowAll hqb
 replace sb := below_on sb (Nat.le_refl _) hqb
 clear hqb
 (repeat ((fail_if_success with_reducible refine rg ?_); go_step))
 refine wp_region_pw ?_
 refine pw_value (by rfl) (.bool false) (fun _ => rfl) ?_
 simp only [Act.put, pu]
 refine pw_nil ?_
 go_wp2
 go_ret
 exact ⟨rfl, sb⟩
set_option maxRecDepth 100000 in
set_option maxHeartbeats 2000000 in
theorem put_old (g1 : Nat) (n : Int) (V : Nat → Vt) (k s c : Int) (d : List UInt8) (i : Nat) (q : Int) (w : World) (hL : ∀ w', Below w.heap.size w w' → Calls Try.prog 19 #[.pointer (some ⟨g1, 0, none⟩), .int .i64 k, .int .i64 c, .int .i64 (s % 2)] w' fun e w2 => e = .returned (.pointer (some ⟨g1, 1 + i * 3, none⟩)) ∧ Below w'.heap.size w' w2) (r1 : Row w g1 (voC n V) 51) (h : stB s c = true) (hq : (voC n V)[1 + i * 3]? = some (.int .i64 q)) (hqs : s ≤ q) :
  Calls Try.prog 10 #[.pointer (some ⟨g1, 0, none⟩), .int .i64 k, .agg (tsC s c), .string ⟨d.toArray⟩] w fun e w' => e = .returned (.bool false) ∧ Below w.heap.size w w' := by
 have hP := fun w' => par_any s c w'
 have hY := fun w' => smay_any s c w'
 rw [h] at hY
 clear h
 go_enter Try.func10, Try.ntmps10
 have sb := sbmk w
 (repeat ((fail_if_success with_reducible refine rg ?_); go_step))
 refine wp_region_pw ?_
 refine pw_boxr (by rfl) 32 _ rfl (tsC s c) rfl ?_
 intro g6 z0 n0 r6 k
 simp only [Act.put, pu]
 have d1x6 := Nat.lt_of_lt_of_le r1.lt n0
 have b6 := Nat.le_trans sb.size n0
 clear n0
 replace r1 := k.row r1 (by simp <;> omega)
 replace sb := sb.trans (k.below w.heap.size sb.size (by simp <;> omega))
 clear k
 refine pw_value (by rfl) (.bool false) (fun _ => rfl) ?_
 simp only [Act.put, pu]
 refine pw_nil ?_
 (repeat ((fail_if_success with_reducible refine rg ?_); go_step))
 refine wp_region_qw (by kernel_rfl) (by kernel_rfl) ?_
 refine qw_move (by rfl) rfl rfl ?_
 simp only [Act.put, pu]
 refine qw_move (by rfl) rfl rfl ?_
 simp only [Act.put, pu]
 refine qw_value (by rfl) (.pointer (some ⟨g6, 1, none⟩)) (exec_field 32 _ 1 rfl g6 0 rfl _ Try.underlying32 _ rfl 0 Try.sizeOf3) ?_
 simp only [Act.put, pu]
 refine qw_loadc (by rfl) 3 _ rfl _ (1) rfl r6 (.int .i64 c) rfl Try.isAgg3 ?_
 simp only [Act.put, pu]
 refine qw_loadm (by rfl) 32 _ rfl _ (0) rfl r6 ((tsC s c)) (part_all _) _ Try.underlying32 rfl size_st ?_
 simp only [Act.put, pu]
 refine qw_call (by rfl) 20 _ _ rfl Try.func20 (by kernel_rfl) #[.agg (tsC s c)] rfl _ hP ?_
 simp only [Act.put, pu]
 refine qw_callK (by rfl) 19 _ _ rfl Try.func19 (by kernel_rfl) #[.pointer (some ⟨g1, 0, none⟩), .int .i64 k, .int .i64 c, .int .i64 (s % 2)] rfl _ (fun w' hb => hL w' (below_on sb (Nat.le_refl _) hb)) ?_
 simp only [Act.put, pu]
 refine qw_asg (by rfl) rfl rfl ?_
 simp only [Act.put, pu]
 refine qw_nil ?_
 intro w9 hqb
 replace r1 := r1.belowAll hqb
 replace r6 := r6.belowAll hqb
 replace sb := below_on sb (Nat.le_refl _) hqb
 clear hqb
 (repeat ((fail_if_success with_reducible refine rg ?_); go_step))
 refine wp_region_qw (by kernel_rfl) (by kernel_rfl) ?_
 refine qw_move (by rfl) rfl rfl ?_
 simp only [Act.put, pu]
 refine qw_value (by rfl) (.bool false) (exec_eql_nilp _ _ _ _ rfl (some ⟨g1, 1 + i * 3, none⟩) rfl rfl ptr_vo) ?_
 simp only [Act.put, pu]
 refine qw_move (by rfl) rfl rfl ?_
 simp only [Act.put, pu]
 refine qw_loadm (by rfl) 32 _ rfl _ (0) rfl r6 ((tsC s c)) (part_all _) _ Try.underlying32 rfl size_st ?_
 simp only [Act.put, pu]
 refine qw_call (by rfl) 21 _ _ rfl Try.func21 (by kernel_rfl) #[.agg (tsC s c)] rfl _ hY ?_
 simp only [Act.put, pu]
 refine qw_value (by rfl) (.bool false) (exec_not _ _ rfl true rfl) ?_
 simp only [Act.put, pu]
 refine qw_pick false (v := .bool false) (by rfl) rfl rfl rfl ?_
 simp only [Act.put, pu]
 refine qw_move (by rfl) rfl rfl ?_
 simp only [Act.put, pu]
 refine qw_move (by rfl) rfl rfl ?_
 simp only [Act.put, pu]
 refine qw_value (by rfl) (.pointer (some ⟨g1, 1 + i * 3, none⟩)) (exec_nil _ rfl g1 (1 + i * 3) rfl) ?_
 simp only [Act.put, pu]
 refine qw_value (by rfl) (.pointer (some ⟨g1, 1 + i * 3, none⟩)) (exec_field 46 _ 0 rfl g1 (1 + i * 3) rfl _ Try.underlying46 _ rfl 1 Try.sizeOf32) ?_
 simp only [Act.put, pu]
 refine qw_value (by rfl) (.pointer (some ⟨g1, 1 + i * 3, none⟩)) (exec_field 32 _ 0 rfl g1 (1 + i * 3) rfl _ Try.underlying32 _ rfl 0 Try.sizeOf3) ?_
 simp only [Act.put, pu]
 refine qw_loadc (by rfl) 3 _ rfl _ (1 + i * 3) rfl r1 (.int .i64 q) hq Try.isAgg3 ?_
 simp only [Act.put, pu]
 refine qw_value (by rfl) (.pointer (some ⟨g6, 0, none⟩)) (exec_field 32 _ 0 rfl g6 0 rfl _ Try.underlying32 _ rfl 0 Try.sizeOf3) ?_
 simp only [Act.put, pu]
 refine qw_loadc (by rfl) 3 _ rfl _ (0) rfl r6 (.int .i64 s) rfl Try.isAgg3 ?_
 simp only [Act.put, pu]
 refine qw_value (by rfl) (.bool true) (exec_geq_i _ _ _ _ rfl (q) (s) rfl rfl true (decide_eq_true (by omega))) ?_
 simp only [Act.put, pu]
 refine qw_pick false (v := .bool true) (by rfl) rfl rfl rfl ?_
 simp only [Act.put, pu]
 refine qw_nil ?_
 intro w8 hqb
 replace r6 := r6.belowAll hqb
 replace sb := below_on sb (Nat.le_refl _) hqb
 clear hqb
 (repeat ((fail_if_success with_reducible refine rg ?_); go_step))
 refine wp_region_pw ?_
 refine pw_value (by rfl) (.bool false) (fun _ => rfl) ?_
 simp only [Act.put, pu]
 refine pw_nil ?_
 go_wp2
 go_ret
 exact ⟨rfl, sb⟩
set_option maxRecDepth 100000 in
set_option maxHeartbeats 2000000 in
theorem put_new (g1 : Nat) (n : Int) (V : Nat → Vt) (k s c : Int) (d : List UInt8) (i : Nat) (q : Int) (V' : Nat → Vt) (w : World) (hL : ∀ w', Below w.heap.size w w' → Calls Try.prog 19 #[.pointer (some ⟨g1, 0, none⟩), .int .i64 k, .int .i64 c, .int .i64 (s % 2)] w' fun e w2 => e = .returned (.pointer (some ⟨g1, 1 + i * 3, none⟩)) ∧ Below w'.heap.size w' w2) (r1 : Row w g1 (voC n V) 51) (h : stB s c = true) (hq : (voC n V)[1 + i * 3]? = some (.int .i64 q)) (hqs : q < s) (hi : i < 56) (hx : V' i = (s, c, d)) (hd : ∀ j, j < 56 → j ≠ i → V' j = V j) (hl : d.length ≤ 16777216) :
  Calls Try.prog 10 #[.pointer (some ⟨g1, 0, none⟩), .int .i64 k, .agg (tsC s c), .string ⟨d.toArray⟩] w fun e w' => e = .returned (.bool true) ∧ Row w' g1 (voC n V') 51 ∧ Kept [g1] w w' := by
 have hP := fun w' => par_any s c w'
 have hY := fun w' => smay_any s c w'
 rw [h] at hY
 clear h
 have hC := fun w' => clone_any d w' hl
 have hp := voC_put (n := n) i hi (1 + i * 3) rfl (s, c, d) hx hd
 have hof : 1 + i * 3 + 3 ≤ 169 := by omega
 go_enter Try.func10, Try.ntmps10
 have sb := sbmk w
 (repeat ((fail_if_success with_reducible refine rg ?_); go_step))
 refine wp_region_pw ?_
 refine pw_boxr (by rfl) 32 _ rfl (tsC s c) rfl ?_
 intro g6 z0 n0 r6 k
 simp only [Act.put, pu]
 have d1x6 := Nat.lt_of_lt_of_le r1.lt n0
 have b6 := Nat.le_trans sb.size n0
 clear n0
 replace r1 := k.row r1 (by simp <;> omega)
 replace sb := sb.trans (k.below w.heap.size sb.size (by simp <;> omega))
 clear k
 refine pw_value (by rfl) (.bool false) (fun _ => rfl) ?_
 simp only [Act.put, pu]
 refine pw_nil ?_
 (repeat ((fail_if_success with_reducible refine rg ?_); go_step))
 refine wp_region_qw (by kernel_rfl) (by kernel_rfl) ?_
 refine qw_move (by rfl) rfl rfl ?_
 simp only [Act.put, pu]
 refine qw_move (by rfl) rfl rfl ?_
 simp only [Act.put, pu]
 refine qw_value (by rfl) (.pointer (some ⟨g6, 1, none⟩)) (exec_field 32 _ 1 rfl g6 0 rfl _ Try.underlying32 _ rfl 0 Try.sizeOf3) ?_
 simp only [Act.put, pu]
 refine qw_loadc (by rfl) 3 _ rfl _ (1) rfl r6 (.int .i64 c) rfl Try.isAgg3 ?_
 simp only [Act.put, pu]
 refine qw_loadm (by rfl) 32 _ rfl _ (0) rfl r6 ((tsC s c)) (part_all _) _ Try.underlying32 rfl size_st ?_
 simp only [Act.put, pu]
 refine qw_call (by rfl) 20 _ _ rfl Try.func20 (by kernel_rfl) #[.agg (tsC s c)] rfl _ hP ?_
 simp only [Act.put, pu]
 refine qw_callK (by rfl) 19 _ _ rfl Try.func19 (by kernel_rfl) #[.pointer (some ⟨g1, 0, none⟩), .int .i64 k, .int .i64 c, .int .i64 (s % 2)] rfl _ (fun w' hb => hL w' (below_on sb (Nat.le_refl _) hb)) ?_
 simp only [Act.put, pu]
 refine qw_asg (by rfl) rfl rfl ?_
 simp only [Act.put, pu]
 refine qw_nil ?_
 intro w9 hqb
 replace r1 := r1.belowAll hqb
 replace r6 := r6.belowAll hqb
 replace sb := below_on sb (Nat.le_refl _) hqb
 clear hqb
 (repeat ((fail_if_success with_reducible refine rg ?_); go_step))
 refine wp_region_qw (by kernel_rfl) (by kernel_rfl) ?_
 refine qw_move (by rfl) rfl rfl ?_
 simp only [Act.put, pu]
 refine qw_value (by rfl) (.bool false) (exec_eql_nilp _ _ _ _ rfl (some ⟨g1, 1 + i * 3, none⟩) rfl rfl ptr_vo) ?_
 simp only [Act.put, pu]
 refine qw_move (by rfl) rfl rfl ?_
 simp only [Act.put, pu]
 refine qw_loadm (by rfl) 32 _ rfl _ (0) rfl r6 ((tsC s c)) (part_all _) _ Try.underlying32 rfl size_st ?_
 simp only [Act.put, pu]
 refine qw_call (by rfl) 21 _ _ rfl Try.func21 (by kernel_rfl) #[.agg (tsC s c)] rfl _ hY ?_
 simp only [Act.put, pu]
 refine qw_value (by rfl) (.bool false) (exec_not _ _ rfl true rfl) ?_
 simp only [Act.put, pu]
 refine qw_pick false (v := .bool false) (by rfl) rfl rfl rfl ?_
 simp only [Act.put, pu]
 refine qw_move (by rfl) rfl rfl ?_
 simp only [Act.put, pu]
 refine qw_move (by rfl) rfl rfl ?_
 simp only [Act.put, pu]
 refine qw_value (by rfl) (.pointer (some ⟨g1, 1 + i * 3, none⟩)) (exec_nil _ rfl g1 (1 + i * 3) rfl) ?_
 simp only [Act.put, pu]
 refine qw_value (by rfl) (.pointer (some ⟨g1, 1 + i * 3, none⟩)) (exec_field 46 _ 0 rfl g1 (1 + i * 3) rfl _ Try.underlying46 _ rfl 1 Try.sizeOf32) ?_
 simp only [Act.put, pu]
 refine qw_value (by rfl) (.pointer (some ⟨g1, 1 + i * 3, none⟩)) (exec_field 32 _ 0 rfl g1 (1 + i * 3) rfl _ Try.underlying32 _ rfl 0 Try.sizeOf3) ?_
 simp only [Act.put, pu]
 refine qw_loadc (by rfl) 3 _ rfl _ (1 + i * 3) rfl r1 (.int .i64 q) hq Try.isAgg3 ?_
 simp only [Act.put, pu]
 refine qw_value (by rfl) (.pointer (some ⟨g6, 0, none⟩)) (exec_field 32 _ 0 rfl g6 0 rfl _ Try.underlying32 _ rfl 0 Try.sizeOf3) ?_
 simp only [Act.put, pu]
 refine qw_loadc (by rfl) 3 _ rfl _ (0) rfl r6 (.int .i64 s) rfl Try.isAgg3 ?_
 simp only [Act.put, pu]
 refine qw_value (by rfl) (.bool false) (exec_geq_i _ _ _ _ rfl (q) (s) rfl rfl false (decide_eq_false (by omega))) ?_
 simp only [Act.put, pu]
 refine qw_pick false (v := .bool false) (by rfl) rfl rfl rfl ?_
 simp only [Act.put, pu]
 refine qw_nil ?_
 intro w8 hqb
 replace r1 := r1.belowAll hqb
 replace r6 := r6.belowAll hqb
 replace sb := below_on sb (Nat.le_refl _) hqb
 clear hqb
 (repeat ((fail_if_success with_reducible refine rg ?_); go_step))
 have d1x6' : g1 ≠ g6 := by have := r1.lt; have := d1x6; omega
 have sk : Kept [g1] w w8 := keptB sb
 clear sb
 apply wp_region_mix (by kernel_rfl) [(g1, 51, voC n V)] [_, _, _, _, _, _, _] ⟨r1, trivial⟩ (by simp <;> omega)
 ·intro p
  refine mx_move rfl rfl ?_
  simp only [Act.put, pu]
  refine mx_loadm 32 _ rfl _ (0) rfl r6 (by simp <;> omega) ((tsC s c)) (part_all _) _ Try.underlying32 rfl size_st ?_
  simp only [Act.put, pu]
  refine mx_move rfl rfl ?_
  simp only [Act.put, pu]
  refine mx_call 22 _ _ rfl Try.func22 (by kernel_rfl) #[.string ⟨d.toArray⟩] rfl _ hC ?_
  simp only [Act.put, pu]
  refine mx_val (.agg (voA (s, c, d))) (exec_buildv _ [(0, _), (1, _)] rfl [(0, .agg (tsC s c)), (1, .string ⟨d.toArray⟩)] rfl _ (built_vo s c d)) ?_
  simp only [Act.put, pu]
  refine mx_val (.pointer (some ⟨g1, 1 + i * 3, none⟩)) (exec_nil _ rfl g1 (1 + i * 3) rfl) ?_
  simp only [Act.put, pu]
  refine mx_putm 0 46 _ _ rfl (1 + i * 3) rfl rfl (voA (s, c, d)) rfl size_vo (by rw [voC_size]; exact hof) (vo_one _) (voC n V') hp ?_
  simp only [Act.put]
  refine mx_end ?_
  intro w7 hkw hrw hnew hdis
  have zr1 : Row w7 (g1) (voC n V') 51 := hrw 0 (51, voC n V') rfl
  replace sk := sk.trans hkw (by simp)
  clear hkw hrw hnew hdis r1
  have r1 := zr1
  clear zr1
  (repeat ((fail_if_success with_reducible refine rg ?_); go_step))
  refine wp_region_pw ?_
  refine pw_value (by rfl) (.bool true) (fun _ => rfl) ?_
  simp only [Act.put, pu]
  refine pw_nil ?_
  go_wp2
  go_ret
  exact ⟨rfl, r1, sk⟩
 ·kernel_rfl
theorem put_any (g1 : Nat) (n : Int) (V : Nat → Vt) (k s c : Int) (d : List UInt8) (w : World) (r1 : Row w g1 (voC n V) 51) (hn : n ≤ 7) (hl : d.length ≤ 16777216) :
  Calls Try.prog 10 #[.pointer (some ⟨g1, 0, none⟩), .int .i64 k, .agg (tsC s c), .string ⟨d.toArray⟩] w fun e w' => e = .returned (.bool (puB n V k s c)) ∧ Row w' g1 (voC n (puV n V k s c d)) 51 ∧ Kept [g1] w w' := by
 have hno : puB n V k s c = false → (Calls Try.prog 10 #[.pointer (some ⟨g1, 0, none⟩), .int .i64 k, .agg (tsC s c), .string ⟨d.toArray⟩] w fun e w' => e = .returned (.bool false) ∧ Below w.heap.size w w') → Calls Try.prog 10 #[.pointer (some ⟨g1, 0, none⟩), .int .i64 k, .agg (tsC s c), .string ⟨d.toArray⟩] w fun e w' => e = .returned (.bool (puB n V k s c)) ∧ Row w' g1 (voC n (puV n V k s c d)) 51 ∧ Kept [g1] w w' := by
  intro h0 h1
  rw [h0, puV_no d h0]
  refine h1.mono ?_
  rintro _ w' ⟨rfl, sb⟩
  exact ⟨rfl, r1.belowAll sb, keptB sb⟩
 cases hp : plB n k c (s % 2) with
 | false => exact hno (by unfold puB; rw [hp]; rfl) (put_no g1 n V k s c d w r1 hp)
 | true =>
  have hi := plI_lt hn hp
  have hL := fun w' (hb : Below w.heap.size w w') => place_yes g1 n V k c (s % 2) w' (r1.belowAll hb) hn hp
  have hq := voC_seq (n := n) (V := V) (plI k c (s % 2)) hi _ rfl
  cases hm : stB s c with
  | false => exact hno (by unfold puB; rw [hm, Bool.and_false]; rfl) (put_may g1 n V k s c d _ w hL r1 hm)
  | true =>
   by_cases hlt : (V (plI k c (s % 2))).1 < s
   ·have h0 : puB n V k s c = true := by unfold puB; rw [hp, hm, decide_eq_true hlt]; rfl
    rw [h0]
    exact put_new g1 n V k s c d _ _ (puV n V k s c d) w hL r1 hm hq hlt hi (puV_at d h0) (fun j _ hj => puV_other d hj) hl
   ·exact hno (by unfold puB; rw [decide_eq_false hlt, Bool.and_false]) (put_old g1 n V k s c d _ _ w hL r1 hm hq (by omega))
set_option maxRecDepth 100000 in
set_option maxHeartbeats 2000000 in
theorem at_nil (k c o : Int) (w : World) :
  Calls Try.prog 13 #[.pointer none, .int .i64 k, .int .i64 c, .int .i64 o] w fun e w' => e = .returned (.tuple #[.agg (tsC (vt0).1 (vt0).2.1), .string ⟨(vt0).2.2.toArray⟩]) ∧ Below w.heap.size w w' := by
 have hL := fun w' (hb : Below w.heap.size w w') => place_nil k c o w'
 go_enter Try.func13, Try.ntmps13
 have sb := sbmk w
 (repeat ((fail_if_success with_reducible refine rg ?_); go_step))
 refine wp_region_pw ?_
 refine pw_new (by rfl) 32 rfl _ zero_st ?_
 intro g8 z0 n0 r8 k
 simp only [Act.put, pu]
 have b8 := Nat.le_trans sb.size n0
 clear n0
 replace sb := sb.trans (k.below w.heap.size sb.size (by simp <;> omega))
 clear k
 refine pw_value (by rfl) (.string ⟨#[]⟩) (fun _ => rfl) ?_
 simp only [Act.put, pu]
 refine pw_nil ?_
 (repeat ((fail_if_success with_reducible refine rg ?_); go_step))
 refine wp_region_pw ?_
 refine pw_mv (by rfl) rfl rfl ?_
 simp only [Act.put, pu]
 refine pw_mv (by rfl) rfl rfl ?_
 simp only [Act.put, pu]
 refine pw_mv (by rfl) rfl rfl ?_
 simp only [Act.put, pu]
 refine pw_mv (by rfl) rfl rfl ?_
 simp only [Act.put, pu]
 refine pw_callB (by rfl) 19 _ _ rfl Try.func19 (by kernel_rfl) #[.pointer none, .int .i64 k, .int .i64 c, .int .i64 o] rfl _ (hL _ sb) ?_
 intro z1004 k
 simp only [Act.put, pu]
 replace r8 := k.row r8 (by simp <;> omega)
 replace sb := sb.trans (k.below w.heap.size sb.size (by simp <;> omega))
 clear k
 refine pw_as (by rfl) rfl rfl ?_
 simp only [Act.put, pu]
 refine pw_nil ?_
 (repeat ((fail_if_success with_reducible refine rg ?_); go_step))
 refine wp_region_pw ?_
 refine pw_mv (by rfl) rfl rfl ?_
 simp only [Act.put, pu]
 refine pw_value (by rfl) (.bool true) (exec_eql_nilp _ _ _ _ rfl (none) rfl rfl ptr_vo) ?_
 simp only [Act.put, pu]
 refine pw_nil ?_
 (repeat ((fail_if_success with_reducible refine rg ?_); go_step))
 refine wp_region_pw ?_
 refine pw_value (by rfl) (.agg (tsC 0 0)) (exec_buildv _ [] rfl [] rfl _ built_st0) ?_
 simp only [Act.put, pu]
 refine pw_put (by rfl) 32 _ _ rfl _ rfl r8 (tsC 0 0) rfl (by exact size_st) (by rfl) (st_one _ _) ?_
 clear r8
 intro z3001 r8 k
 simp only [Act.put]
 replace sb := sb.trans (k.below w.heap.size sb.size (by simp <;> omega))
 clear k
 refine pw_value (by rfl) (.string ⟨#[]⟩) (fun _ => rfl) ?_
 simp only [Act.put, pu]
 refine pw_nil ?_
 go_wp2
 exact ret_rowE rfl _ rfl r8 _ Try.underlying32 size_st rfl _ rfl ⟨rfl, sb⟩
set_option maxRecDepth 100000 in
set_option maxHeartbeats 2000000 in
theorem at_no (g1 : Nat) (n : Int) (V : Nat → Vt) (k c o : Int) (w : World) (r1 : Row w g1 (voC n V) 51) (h : plB n k c o = false) :
  Calls Try.prog 13 #[.pointer (some ⟨g1, 0, none⟩), .int .i64 k, .int .i64 c, .int .i64 o] w fun e w' => e = .returned (.tuple #[.agg (tsC (vt0).1 (vt0).2.1), .string ⟨(vt0).2.2.toArray⟩]) ∧ Below w.heap.size w w' := by
 have hL := fun w' (hb : Below w.heap.size w w') => place_no g1 n V k c o w' (r1.belowAll hb) h
 clear r1 h
 go_enter Try.func13, Try.ntmps13
 have sb := sbmk w
 (repeat ((fail_if_success with_reducible refine rg ?_); go_step))
 refine wp_region_pw ?_
 refine pw_new (by rfl) 32 rfl _ zero_st ?_
 intro g8 z0 n0 r8 k
 simp only [Act.put, pu]
 have b8 := Nat.le_trans sb.size n0
 clear n0
 replace sb := sb.trans (k.below w.heap.size sb.size (by simp <;> omega))
 clear k
 refine pw_value (by rfl) (.string ⟨#[]⟩) (fun _ => rfl) ?_
 simp only [Act.put, pu]
 refine pw_nil ?_
 (repeat ((fail_if_success with_reducible refine rg ?_); go_step))
 refine wp_region_pw ?_
 refine pw_mv (by rfl) rfl rfl ?_
 simp only [Act.put, pu]
 refine pw_mv (by rfl) rfl rfl ?_
 simp only [Act.put, pu]
 refine pw_mv (by rfl) rfl rfl ?_
 simp only [Act.put, pu]
 refine pw_mv (by rfl) rfl rfl ?_
 simp only [Act.put, pu]
 refine pw_callB (by rfl) 19 _ _ rfl Try.func19 (by kernel_rfl) #[.pointer (some ⟨g1, 0, none⟩), .int .i64 k, .int .i64 c, .int .i64 o] rfl _ (hL _ sb) ?_
 intro z1004 k
 simp only [Act.put, pu]
 replace r8 := k.row r8 (by simp <;> omega)
 replace sb := sb.trans (k.below w.heap.size sb.size (by simp <;> omega))
 clear k
 refine pw_as (by rfl) rfl rfl ?_
 simp only [Act.put, pu]
 refine pw_nil ?_
 (repeat ((fail_if_success with_reducible refine rg ?_); go_step))
 refine wp_region_pw ?_
 refine pw_mv (by rfl) rfl rfl ?_
 simp only [Act.put, pu]
 refine pw_value (by rfl) (.bool true) (exec_eql_nilp _ _ _ _ rfl (none) rfl rfl ptr_vo) ?_
 simp only [Act.put, pu]
 refine pw_nil ?_
 (repeat ((fail_if_success with_reducible refine rg ?_); go_step))
 refine wp_region_pw ?_
 refine pw_value (by rfl) (.agg (tsC 0 0)) (exec_buildv _ [] rfl [] rfl _ built_st0) ?_
 simp only [Act.put, pu]
 refine pw_put (by rfl) 32 _ _ rfl _ rfl r8 (tsC 0 0) rfl (by exact size_st) (by rfl) (st_one _ _) ?_
 clear r8
 intro z3001 r8 k
 simp only [Act.put]
 replace sb := sb.trans (k.below w.heap.size sb.size (by simp <;> omega))
 clear k
 refine pw_value (by rfl) (.string ⟨#[]⟩) (fun _ => rfl) ?_
 simp only [Act.put, pu]
 refine pw_nil ?_
 go_wp2
 exact ret_rowE rfl _ rfl r8 _ Try.underlying32 size_st rfl _ rfl ⟨rfl, sb⟩
set_option maxRecDepth 100000 in
set_option maxHeartbeats 2000000 in
theorem at_yes (g1 : Nat) (n : Int) (V : Nat → Vt) (k c o : Int) (i : Nat) (x : Vt) (w : World) (r1 : Row w g1 (voC n V) 51) (hV : V i = x) (hi : i < 56) (hL : ∀ w', Below w.heap.size w w' → Calls Try.prog 19 #[.pointer (some ⟨g1, 0, none⟩), .int .i64 k, .int .i64 c, .int .i64 o] w' fun e w2 => e = .returned (.pointer (some ⟨g1, 1 + i * 3, none⟩)) ∧ Below w'.heap.size w' w2) :
  Calls Try.prog 13 #[.pointer (some ⟨g1, 0, none⟩), .int .i64 k, .int .i64 c, .int .i64 o] w fun e w' => e = .returned (.tuple #[.agg (tsC (x).1 (x).2.1), .string ⟨(x).2.2.toArray⟩]) ∧ Below w.heap.size w w' := by
 have hs := voC_st (n := n) (V := V) i hi (1 + i * 3) rfl
 have hd := voC_dig (n := n) (V := V) i hi (1 + i * 3) rfl
 rw [hV] at hs hd
 clear hV
 go_enter Try.func13, Try.ntmps13
 have sb := sbmk w
 (repeat ((fail_if_success with_reducible refine rg ?_); go_step))
 refine wp_region_pw ?_
 refine pw_new (by rfl) 32 rfl _ zero_st ?_
 intro g8 z0 n0 r8 k
 simp only [Act.put, pu]
 have d1x8 := Nat.lt_of_lt_of_le r1.lt n0
 have b8 := Nat.le_trans sb.size n0
 clear n0
 replace r1 := k.row r1 (by simp <;> omega)
 replace sb := sb.trans (k.below w.heap.size sb.size (by simp <;> omega))
 clear k
 refine pw_value (by rfl) (.string ⟨#[]⟩) (fun _ => rfl) ?_
 simp only [Act.put, pu]
 refine pw_nil ?_
 (repeat ((fail_if_success with_reducible refine rg ?_); go_step))
 refine wp_region_pw ?_
 refine pw_mv (by rfl) rfl rfl ?_
 simp only [Act.put, pu]
 refine pw_mv (by rfl) rfl rfl ?_
 simp only [Act.put, pu]
 refine pw_mv (by rfl) rfl rfl ?_
 simp only [Act.put, pu]
 refine pw_mv (by rfl) rfl rfl ?_
 simp only [Act.put, pu]
 refine pw_callB (by rfl) 19 _ _ rfl Try.func19 (by kernel_rfl) #[.pointer (some ⟨g1, 0, none⟩), .int .i64 k, .int .i64 c, .int .i64 o] rfl _ (hL _ sb) ?_
 intro z1004 k
 simp only [Act.put, pu]
 replace r1 := k.row r1 (by simp <;> omega)
 replace r8 := k.row r8 (by simp <;> omega)
 replace sb := sb.trans (k.below w.heap.size sb.size (by simp <;> omega))
 clear k
 refine pw_as (by rfl) rfl rfl ?_
 simp only [Act.put, pu]
 refine pw_nil ?_
 (repeat ((fail_if_success with_reducible refine rg ?_); go_step))
 refine wp_region_pw ?_
 refine pw_mv (by rfl) rfl rfl ?_
 simp only [Act.put, pu]
 refine pw_value (by rfl) (.bool false) (exec_eql_nilp _ _ _ _ rfl (some ⟨g1, 1 + i * 3, none⟩) rfl rfl ptr_vo) ?_
 simp only [Act.put, pu]
 refine pw_nil ?_
 (repeat ((fail_if_success with_reducible refine rg ?_); go_step))
 apply wp_region_mix (by kernel_rfl) [(g8, 32, tsC 0 0)] [_, _, _, _, _, _, _, _, _, _] ⟨r8, trivial⟩ (by simp <;> omega)
 ·intro p
  refine mx_move rfl rfl ?_
  simp only [Act.put, pu]
  refine mx_val (.pointer (some ⟨g1, 1 + i * 3, none⟩)) (exec_nil _ rfl g1 (1 + i * 3) rfl) ?_
  simp only [Act.put, pu]
  refine mx_val (.pointer (some ⟨g1, 1 + i * 3, none⟩)) (exec_field 46 _ 0 rfl g1 (1 + i * 3) rfl _ Try.underlying46 _ rfl 1 Try.sizeOf32) ?_
  simp only [Act.put, pu]
  refine mx_loadm 32 _ rfl _ (1 + i * 3) rfl r1 (by simp <;> omega) ((tsC x.1 x.2.1)) hs _ Try.underlying32 rfl size_st ?_
  simp only [Act.put, pu]
  refine mx_move rfl rfl ?_
  simp only [Act.put, pu]
  refine mx_val (.pointer (some ⟨g1, 1 + i * 3, none⟩)) (exec_nil _ rfl g1 (1 + i * 3) rfl) ?_
  simp only [Act.put, pu]
  refine mx_val (.pointer (some ⟨g1, 1 + i * 3 + 2, none⟩)) (exec_field 46 _ 1 rfl g1 (1 + i * 3) rfl _ Try.underlying46 _ rfl 0 Try.sizeOf9) ?_
  simp only [Act.put, pu]
  refine mx_loadc 9 _ rfl _ (1 + i * 3 + 2) rfl r1 (by simp <;> omega) (.string ⟨x.2.2.toArray⟩) hd Try.isAgg9 ?_
  simp only [Act.put, pu]
  refine mx_put 0 32 _ _ rfl rfl rfl (tsC x.1 x.2.1) rfl (by exact size_st) (by rfl) (st_one _ _) ?_
  simp only [Act.put]
  refine mx_asg rfl rfl ?_
  simp only [Act.put, pu]
  refine mx_end ?_
  intro w7 hkw hrw hnew hdis
  have zr8 : Row w7 (g8) (tsC x.1 x.2.1) 32 := hrw 0 (32, tsC x.1 x.2.1) rfl
  replace r1 := hkw.row r1 (by simp <;> omega)
  replace sb := sb.trans (hkw.below w.heap.size sb.size (by simp <;> omega))
  clear hkw hrw hnew hdis r8
  have r8 := zr8
  clear zr8
  go_wp2
  exact ret_rowE rfl _ rfl r8 _ Try.underlying32 size_st rfl _ rfl ⟨rfl, sb⟩
 ·kernel_rfl
theorem at_any (g1 : Nat) (n : Int) (V : Nat → Vt) (k c o : Int) (w : World) (r1 : Row w g1 (voC n V) 51) (hn : n ≤ 7) :
  Calls Try.prog 13 #[.pointer (some ⟨g1, 0, none⟩), .int .i64 k, .int .i64 c, .int .i64 o] w fun e w' => e = .returned (.tuple #[.agg (tsC (atV n V k c o).1 (atV n V k c o).2.1), .string ⟨(atV n V k c o).2.2.toArray⟩]) ∧ Below w.heap.size w w' := by
 cases hp : plB n k c o with
 | false =>
  rw [show atV n V k c o = vt0 by unfold atV; rw [if_neg (by rw [hp]; decide)]]
  exact at_no g1 n V k c o w r1 hp
 | true =>
  rw [show atV n V k c o = V (plI k c o) from if_pos hp]
  exact at_yes g1 n V k c o _ _ w r1 rfl (plI_lt hn hp) (fun w' hb => place_yes g1 n V k c o w' (r1.belowAll hb) hn hp)
set_option maxRecDepth 100000 in
set_option maxHeartbeats 2000000 in
theorem copy_nil (w : World) :
  Calls Try.prog 15 #[.pointer none] w fun e w' => e = .returned (.pointer none) ∧ Below w.heap.size w w' := by
 go_enter Try.func15, Try.ntmps15
 have sb := sbmk w
 (repeat ((fail_if_success with_reducible refine rg ?_); go_step))
 refine wp_region_pw ?_
 refine pw_value (by rfl) (.pointer none) (fun _ => rfl) ?_
 simp only [Act.put, pu]
 refine pw_nil ?_
 (repeat ((fail_if_success with_reducible refine rg ?_); go_step))
 refine wp_region_pw ?_
 refine pw_mv (by rfl) rfl rfl ?_
 simp only [Act.put, pu]
 refine pw_callB (by rfl) 23 _ _ rfl Try.func23 (by kernel_rfl) #[.pointer none] rfl _ (made_nil _) ?_
 intro z1001 k
 simp only [Act.put, pu]
 replace sb := sb.trans (k.below w.heap.size sb.size (by simp <;> omega))
 clear k
 refine pw_value (by rfl) (.bool true) (exec_not _ _ rfl false rfl) ?_
 simp only [Act.put, pu]
 refine pw_nil ?_
 (repeat ((fail_if_success with_reducible refine rg ?_); go_step))
 refine wp_region_pw ?_
 refine pw_value (by rfl) (.pointer none) (fun _ => rfl) ?_
 simp only [Act.put, pu]
 refine pw_nil ?_
 go_wp2
 go_ret
 exact ⟨rfl, sb⟩
set_option maxRecDepth 100000 in
set_option maxHeartbeats 2000000 in
theorem copy_no (g1 : Nat) (n : Int) (V : Nat → Vt) (w : World) (r1 : Row w g1 (voC n V) 51) (hn : n ≤ 0) :
  Calls Try.prog 15 #[.pointer (some ⟨g1, 0, none⟩)] w fun e w' => e = .returned (.pointer none) ∧ Below w.heap.size w w' := by
 go_enter Try.func15, Try.ntmps15
 have sb := sbmk w
 (repeat ((fail_if_success with_reducible refine rg ?_); go_step))
 refine wp_region_pw ?_
 refine pw_value (by rfl) (.pointer none) (fun _ => rfl) ?_
 simp only [Act.put, pu]
 refine pw_nil ?_
 (repeat ((fail_if_success with_reducible refine rg ?_); go_step))
 refine wp_region_pw ?_
 refine pw_mv (by rfl) rfl rfl ?_
 simp only [Act.put, pu]
 refine pw_callB (by rfl) 23 _ _ rfl Try.func23 (by kernel_rfl) #[.pointer (some ⟨g1, 0, none⟩)] rfl _ (made_no g1 n V _ r1 hn) ?_
 intro z1001 k
 simp only [Act.put, pu]
 replace sb := sb.trans (k.below w.heap.size sb.size (by simp <;> omega))
 clear k
 refine pw_value (by rfl) (.bool true) (exec_not _ _ rfl false rfl) ?_
 simp only [Act.put, pu]
 refine pw_nil ?_
 (repeat ((fail_if_success with_reducible refine rg ?_); go_step))
 refine wp_region_pw ?_
 refine pw_value (by rfl) (.pointer none) (fun _ => rfl) ?_
 simp only [Act.put, pu]
 refine pw_nil ?_
 go_wp2
 go_ret
 exact ⟨rfl, sb⟩
set_option maxRecDepth 100000 in
set_option maxHeartbeats 2000000 in
theorem copy_yes (g1 : Nat) (n : Int) (V : Nat → Vt) (w : World) (r1 : Row w g1 (voC n V) 51) (hn : 1 ≤ n) :
  Calls Try.prog 15 #[.pointer (some ⟨g1, 0, none⟩)] w fun e w' => ∃ g, e = .returned (.pointer (some ⟨g, 0, none⟩)) ∧ w.heap.size ≤ g ∧ Row w' g (voC n V) 51 ∧ Below w.heap.size w w' := by
 go_enter Try.func15, Try.ntmps15
 have sb := sbmk w
 (repeat ((fail_if_success with_reducible refine rg ?_); go_step))
 refine wp_region_pw ?_
 refine pw_value (by rfl) (.pointer none) (fun _ => rfl) ?_
 simp only [Act.put, pu]
 refine pw_nil ?_
 (repeat ((fail_if_success with_reducible refine rg ?_); go_step))
 refine wp_region_pw ?_
 refine pw_mv (by rfl) rfl rfl ?_
 simp only [Act.put, pu]
 refine pw_callB (by rfl) 23 _ _ rfl Try.func23 (by kernel_rfl) #[.pointer (some ⟨g1, 0, none⟩)] rfl _ (made_yes g1 n V _ r1 hn) ?_
 intro z1001 k
 simp only [Act.put, pu]
 replace r1 := k.row r1 (by simp <;> omega)
 replace sb := sb.trans (k.below w.heap.size sb.size (by simp <;> omega))
 clear k
 refine pw_value (by rfl) (.bool false) (exec_not _ _ rfl true rfl) ?_
 simp only [Act.put, pu]
 refine pw_nil ?_
 (repeat ((fail_if_success with_reducible refine rg ?_); go_step))
 refine wp_region_pw ?_
 refine pw_mv (by rfl) rfl rfl ?_
 simp only [Act.put, pu]
 refine pw_value (by rfl) (.pointer (some ⟨g1, 0, none⟩)) (exec_nil _ rfl g1 (0) rfl) ?_
 simp only [Act.put, pu]
 refine pw_loadm (by rfl) 51 _ rfl _ 0 rfl r1.r _ (part_all _) _ Try.underlying51 rfl (by rw [voC_size]; exact size_vs) ?_
 simp only [Act.put, pu]
 refine pw_new (by rfl) 51 rfl _ zero_vs ?_
 intro g3 z3003 n0 r3 k
 simp only [Act.put, pu]
 have d1x3 := Nat.lt_of_lt_of_le r1.lt n0
 have b3 := Nat.le_trans sb.size n0
 clear n0
 replace r1 := k.row r1 (by simp <;> omega)
 replace sb := sb.trans (k.below w.heap.size sb.size (by simp <;> omega))
 clear k
 refine pw_put (by rfl) 51 _ _ rfl _ rfl r3 (voC n V) rfl (by rw [voC_size]; exact size_vs) (by simp only [voC_size]) (voC_one _ _) ?_
 clear r3
 intro z3004 r3 k
 simp only [Act.put]
 replace r1 := k.row r1 (by simp <;> omega)
 replace sb := sb.trans (k.below w.heap.size sb.size (by simp <;> omega))
 clear k
 refine pw_nil ?_
 (repeat ((fail_if_success with_reducible refine rg ?_); go_step))
 refine wp_region_pw ?_
 refine pw_as (by rfl) rfl rfl ?_
 simp only [Act.put, pu]
 refine pw_nil ?_
 go_wp2
 go_ret
 exact ⟨g3, rfl, b3, r3, sb⟩
end Go.Proofs.Ytdbcikhineghcaa
