/- StampLater: for any three stamps: just one of two is later, or they are the same; there is no ring; and what is next is later; no condition. -/
import Derived.Test.YtdgbjmolinoplaaStAwake
import Derived.Test.YtdgbjmolinoplaaStOpen
namespace Go.Proofs.Ytdgbjmolinoplaa
open Go.ChangeShapes Go.WideShapes Go.ChangeAt Go.RowKit
set_option linter.unusedVariables false
set_option linter.unusedSectionVars false
set_option linter.unusedSimpArgs false
namespace stampLaterP
theorem x_eqb {P : Program} {o : Oper} {ρ : Operand → Value} (t : TypeId) (x y : Operand) (u : TypeId) (ho : o.op = .binOp .eql t x y u) (n : Bool) (hx : ρ x = .bool n) (hy : ρ y = .bool n) (hu : P.underlying t = some .bool) (w : World) :
  (execOp ρ o).run P w = .ok (.value (.bool true)) w := by
 unfold execOp
 simp only [ho, hx, hy]
 simp [eqGuard, go_sem, hu]
theorem x_neb {P : Program} {o : Oper} {ρ : Operand → Value} (t : TypeId) (x y : Operand) (u : TypeId) (ho : o.op = .binOp .neq t x y u) (n : Bool) (hx : ρ x = .bool n) (hy : ρ y = .bool n) (hu : P.underlying t = some .bool) (w : World) :
  (execOp ρ o).run P w = .ok (.value (.bool false)) w := by
 unfold execOp
 simp only [ho, hx, hy]
 simp [eqGuard, go_sem, hu]
theorem cpz_lt (x y : Int) : cpz x y = -1 ↔ x < y := by unfold cpz; repeat' split <;> omega
theorem cpz_gt (x y : Int) : cpz x y = 1 ↔ y < x := by unfold cpz; repeat' split <;> omega
theorem cpz_eq (x y : Int) : cpz x y = 0 ↔ x = y := by unfold cpz; repeat' split <;> omega
theorem cps_gt (a b c d : Int) : cpS a b c d = 1 ↔ (c < a ∨ (a = c ∧ d < b)) := by
 unfold cpS orI cpz
 repeat' split
 all_goals omega
theorem cps_lt (a b c d : Int) : cpS a b c d = -1 ↔ (a < c ∨ (a = c ∧ b < d)) := by
 unfold cpS orI cpz
 repeat' split
 all_goals omega
theorem cps_eq (a b c d : Int) : cpS a b c d = 0 ↔ (a = c ∧ b = d) := by
 unfold cpS orI cpz
 repeat' split
 all_goals omega
theorem cps_all (a b c d : Int) : cpS a b c d = -1 ∨ cpS a b c d = 0 ∨ cpS a b c d = 1 := by
 unfold cpS orI cpz
 repeat' split
 all_goals omega
theorem cps_neg (a b c d : Int) : IntKind.i64.wrap (-(cpS c d a b)) = cpS a b c d := by
 rw [IntKind.wrap_i64]
 unfold cpS orI cpz
 repeat' split
 all_goals omega
theorem cps_tr {a b c d e f : Int} (h : 0 < cpS a b c d) (h2 : 0 < cpS c d e f) : 0 < cpS a b e f := by
 have h1 : cpS a b c d = 1 := by have := cps_all a b c d; omega
 have h3 : cpS c d e f = 1 := by have := cps_all c d e f; omega
 rw [cps_gt] at h1 h3
 have : cpS a b e f = 1 := (cps_gt _ _ _ _).2 (by omega)
 omega
theorem nx_later (n c x : Int) (h : nxE n c = 0) : cpS (nxS n c) (nxC n c) n x = 1 := by
 rw [show nxS n c = n + 1 from if_pos h]
 exact (cps_gt _ _ _ _).2 (by omega)
set_option maxRecDepth 100000 in
set_option maxHeartbeats 2000000 in
theorem core (a b c d e f x y z u s v er : Int) (w : World) (hneg : IntKind.i64.wrap (-u) = x) (h0 : decide (x = 0) = decide (a = c ∧ b = d)) (hxyz : 0 < x → 0 < y → 0 < z)
  (hAB : ∀ w', Calls Try.prog 9 #[.agg (tsC a b), .agg (tsC c d)] w' fun q w2 => q = .returned (.int .i64 x) ∧ Below w'.heap.size w' w2)
  (hBC : ∀ w', Calls Try.prog 9 #[.agg (tsC c d), .agg (tsC e f)] w' fun q w2 => q = .returned (.int .i64 y) ∧ Below w'.heap.size w' w2)
  (hAC : ∀ w', Calls Try.prog 9 #[.agg (tsC a b), .agg (tsC e f)] w' fun q w2 => q = .returned (.int .i64 z) ∧ Below w'.heap.size w' w2)
  (hBA : ∀ w', Calls Try.prog 9 #[.agg (tsC c d), .agg (tsC a b)] w' fun q w2 => q = .returned (.int .i64 u) ∧ Below w'.heap.size w' w2)
  (hN : ∀ w', Calls Try.prog 7 #[.int .i64 a, .int .i64 d] w' fun q w2 => q = .returned (.tuple #[.agg (tsC s v), .int .i64 er]) ∧ Below w'.heap.size w' w2)
  (hL : er = 0 → ∀ w', Calls Try.prog 9 #[.agg (tsC s v), .agg (tsC a b)] w' fun q w2 => q = .returned (.int .i64 1) ∧ Below w'.heap.size w' w2) :
  Calls Try.prog 6 #[.agg (tsC a b), .agg (tsC c d), .agg (tsC e f)] w fun q w' => q = .returned (.bool true) ∧ Below w.heap.size w w' := by
 cases hs : decide (a = c ∧ b = d) with
 | true =>
  rw [hs] at h0
  have hx0 : x = 0 := of_decide_eq_true h0
  clear hxyz
  by_cases he : er = 0
  ·replace hL := hL he
   go_enter Try.func6, Try.ntmps6
   have sb := sbmk w
   (repeat ((fail_if_success with_reducible refine rg ?_); go_step))
   refine wp_region_pw ?_
   refine pw_boxr (by rfl) 23 _ rfl (tsC a b) rfl ?_
   intro g3 z0 n0 r3 k
   simp only [Act.put, pu]
   have b3 := Nat.le_trans sb.size n0
   clear n0
   replace sb := sb.trans (k.below w.heap.size sb.size (by simp <;> omega))
   clear k
   refine pw_boxr (by rfl) 23 _ rfl (tsC c d) rfl ?_
   intro g4 z1 n0 r4 k
   simp only [Act.put, pu]
   have d3x4 := Nat.lt_of_lt_of_le r3.lt n0
   have b4 := Nat.le_trans sb.size n0
   clear n0
   replace r3 := k.row r3 (by simp <;> omega)
   replace sb := sb.trans (k.below w.heap.size sb.size (by simp <;> omega))
   clear k
   refine pw_boxr (by rfl) 23 _ rfl (tsC e f) rfl ?_
   intro g5 z2 n0 r5 k
   simp only [Act.put, pu]
   have d3x5 := Nat.lt_of_lt_of_le r3.lt n0
   have d4x5 := Nat.lt_of_lt_of_le r4.lt n0
   have b5 := Nat.le_trans sb.size n0
   clear n0
   replace r3 := k.row r3 (by simp <;> omega)
   replace r4 := k.row r4 (by simp <;> omega)
   replace sb := sb.trans (k.below w.heap.size sb.size (by simp <;> omega))
   clear k
   refine pw_value (by rfl) (.bool false) (fun _ => rfl) ?_
   simp only [Act.put, pu]
   refine pw_nil ?_
   (repeat ((fail_if_success with_reducible refine rg ?_); go_step))
   refine wp_region_qw (by kernel_rfl) (by kernel_rfl) ?_
   refine qw_loadm (by rfl) 23 _ rfl _ (0) rfl r3 ((tsC a b)) (part_all _) _ Try.underlying23 rfl size_st ?_
   simp only [Act.put, pu]
   refine qw_loadm (by rfl) 23 _ rfl _ (0) rfl r4 ((tsC c d)) (part_all _) _ Try.underlying23 rfl size_st ?_
   simp only [Act.put, pu]
   refine qw_call (by rfl) 9 _ _ rfl Try.func9 (by kernel_rfl) #[.agg (tsC a b), .agg (tsC c d)] rfl _ hAB ?_
   simp only [Act.put, pu]
   refine qw_loadm (by rfl) 23 _ rfl _ (0) rfl r4 ((tsC c d)) (part_all _) _ Try.underlying23 rfl size_st ?_
   simp only [Act.put, pu]
   refine qw_loadm (by rfl) 23 _ rfl _ (0) rfl r5 ((tsC e f)) (part_all _) _ Try.underlying23 rfl size_st ?_
   simp only [Act.put, pu]
   refine qw_call (by rfl) 9 _ _ rfl Try.func9 (by kernel_rfl) #[.agg (tsC c d), .agg (tsC e f)] rfl _ hBC ?_
   simp only [Act.put, pu]
   refine qw_loadm (by rfl) 23 _ rfl _ (0) rfl r3 ((tsC a b)) (part_all _) _ Try.underlying23 rfl size_st ?_
   simp only [Act.put, pu]
   refine qw_loadm (by rfl) 23 _ rfl _ (0) rfl r5 ((tsC e f)) (part_all _) _ Try.underlying23 rfl size_st ?_
   simp only [Act.put, pu]
   refine qw_call (by rfl) 9 _ _ rfl Try.func9 (by kernel_rfl) #[.agg (tsC a b), .agg (tsC e f)] rfl _ hAC ?_
   simp only [Act.put, pu]
   refine qw_asg (by rfl) rfl rfl ?_
   simp only [Act.put, pu]
   refine qw_asg (by rfl) rfl rfl ?_
   simp only [Act.put, pu]
   refine qw_asg (by rfl) rfl rfl ?_
   simp only [Act.put, pu]
   refine qw_nil ?_
   intro w9 hqb
   replace r3 := r3.belowAll hqb
   replace r4 := r4.belowAll hqb
   replace r5 := r5.belowAll hqb
   replace sb := below_on sb (Nat.le_refl _) hqb
   clear hqb
   (repeat ((fail_if_success with_reducible refine rg ?_); go_step))
   refine wp_region_pw ?_
   refine pw_mv (by rfl) rfl rfl ?_
   simp only [Act.put, pu]
   refine pw_loadm (by rfl) 23 _ rfl _ 0 rfl r4.r _ (part_all _) _ Try.underlying23 rfl size_st ?_
   simp only [Act.put, pu]
   refine pw_loadm (by rfl) 23 _ rfl _ 0 rfl r3.r _ (part_all _) _ Try.underlying23 rfl size_st ?_
   simp only [Act.put, pu]
   refine pw_callB (by rfl) 9 _ _ rfl Try.func9 (by kernel_rfl) #[.agg (tsC c d), .agg (tsC a b)] rfl _ (hBA _) ?_
   intro z2003 k
   simp only [Act.put, pu]
   replace r3 := k.row r3 (by simp <;> omega)
   replace r4 := k.row r4 (by simp <;> omega)
   replace r5 := k.row r5 (by simp <;> omega)
   replace sb := sb.trans (k.below w.heap.size sb.size (by simp <;> omega))
   clear k
   refine pw_value (by rfl) (.int .i64 x) (x_neg _ _ rfl u x rfl hneg) ?_
   simp only [Act.put, pu]
   refine pw_value (by rfl) (.bool false) (exec_neq_k .i64 _ _ _ _ rfl (x) (x) rfl rfl false (by rw [decide_eq_true rfl]; rfl)) ?_
   simp only [Act.put, pu]
   refine pw_mv (by rfl) rfl rfl ?_
   simp only [Act.put, pu]
   refine pw_mv (by rfl) rfl rfl ?_
   simp only [Act.put, pu]
   refine pw_value (by rfl) (.bool true) (exec_eql_k .i64 _ _ _ _ rfl x 0 rfl rfl true h0) ?_
   simp only [Act.put, pu]
   refine pw_loadm (by rfl) 23 _ rfl _ 0 rfl r3.r _ (part_all _) _ Try.underlying23 rfl size_st ?_
   simp only [Act.put, pu]
   refine pw_loadm (by rfl) 23 _ rfl _ 0 rfl r4.r _ (part_all _) _ Try.underlying23 rfl size_st ?_
   simp only [Act.put, pu]
   refine pw_value (by rfl) (.bool true) (exec_eql_st _ _ _ rfl a b c d rfl rfl true hs) ?_
   simp only [Act.put, pu]
   refine pw_value (by rfl) (.bool false) (x_neb _ _ _ _ rfl true rfl rfl Try.underlying4) ?_
   simp only [Act.put, pu]
   refine pw_pick (by rfl) false (v := .bool false) rfl rfl rfl ?_
   simp only [Act.put, pu]
   refine pw_mv (by rfl) rfl rfl ?_
   simp only [Act.put, pu]
   refine pw_mv (by rfl) rfl rfl ?_
   simp only [Act.put, pu]
   refine pw_value (by rfl) (.bool false) (exec_gt_i _ _ _ _ rfl (x) (0) rfl rfl false (decide_eq_false (by omega))) ?_
   simp only [Act.put, pu]
   refine pw_mv (by rfl) rfl rfl ?_
   simp only [Act.put, pu]
   refine pw_skip (by rfl) ?_
   simp only [Act.put, pu]
   refine pw_skip (by rfl) ?_
   simp only [Act.put, pu]
   refine pw_pick (by rfl) false (v := .bool false) rfl rfl rfl ?_
   simp only [Act.put, pu]
   refine pw_mv (by rfl) rfl rfl ?_
   simp only [Act.put, pu]
   refine pw_skip (by rfl) ?_
   simp only [Act.put, pu]
   refine pw_skip (by rfl) ?_
   simp only [Act.put, pu]
   refine pw_pick (by rfl) false (v := .bool false) rfl rfl rfl ?_
   simp only [Act.put, pu]
   refine pw_pick (by rfl) false (v := .bool false) rfl rfl rfl ?_
   simp only [Act.put, pu]
   refine pw_nil ?_
   (repeat ((fail_if_success with_reducible refine rg ?_); go_step))
   refine wp_region_pw ?_
   refine pw_value (by rfl) (.pointer (some ⟨g3, 0, none⟩)) (exec_field 23 _ 0 rfl g3 0 rfl _ Try.underlying23 _ rfl 0 Try.sizeOf3) ?_
   simp only [Act.put, pu]
   refine pw_loadk (by rfl) 3 _ rfl _ (0) rfl r3.r (.int .i64 a) rfl Try.isAgg3 ?_
   simp only [Act.put, pu]
   refine pw_value (by rfl) (.pointer (some ⟨g4, 1, none⟩)) (exec_field 23 _ 1 rfl g4 0 rfl _ Try.underlying23 _ rfl 0 Try.sizeOf3) ?_
   simp only [Act.put, pu]
   refine pw_loadk (by rfl) 3 _ rfl _ (1) rfl r4.r (.int .i64 d) rfl Try.isAgg3 ?_
   simp only [Act.put, pu]
   refine pw_callB (by rfl) 7 _ _ rfl Try.func7 (by kernel_rfl) #[.int .i64 a, .int .i64 d] rfl _ (hN _) ?_
   intro z4004 k
   simp only [Act.put, pu]
   replace r3 := k.row r3 (by simp <;> omega)
   replace r4 := k.row r4 (by simp <;> omega)
   replace r5 := k.row r5 (by simp <;> omega)
   replace sb := sb.trans (k.below w.heap.size sb.size (by simp <;> omega))
   clear k
   refine pw_mv (by rfl) rfl rfl ?_
   simp only [Act.put, pu]
   refine pw_ext (by rfl) rfl rfl rfl ?_
   simp only [Act.put, pu]
   refine pw_ext (by rfl) rfl rfl rfl ?_
   simp only [Act.put, pu]
   refine pw_new (by rfl) 23 rfl _ zero_st ?_
   intro g10 z4008 n0 r10 k
   simp only [Act.put, pu]
   have d3x10 := Nat.lt_of_lt_of_le r3.lt n0
   have d4x10 := Nat.lt_of_lt_of_le r4.lt n0
   have d5x10 := Nat.lt_of_lt_of_le r5.lt n0
   have b10 := Nat.le_trans sb.size n0
   clear n0
   replace r3 := k.row r3 (by simp <;> omega)
   replace r4 := k.row r4 (by simp <;> omega)
   replace r5 := k.row r5 (by simp <;> omega)
   replace sb := sb.trans (k.below w.heap.size sb.size (by simp <;> omega))
   clear k
   refine pw_put (by rfl) 23 _ _ rfl _ rfl r10 (tsC s v) rfl (by exact size_st) (by rfl) (st_one _ _) ?_
   clear r10
   intro z4009 r10 k
   simp only [Act.put]
   replace r3 := k.row r3 (by simp <;> omega)
   replace r4 := k.row r4 (by simp <;> omega)
   replace r5 := k.row r5 (by simp <;> omega)
   replace sb := sb.trans (k.below w.heap.size sb.size (by simp <;> omega))
   clear k
   refine pw_as (by rfl) rfl rfl ?_
   simp only [Act.put, pu]
   refine pw_nil ?_
   (repeat ((fail_if_success with_reducible refine rg ?_); go_step))
   refine wp_region_pw ?_
   refine pw_mv (by rfl) rfl rfl ?_
   simp only [Act.put, pu]
   refine pw_value (by rfl) (.bool false) (exec_neq_k .i64 _ _ _ _ rfl (er) (0) rfl rfl false (by rw [decide_eq_true (by omega)]; rfl)) ?_
   simp only [Act.put, pu]
   refine pw_mv (by rfl) rfl rfl ?_
   simp only [Act.put, pu]
   refine pw_loadm (by rfl) 23 _ rfl _ 0 rfl r10.r _ (part_all _) _ Try.underlying23 rfl size_st ?_
   simp only [Act.put, pu]
   refine pw_loadm (by rfl) 23 _ rfl _ 0 rfl r3.r _ (part_all _) _ Try.underlying23 rfl size_st ?_
   simp only [Act.put, pu]
   refine pw_callB (by rfl) 9 _ _ rfl Try.func9 (by kernel_rfl) #[.agg (tsC s v), .agg (tsC a b)] rfl _ (hL _) ?_
   intro z5005 k
   simp only [Act.put, pu]
   replace r3 := k.row r3 (by simp <;> omega)
   replace r10 := k.row r10 (by simp <;> omega)
   replace sb := sb.trans (k.below w.heap.size sb.size (by simp <;> omega))
   clear k
   refine pw_value (by rfl) (.bool true) (exec_eql_k .i64 _ _ _ _ rfl (1) (1) rfl rfl true (decide_eq_true rfl)) ?_
   simp only [Act.put, pu]
   refine pw_pick (by rfl) false (v := .bool true) rfl rfl rfl ?_
   simp only [Act.put, pu]
   refine pw_mv (by rfl) rfl rfl ?_
   simp only [Act.put, pu]
   refine pw_callB (by rfl) 13 _ _ rfl Try.func13 (by kernel_rfl) #[] rfl _ (awake_any _) ?_
   intro z5009 k
   simp only [Act.put, pu]
   replace r3 := k.row r3 (by simp <;> omega)
   replace r10 := k.row r10 (by simp <;> omega)
   replace sb := sb.trans (k.below w.heap.size sb.size (by simp <;> omega))
   clear k
   refine pw_pick (by rfl) true (v := .bool true) rfl rfl rfl ?_
   simp only [Act.put, pu]
   refine pw_as (by rfl) rfl rfl ?_
   simp only [Act.put, pu]
   refine pw_nil ?_
   go_wp2
   go_ret
   exact ⟨rfl, sb⟩
  ·clear hL
   go_enter Try.func6, Try.ntmps6
   have sb := sbmk w
   (repeat ((fail_if_success with_reducible refine rg ?_); go_step))
   refine wp_region_pw ?_
   refine pw_boxr (by rfl) 23 _ rfl (tsC a b) rfl ?_
   intro g3 z0 n0 r3 k
   simp only [Act.put, pu]
   have b3 := Nat.le_trans sb.size n0
   clear n0
   replace sb := sb.trans (k.below w.heap.size sb.size (by simp <;> omega))
   clear k
   refine pw_boxr (by rfl) 23 _ rfl (tsC c d) rfl ?_
   intro g4 z1 n0 r4 k
   simp only [Act.put, pu]
   have d3x4 := Nat.lt_of_lt_of_le r3.lt n0
   have b4 := Nat.le_trans sb.size n0
   clear n0
   replace r3 := k.row r3 (by simp <;> omega)
   replace sb := sb.trans (k.below w.heap.size sb.size (by simp <;> omega))
   clear k
   refine pw_boxr (by rfl) 23 _ rfl (tsC e f) rfl ?_
   intro g5 z2 n0 r5 k
   simp only [Act.put, pu]
   have d3x5 := Nat.lt_of_lt_of_le r3.lt n0
   have d4x5 := Nat.lt_of_lt_of_le r4.lt n0
   have b5 := Nat.le_trans sb.size n0
   clear n0
   replace r3 := k.row r3 (by simp <;> omega)
   replace r4 := k.row r4 (by simp <;> omega)
   replace sb := sb.trans (k.below w.heap.size sb.size (by simp <;> omega))
   clear k
   refine pw_value (by rfl) (.bool false) (fun _ => rfl) ?_
   simp only [Act.put, pu]
   refine pw_nil ?_
   (repeat ((fail_if_success with_reducible refine rg ?_); go_step))
   refine wp_region_qw (by kernel_rfl) (by kernel_rfl) ?_
   refine qw_loadm (by rfl) 23 _ rfl _ (0) rfl r3 ((tsC a b)) (part_all _) _ Try.underlying23 rfl size_st ?_
   simp only [Act.put, pu]
   refine qw_loadm (by rfl) 23 _ rfl _ (0) rfl r4 ((tsC c d)) (part_all _) _ Try.underlying23 rfl size_st ?_
   simp only [Act.put, pu]
   refine qw_call (by rfl) 9 _ _ rfl Try.func9 (by kernel_rfl) #[.agg (tsC a b), .agg (tsC c d)] rfl _ hAB ?_
   simp only [Act.put, pu]
   refine qw_loadm (by rfl) 23 _ rfl _ (0) rfl r4 ((tsC c d)) (part_all _) _ Try.underlying23 rfl size_st ?_
   simp only [Act.put, pu]
   refine qw_loadm (by rfl) 23 _ rfl _ (0) rfl r5 ((tsC e f)) (part_all _) _ Try.underlying23 rfl size_st ?_
   simp only [Act.put, pu]
   refine qw_call (by rfl) 9 _ _ rfl Try.func9 (by kernel_rfl) #[.agg (tsC c d), .agg (tsC e f)] rfl _ hBC ?_
   simp only [Act.put, pu]
   refine qw_loadm (by rfl) 23 _ rfl _ (0) rfl r3 ((tsC a b)) (part_all _) _ Try.underlying23 rfl size_st ?_
   simp only [Act.put, pu]
   refine qw_loadm (by rfl) 23 _ rfl _ (0) rfl r5 ((tsC e f)) (part_all _) _ Try.underlying23 rfl size_st ?_
   simp only [Act.put, pu]
   refine qw_call (by rfl) 9 _ _ rfl Try.func9 (by kernel_rfl) #[.agg (tsC a b), .agg (tsC e f)] rfl _ hAC ?_
   simp only [Act.put, pu]
   refine qw_asg (by rfl) rfl rfl ?_
   simp only [Act.put, pu]
   refine qw_asg (by rfl) rfl rfl ?_
   simp only [Act.put, pu]
   refine qw_asg (by rfl) rfl rfl ?_
   simp only [Act.put, pu]
   refine qw_nil ?_
   intro w9 hqb
   replace r3 := r3.belowAll hqb
   replace r4 := r4.belowAll hqb
   replace r5 := r5.belowAll hqb
   replace sb := below_on sb (Nat.le_refl _) hqb
   clear hqb
   (repeat ((fail_if_success with_reducible refine rg ?_); go_step))
   refine wp_region_pw ?_
   refine pw_mv (by rfl) rfl rfl ?_
   simp only [Act.put, pu]
   refine pw_loadm (by rfl) 23 _ rfl _ 0 rfl r4.r _ (part_all _) _ Try.underlying23 rfl size_st ?_
   simp only [Act.put, pu]
   refine pw_loadm (by rfl) 23 _ rfl _ 0 rfl r3.r _ (part_all _) _ Try.underlying23 rfl size_st ?_
   simp only [Act.put, pu]
   refine pw_callB (by rfl) 9 _ _ rfl Try.func9 (by kernel_rfl) #[.agg (tsC c d), .agg (tsC a b)] rfl _ (hBA _) ?_
   intro z2003 k
   simp only [Act.put, pu]
   replace r3 := k.row r3 (by simp <;> omega)
   replace r4 := k.row r4 (by simp <;> omega)
   replace r5 := k.row r5 (by simp <;> omega)
   replace sb := sb.trans (k.below w.heap.size sb.size (by simp <;> omega))
   clear k
   refine pw_value (by rfl) (.int .i64 x) (x_neg _ _ rfl u x rfl hneg) ?_
   simp only [Act.put, pu]
   refine pw_value (by rfl) (.bool false) (exec_neq_k .i64 _ _ _ _ rfl (x) (x) rfl rfl false (by rw [decide_eq_true rfl]; rfl)) ?_
   simp only [Act.put, pu]
   refine pw_mv (by rfl) rfl rfl ?_
   simp only [Act.put, pu]
   refine pw_mv (by rfl) rfl rfl ?_
   simp only [Act.put, pu]
   refine pw_value (by rfl) (.bool true) (exec_eql_k .i64 _ _ _ _ rfl x 0 rfl rfl true h0) ?_
   simp only [Act.put, pu]
   refine pw_loadm (by rfl) 23 _ rfl _ 0 rfl r3.r _ (part_all _) _ Try.underlying23 rfl size_st ?_
   simp only [Act.put, pu]
   refine pw_loadm (by rfl) 23 _ rfl _ 0 rfl r4.r _ (part_all _) _ Try.underlying23 rfl size_st ?_
   simp only [Act.put, pu]
   refine pw_value (by rfl) (.bool true) (exec_eql_st _ _ _ rfl a b c d rfl rfl true hs) ?_
   simp only [Act.put, pu]
   refine pw_value (by rfl) (.bool false) (x_neb _ _ _ _ rfl true rfl rfl Try.underlying4) ?_
   simp only [Act.put, pu]
   refine pw_pick (by rfl) false (v := .bool false) rfl rfl rfl ?_
   simp only [Act.put, pu]
   refine pw_mv (by rfl) rfl rfl ?_
   simp only [Act.put, pu]
   refine pw_mv (by rfl) rfl rfl ?_
   simp only [Act.put, pu]
   refine pw_value (by rfl) (.bool false) (exec_gt_i _ _ _ _ rfl (x) (0) rfl rfl false (decide_eq_false (by omega))) ?_
   simp only [Act.put, pu]
   refine pw_mv (by rfl) rfl rfl ?_
   simp only [Act.put, pu]
   refine pw_skip (by rfl) ?_
   simp only [Act.put, pu]
   refine pw_skip (by rfl) ?_
   simp only [Act.put, pu]
   refine pw_pick (by rfl) false (v := .bool false) rfl rfl rfl ?_
   simp only [Act.put, pu]
   refine pw_mv (by rfl) rfl rfl ?_
   simp only [Act.put, pu]
   refine pw_skip (by rfl) ?_
   simp only [Act.put, pu]
   refine pw_skip (by rfl) ?_
   simp only [Act.put, pu]
   refine pw_pick (by rfl) false (v := .bool false) rfl rfl rfl ?_
   simp only [Act.put, pu]
   refine pw_pick (by rfl) false (v := .bool false) rfl rfl rfl ?_
   simp only [Act.put, pu]
   refine pw_nil ?_
   (repeat ((fail_if_success with_reducible refine rg ?_); go_step))
   refine wp_region_pw ?_
   refine pw_value (by rfl) (.pointer (some ⟨g3, 0, none⟩)) (exec_field 23 _ 0 rfl g3 0 rfl _ Try.underlying23 _ rfl 0 Try.sizeOf3) ?_
   simp only [Act.put, pu]
   refine pw_loadk (by rfl) 3 _ rfl _ (0) rfl r3.r (.int .i64 a) rfl Try.isAgg3 ?_
   simp only [Act.put, pu]
   refine pw_value (by rfl) (.pointer (some ⟨g4, 1, none⟩)) (exec_field 23 _ 1 rfl g4 0 rfl _ Try.underlying23 _ rfl 0 Try.sizeOf3) ?_
   simp only [Act.put, pu]
   refine pw_loadk (by rfl) 3 _ rfl _ (1) rfl r4.r (.int .i64 d) rfl Try.isAgg3 ?_
   simp only [Act.put, pu]
   refine pw_callB (by rfl) 7 _ _ rfl Try.func7 (by kernel_rfl) #[.int .i64 a, .int .i64 d] rfl _ (hN _) ?_
   intro z4004 k
   simp only [Act.put, pu]
   replace r3 := k.row r3 (by simp <;> omega)
   replace r4 := k.row r4 (by simp <;> omega)
   replace r5 := k.row r5 (by simp <;> omega)
   replace sb := sb.trans (k.below w.heap.size sb.size (by simp <;> omega))
   clear k
   refine pw_mv (by rfl) rfl rfl ?_
   simp only [Act.put, pu]
   refine pw_ext (by rfl) rfl rfl rfl ?_
   simp only [Act.put, pu]
   refine pw_ext (by rfl) rfl rfl rfl ?_
   simp only [Act.put, pu]
   refine pw_new (by rfl) 23 rfl _ zero_st ?_
   intro g10 z4008 n0 r10 k
   simp only [Act.put, pu]
   have d3x10 := Nat.lt_of_lt_of_le r3.lt n0
   have d4x10 := Nat.lt_of_lt_of_le r4.lt n0
   have d5x10 := Nat.lt_of_lt_of_le r5.lt n0
   have b10 := Nat.le_trans sb.size n0
   clear n0
   replace r3 := k.row r3 (by simp <;> omega)
   replace r4 := k.row r4 (by simp <;> omega)
   replace r5 := k.row r5 (by simp <;> omega)
   replace sb := sb.trans (k.below w.heap.size sb.size (by simp <;> omega))
   clear k
   refine pw_put (by rfl) 23 _ _ rfl _ rfl r10 (tsC s v) rfl (by exact size_st) (by rfl) (st_one _ _) ?_
   clear r10
   intro z4009 r10 k
   simp only [Act.put]
   replace r3 := k.row r3 (by simp <;> omega)
   replace r4 := k.row r4 (by simp <;> omega)
   replace r5 := k.row r5 (by simp <;> omega)
   replace sb := sb.trans (k.below w.heap.size sb.size (by simp <;> omega))
   clear k
   refine pw_as (by rfl) rfl rfl ?_
   simp only [Act.put, pu]
   refine pw_nil ?_
   (repeat ((fail_if_success with_reducible refine rg ?_); go_step))
   refine wp_region_pw ?_
   refine pw_mv (by rfl) rfl rfl ?_
   simp only [Act.put, pu]
   refine pw_value (by rfl) (.bool true) (exec_neq_k .i64 _ _ _ _ rfl (er) (0) rfl rfl true (by rw [decide_eq_false (by omega)]; rfl)) ?_
   simp only [Act.put, pu]
   refine pw_mv (by rfl) rfl rfl ?_
   simp only [Act.put, pu]
   refine pw_skip (by rfl) ?_
   simp only [Act.put, pu]
   refine pw_skip (by rfl) ?_
   simp only [Act.put, pu]
   refine pw_skip (by rfl) ?_
   simp only [Act.put, pu]
   refine pw_skip (by rfl) ?_
   simp only [Act.put, pu]
   refine pw_pick (by rfl) true (v := .bool true) rfl rfl rfl ?_
   simp only [Act.put, pu]
   refine pw_mv (by rfl) rfl rfl ?_
   simp only [Act.put, pu]
   refine pw_callB (by rfl) 13 _ _ rfl Try.func13 (by kernel_rfl) #[] rfl _ (awake_any _) ?_
   intro z5009 k
   simp only [Act.put, pu]
   replace r3 := k.row r3 (by simp <;> omega)
   replace r10 := k.row r10 (by simp <;> omega)
   replace sb := sb.trans (k.below w.heap.size sb.size (by simp <;> omega))
   clear k
   refine pw_pick (by rfl) true (v := .bool true) rfl rfl rfl ?_
   simp only [Act.put, pu]
   refine pw_as (by rfl) rfl rfl ?_
   simp only [Act.put, pu]
   refine pw_nil ?_
   go_wp2
   go_ret
   exact ⟨rfl, sb⟩
 | false =>
  rw [hs] at h0
  by_cases hx : 0 < x
  rotate_left
  ·clear hxyz
   by_cases he : er = 0
   ·replace hL := hL he
    go_enter Try.func6, Try.ntmps6
    have sb := sbmk w
    (repeat ((fail_if_success with_reducible refine rg ?_); go_step))
    refine wp_region_pw ?_
    refine pw_boxr (by rfl) 23 _ rfl (tsC a b) rfl ?_
    intro g3 z0 n0 r3 k
    simp only [Act.put, pu]
    have b3 := Nat.le_trans sb.size n0
    clear n0
    replace sb := sb.trans (k.below w.heap.size sb.size (by simp <;> omega))
    clear k
    refine pw_boxr (by rfl) 23 _ rfl (tsC c d) rfl ?_
    intro g4 z1 n0 r4 k
    simp only [Act.put, pu]
    have d3x4 := Nat.lt_of_lt_of_le r3.lt n0
    have b4 := Nat.le_trans sb.size n0
    clear n0
    replace r3 := k.row r3 (by simp <;> omega)
    replace sb := sb.trans (k.below w.heap.size sb.size (by simp <;> omega))
    clear k
    refine pw_boxr (by rfl) 23 _ rfl (tsC e f) rfl ?_
    intro g5 z2 n0 r5 k
    simp only [Act.put, pu]
    have d3x5 := Nat.lt_of_lt_of_le r3.lt n0
    have d4x5 := Nat.lt_of_lt_of_le r4.lt n0
    have b5 := Nat.le_trans sb.size n0
    clear n0
    replace r3 := k.row r3 (by simp <;> omega)
    replace r4 := k.row r4 (by simp <;> omega)
    replace sb := sb.trans (k.below w.heap.size sb.size (by simp <;> omega))
    clear k
    refine pw_value (by rfl) (.bool false) (fun _ => rfl) ?_
    simp only [Act.put, pu]
    refine pw_nil ?_
    (repeat ((fail_if_success with_reducible refine rg ?_); go_step))
    refine wp_region_qw (by kernel_rfl) (by kernel_rfl) ?_
    refine qw_loadm (by rfl) 23 _ rfl _ (0) rfl r3 ((tsC a b)) (part_all _) _ Try.underlying23 rfl size_st ?_
    simp only [Act.put, pu]
    refine qw_loadm (by rfl) 23 _ rfl _ (0) rfl r4 ((tsC c d)) (part_all _) _ Try.underlying23 rfl size_st ?_
    simp only [Act.put, pu]
    refine qw_call (by rfl) 9 _ _ rfl Try.func9 (by kernel_rfl) #[.agg (tsC a b), .agg (tsC c d)] rfl _ hAB ?_
    simp only [Act.put, pu]
    refine qw_loadm (by rfl) 23 _ rfl _ (0) rfl r4 ((tsC c d)) (part_all _) _ Try.underlying23 rfl size_st ?_
    simp only [Act.put, pu]
    refine qw_loadm (by rfl) 23 _ rfl _ (0) rfl r5 ((tsC e f)) (part_all _) _ Try.underlying23 rfl size_st ?_
    simp only [Act.put, pu]
    refine qw_call (by rfl) 9 _ _ rfl Try.func9 (by kernel_rfl) #[.agg (tsC c d), .agg (tsC e f)] rfl _ hBC ?_
    simp only [Act.put, pu]
    refine qw_loadm (by rfl) 23 _ rfl _ (0) rfl r3 ((tsC a b)) (part_all _) _ Try.underlying23 rfl size_st ?_
    simp only [Act.put, pu]
    refine qw_loadm (by rfl) 23 _ rfl _ (0) rfl r5 ((tsC e f)) (part_all _) _ Try.underlying23 rfl size_st ?_
    simp only [Act.put, pu]
    refine qw_call (by rfl) 9 _ _ rfl Try.func9 (by kernel_rfl) #[.agg (tsC a b), .agg (tsC e f)] rfl _ hAC ?_
    simp only [Act.put, pu]
    refine qw_asg (by rfl) rfl rfl ?_
    simp only [Act.put, pu]
    refine qw_asg (by rfl) rfl rfl ?_
    simp only [Act.put, pu]
    refine qw_asg (by rfl) rfl rfl ?_
    simp only [Act.put, pu]
    refine qw_nil ?_
    intro w9 hqb
    replace r3 := r3.belowAll hqb
    replace r4 := r4.belowAll hqb
    replace r5 := r5.belowAll hqb
    replace sb := below_on sb (Nat.le_refl _) hqb
    clear hqb
    (repeat ((fail_if_success with_reducible refine rg ?_); go_step))
    refine wp_region_pw ?_
    refine pw_mv (by rfl) rfl rfl ?_
    simp only [Act.put, pu]
    refine pw_loadm (by rfl) 23 _ rfl _ 0 rfl r4.r _ (part_all _) _ Try.underlying23 rfl size_st ?_
    simp only [Act.put, pu]
    refine pw_loadm (by rfl) 23 _ rfl _ 0 rfl r3.r _ (part_all _) _ Try.underlying23 rfl size_st ?_
    simp only [Act.put, pu]
    refine pw_callB (by rfl) 9 _ _ rfl Try.func9 (by kernel_rfl) #[.agg (tsC c d), .agg (tsC a b)] rfl _ (hBA _) ?_
    intro z2003 k
    simp only [Act.put, pu]
    replace r3 := k.row r3 (by simp <;> omega)
    replace r4 := k.row r4 (by simp <;> omega)
    replace r5 := k.row r5 (by simp <;> omega)
    replace sb := sb.trans (k.below w.heap.size sb.size (by simp <;> omega))
    clear k
    refine pw_value (by rfl) (.int .i64 x) (x_neg _ _ rfl u x rfl hneg) ?_
    simp only [Act.put, pu]
    refine pw_value (by rfl) (.bool false) (exec_neq_k .i64 _ _ _ _ rfl (x) (x) rfl rfl false (by rw [decide_eq_true rfl]; rfl)) ?_
    simp only [Act.put, pu]
    refine pw_mv (by rfl) rfl rfl ?_
    simp only [Act.put, pu]
    refine pw_mv (by rfl) rfl rfl ?_
    simp only [Act.put, pu]
    refine pw_value (by rfl) (.bool false) (exec_eql_k .i64 _ _ _ _ rfl x 0 rfl rfl false h0) ?_
    simp only [Act.put, pu]
    refine pw_loadm (by rfl) 23 _ rfl _ 0 rfl r3.r _ (part_all _) _ Try.underlying23 rfl size_st ?_
    simp only [Act.put, pu]
    refine pw_loadm (by rfl) 23 _ rfl _ 0 rfl r4.r _ (part_all _) _ Try.underlying23 rfl size_st ?_
    simp only [Act.put, pu]
    refine pw_value (by rfl) (.bool false) (exec_eql_st _ _ _ rfl a b c d rfl rfl false hs) ?_
    simp only [Act.put, pu]
    refine pw_value (by rfl) (.bool false) (x_neb _ _ _ _ rfl false rfl rfl Try.underlying4) ?_
    simp only [Act.put, pu]
    refine pw_pick (by rfl) false (v := .bool false) rfl rfl rfl ?_
    simp only [Act.put, pu]
    refine pw_mv (by rfl) rfl rfl ?_
    simp only [Act.put, pu]
    refine pw_mv (by rfl) rfl rfl ?_
    simp only [Act.put, pu]
    refine pw_value (by rfl) (.bool false) (exec_gt_i _ _ _ _ rfl (x) (0) rfl rfl false (decide_eq_false (by omega))) ?_
    simp only [Act.put, pu]
    refine pw_mv (by rfl) rfl rfl ?_
    simp only [Act.put, pu]
    refine pw_skip (by rfl) ?_
    simp only [Act.put, pu]
    refine pw_skip (by rfl) ?_
    simp only [Act.put, pu]
    refine pw_pick (by rfl) false (v := .bool false) rfl rfl rfl ?_
    simp only [Act.put, pu]
    refine pw_mv (by rfl) rfl rfl ?_
    simp only [Act.put, pu]
    refine pw_skip (by rfl) ?_
    simp only [Act.put, pu]
    refine pw_skip (by rfl) ?_
    simp only [Act.put, pu]
    refine pw_pick (by rfl) false (v := .bool false) rfl rfl rfl ?_
    simp only [Act.put, pu]
    refine pw_pick (by rfl) false (v := .bool false) rfl rfl rfl ?_
    simp only [Act.put, pu]
    refine pw_nil ?_
    (repeat ((fail_if_success with_reducible refine rg ?_); go_step))
    refine wp_region_pw ?_
    refine pw_value (by rfl) (.pointer (some ⟨g3, 0, none⟩)) (exec_field 23 _ 0 rfl g3 0 rfl _ Try.underlying23 _ rfl 0 Try.sizeOf3) ?_
    simp only [Act.put, pu]
    refine pw_loadk (by rfl) 3 _ rfl _ (0) rfl r3.r (.int .i64 a) rfl Try.isAgg3 ?_
    simp only [Act.put, pu]
    refine pw_value (by rfl) (.pointer (some ⟨g4, 1, none⟩)) (exec_field 23 _ 1 rfl g4 0 rfl _ Try.underlying23 _ rfl 0 Try.sizeOf3) ?_
    simp only [Act.put, pu]
    refine pw_loadk (by rfl) 3 _ rfl _ (1) rfl r4.r (.int .i64 d) rfl Try.isAgg3 ?_
    simp only [Act.put, pu]
    refine pw_callB (by rfl) 7 _ _ rfl Try.func7 (by kernel_rfl) #[.int .i64 a, .int .i64 d] rfl _ (hN _) ?_
    intro z4004 k
    simp only [Act.put, pu]
    replace r3 := k.row r3 (by simp <;> omega)
    replace r4 := k.row r4 (by simp <;> omega)
    replace r5 := k.row r5 (by simp <;> omega)
    replace sb := sb.trans (k.below w.heap.size sb.size (by simp <;> omega))
    clear k
    refine pw_mv (by rfl) rfl rfl ?_
    simp only [Act.put, pu]
    refine pw_ext (by rfl) rfl rfl rfl ?_
    simp only [Act.put, pu]
    refine pw_ext (by rfl) rfl rfl rfl ?_
    simp only [Act.put, pu]
    refine pw_new (by rfl) 23 rfl _ zero_st ?_
    intro g10 z4008 n0 r10 k
    simp only [Act.put, pu]
    have d3x10 := Nat.lt_of_lt_of_le r3.lt n0
    have d4x10 := Nat.lt_of_lt_of_le r4.lt n0
    have d5x10 := Nat.lt_of_lt_of_le r5.lt n0
    have b10 := Nat.le_trans sb.size n0
    clear n0
    replace r3 := k.row r3 (by simp <;> omega)
    replace r4 := k.row r4 (by simp <;> omega)
    replace r5 := k.row r5 (by simp <;> omega)
    replace sb := sb.trans (k.below w.heap.size sb.size (by simp <;> omega))
    clear k
    refine pw_put (by rfl) 23 _ _ rfl _ rfl r10 (tsC s v) rfl (by exact size_st) (by rfl) (st_one _ _) ?_
    clear r10
    intro z4009 r10 k
    simp only [Act.put]
    replace r3 := k.row r3 (by simp <;> omega)
    replace r4 := k.row r4 (by simp <;> omega)
    replace r5 := k.row r5 (by simp <;> omega)
    replace sb := sb.trans (k.below w.heap.size sb.size (by simp <;> omega))
    clear k
    refine pw_as (by rfl) rfl rfl ?_
    simp only [Act.put, pu]
    refine pw_nil ?_
    (repeat ((fail_if_success with_reducible refine rg ?_); go_step))
    refine wp_region_pw ?_
    refine pw_mv (by rfl) rfl rfl ?_
    simp only [Act.put, pu]
    refine pw_value (by rfl) (.bool false) (exec_neq_k .i64 _ _ _ _ rfl (er) (0) rfl rfl false (by rw [decide_eq_true (by omega)]; rfl)) ?_
    simp only [Act.put, pu]
    refine pw_mv (by rfl) rfl rfl ?_
    simp only [Act.put, pu]
    refine pw_loadm (by rfl) 23 _ rfl _ 0 rfl r10.r _ (part_all _) _ Try.underlying23 rfl size_st ?_
    simp only [Act.put, pu]
    refine pw_loadm (by rfl) 23 _ rfl _ 0 rfl r3.r _ (part_all _) _ Try.underlying23 rfl size_st ?_
    simp only [Act.put, pu]
    refine pw_callB (by rfl) 9 _ _ rfl Try.func9 (by kernel_rfl) #[.agg (tsC s v), .agg (tsC a b)] rfl _ (hL _) ?_
    intro z5005 k
    simp only [Act.put, pu]
    replace r3 := k.row r3 (by simp <;> omega)
    replace r10 := k.row r10 (by simp <;> omega)
    replace sb := sb.trans (k.below w.heap.size sb.size (by simp <;> omega))
    clear k
    refine pw_value (by rfl) (.bool true) (exec_eql_k .i64 _ _ _ _ rfl (1) (1) rfl rfl true (decide_eq_true rfl)) ?_
    simp only [Act.put, pu]
    refine pw_pick (by rfl) false (v := .bool true) rfl rfl rfl ?_
    simp only [Act.put, pu]
    refine pw_mv (by rfl) rfl rfl ?_
    simp only [Act.put, pu]
    refine pw_callB (by rfl) 13 _ _ rfl Try.func13 (by kernel_rfl) #[] rfl _ (awake_any _) ?_
    intro z5009 k
    simp only [Act.put, pu]
    replace r3 := k.row r3 (by simp <;> omega)
    replace r10 := k.row r10 (by simp <;> omega)
    replace sb := sb.trans (k.below w.heap.size sb.size (by simp <;> omega))
    clear k
    refine pw_pick (by rfl) true (v := .bool true) rfl rfl rfl ?_
    simp only [Act.put, pu]
    refine pw_as (by rfl) rfl rfl ?_
    simp only [Act.put, pu]
    refine pw_nil ?_
    go_wp2
    go_ret
    exact ⟨rfl, sb⟩
   ·clear hL
    go_enter Try.func6, Try.ntmps6
    have sb := sbmk w
    (repeat ((fail_if_success with_reducible refine rg ?_); go_step))
    refine wp_region_pw ?_
    refine pw_boxr (by rfl) 23 _ rfl (tsC a b) rfl ?_
    intro g3 z0 n0 r3 k
    simp only [Act.put, pu]
    have b3 := Nat.le_trans sb.size n0
    clear n0
    replace sb := sb.trans (k.below w.heap.size sb.size (by simp <;> omega))
    clear k
    refine pw_boxr (by rfl) 23 _ rfl (tsC c d) rfl ?_
    intro g4 z1 n0 r4 k
    simp only [Act.put, pu]
    have d3x4 := Nat.lt_of_lt_of_le r3.lt n0
    have b4 := Nat.le_trans sb.size n0
    clear n0
    replace r3 := k.row r3 (by simp <;> omega)
    replace sb := sb.trans (k.below w.heap.size sb.size (by simp <;> omega))
    clear k
    refine pw_boxr (by rfl) 23 _ rfl (tsC e f) rfl ?_
    intro g5 z2 n0 r5 k
    simp only [Act.put, pu]
    have d3x5 := Nat.lt_of_lt_of_le r3.lt n0
    have d4x5 := Nat.lt_of_lt_of_le r4.lt n0
    have b5 := Nat.le_trans sb.size n0
    clear n0
    replace r3 := k.row r3 (by simp <;> omega)
    replace r4 := k.row r4 (by simp <;> omega)
    replace sb := sb.trans (k.below w.heap.size sb.size (by simp <;> omega))
    clear k
    refine pw_value (by rfl) (.bool false) (fun _ => rfl) ?_
    simp only [Act.put, pu]
    refine pw_nil ?_
    (repeat ((fail_if_success with_reducible refine rg ?_); go_step))
    refine wp_region_qw (by kernel_rfl) (by kernel_rfl) ?_
    refine qw_loadm (by rfl) 23 _ rfl _ (0) rfl r3 ((tsC a b)) (part_all _) _ Try.underlying23 rfl size_st ?_
    simp only [Act.put, pu]
    refine qw_loadm (by rfl) 23 _ rfl _ (0) rfl r4 ((tsC c d)) (part_all _) _ Try.underlying23 rfl size_st ?_
    simp only [Act.put, pu]
    refine qw_call (by rfl) 9 _ _ rfl Try.func9 (by kernel_rfl) #[.agg (tsC a b), .agg (tsC c d)] rfl _ hAB ?_
    simp only [Act.put, pu]
    refine qw_loadm (by rfl) 23 _ rfl _ (0) rfl r4 ((tsC c d)) (part_all _) _ Try.underlying23 rfl size_st ?_
    simp only [Act.put, pu]
    refine qw_loadm (by rfl) 23 _ rfl _ (0) rfl r5 ((tsC e f)) (part_all _) _ Try.underlying23 rfl size_st ?_
    simp only [Act.put, pu]
    refine qw_call (by rfl) 9 _ _ rfl Try.func9 (by kernel_rfl) #[.agg (tsC c d), .agg (tsC e f)] rfl _ hBC ?_
    simp only [Act.put, pu]
    refine qw_loadm (by rfl) 23 _ rfl _ (0) rfl r3 ((tsC a b)) (part_all _) _ Try.underlying23 rfl size_st ?_
    simp only [Act.put, pu]
    refine qw_loadm (by rfl) 23 _ rfl _ (0) rfl r5 ((tsC e f)) (part_all _) _ Try.underlying23 rfl size_st ?_
    simp only [Act.put, pu]
    refine qw_call (by rfl) 9 _ _ rfl Try.func9 (by kernel_rfl) #[.agg (tsC a b), .agg (tsC e f)] rfl _ hAC ?_
    simp only [Act.put, pu]
    refine qw_asg (by rfl) rfl rfl ?_
    simp only [Act.put, pu]
    refine qw_asg (by rfl) rfl rfl ?_
    simp only [Act.put, pu]
    refine qw_asg (by rfl) rfl rfl ?_
    simp only [Act.put, pu]
    refine qw_nil ?_
    intro w9 hqb
    replace r3 := r3.belowAll hqb
    replace r4 := r4.belowAll hqb
    replace r5 := r5.belowAll hqb
    replace sb := below_on sb (Nat.le_refl _) hqb
    clear hqb
    (repeat ((fail_if_success with_reducible refine rg ?_); go_step))
    refine wp_region_pw ?_
    refine pw_mv (by rfl) rfl rfl ?_
    simp only [Act.put, pu]
    refine pw_loadm (by rfl) 23 _ rfl _ 0 rfl r4.r _ (part_all _) _ Try.underlying23 rfl size_st ?_
    simp only [Act.put, pu]
    refine pw_loadm (by rfl) 23 _ rfl _ 0 rfl r3.r _ (part_all _) _ Try.underlying23 rfl size_st ?_
    simp only [Act.put, pu]
    refine pw_callB (by rfl) 9 _ _ rfl Try.func9 (by kernel_rfl) #[.agg (tsC c d), .agg (tsC a b)] rfl _ (hBA _) ?_
    intro z2003 k
    simp only [Act.put, pu]
    replace r3 := k.row r3 (by simp <;> omega)
    replace r4 := k.row r4 (by simp <;> omega)
    replace r5 := k.row r5 (by simp <;> omega)
    replace sb := sb.trans (k.below w.heap.size sb.size (by simp <;> omega))
    clear k
    refine pw_value (by rfl) (.int .i64 x) (x_neg _ _ rfl u x rfl hneg) ?_
    simp only [Act.put, pu]
    refine pw_value (by rfl) (.bool false) (exec_neq_k .i64 _ _ _ _ rfl (x) (x) rfl rfl false (by rw [decide_eq_true rfl]; rfl)) ?_
    simp only [Act.put, pu]
    refine pw_mv (by rfl) rfl rfl ?_
    simp only [Act.put, pu]
    refine pw_mv (by rfl) rfl rfl ?_
    simp only [Act.put, pu]
    refine pw_value (by rfl) (.bool false) (exec_eql_k .i64 _ _ _ _ rfl x 0 rfl rfl false h0) ?_
    simp only [Act.put, pu]
    refine pw_loadm (by rfl) 23 _ rfl _ 0 rfl r3.r _ (part_all _) _ Try.underlying23 rfl size_st ?_
    simp only [Act.put, pu]
    refine pw_loadm (by rfl) 23 _ rfl _ 0 rfl r4.r _ (part_all _) _ Try.underlying23 rfl size_st ?_
    simp only [Act.put, pu]
    refine pw_value (by rfl) (.bool false) (exec_eql_st _ _ _ rfl a b c d rfl rfl false hs) ?_
    simp only [Act.put, pu]
    refine pw_value (by rfl) (.bool false) (x_neb _ _ _ _ rfl false rfl rfl Try.underlying4) ?_
    simp only [Act.put, pu]
    refine pw_pick (by rfl) false (v := .bool false) rfl rfl rfl ?_
    simp only [Act.put, pu]
    refine pw_mv (by rfl) rfl rfl ?_
    simp only [Act.put, pu]
    refine pw_mv (by rfl) rfl rfl ?_
    simp only [Act.put, pu]
    refine pw_value (by rfl) (.bool false) (exec_gt_i _ _ _ _ rfl (x) (0) rfl rfl false (decide_eq_false (by omega))) ?_
    simp only [Act.put, pu]
    refine pw_mv (by rfl) rfl rfl ?_
    simp only [Act.put, pu]
    refine pw_skip (by rfl) ?_
    simp only [Act.put, pu]
    refine pw_skip (by rfl) ?_
    simp only [Act.put, pu]
    refine pw_pick (by rfl) false (v := .bool false) rfl rfl rfl ?_
    simp only [Act.put, pu]
    refine pw_mv (by rfl) rfl rfl ?_
    simp only [Act.put, pu]
    refine pw_skip (by rfl) ?_
    simp only [Act.put, pu]
    refine pw_skip (by rfl) ?_
    simp only [Act.put, pu]
    refine pw_pick (by rfl) false (v := .bool false) rfl rfl rfl ?_
    simp only [Act.put, pu]
    refine pw_pick (by rfl) false (v := .bool false) rfl rfl rfl ?_
    simp only [Act.put, pu]
    refine pw_nil ?_
    (repeat ((fail_if_success with_reducible refine rg ?_); go_step))
    refine wp_region_pw ?_
    refine pw_value (by rfl) (.pointer (some ⟨g3, 0, none⟩)) (exec_field 23 _ 0 rfl g3 0 rfl _ Try.underlying23 _ rfl 0 Try.sizeOf3) ?_
    simp only [Act.put, pu]
    refine pw_loadk (by rfl) 3 _ rfl _ (0) rfl r3.r (.int .i64 a) rfl Try.isAgg3 ?_
    simp only [Act.put, pu]
    refine pw_value (by rfl) (.pointer (some ⟨g4, 1, none⟩)) (exec_field 23 _ 1 rfl g4 0 rfl _ Try.underlying23 _ rfl 0 Try.sizeOf3) ?_
    simp only [Act.put, pu]
    refine pw_loadk (by rfl) 3 _ rfl _ (1) rfl r4.r (.int .i64 d) rfl Try.isAgg3 ?_
    simp only [Act.put, pu]
    refine pw_callB (by rfl) 7 _ _ rfl Try.func7 (by kernel_rfl) #[.int .i64 a, .int .i64 d] rfl _ (hN _) ?_
    intro z4004 k
    simp only [Act.put, pu]
    replace r3 := k.row r3 (by simp <;> omega)
    replace r4 := k.row r4 (by simp <;> omega)
    replace r5 := k.row r5 (by simp <;> omega)
    replace sb := sb.trans (k.below w.heap.size sb.size (by simp <;> omega))
    clear k
    refine pw_mv (by rfl) rfl rfl ?_
    simp only [Act.put, pu]
    refine pw_ext (by rfl) rfl rfl rfl ?_
    simp only [Act.put, pu]
    refine pw_ext (by rfl) rfl rfl rfl ?_
    simp only [Act.put, pu]
    refine pw_new (by rfl) 23 rfl _ zero_st ?_
    intro g10 z4008 n0 r10 k
    simp only [Act.put, pu]
    have d3x10 := Nat.lt_of_lt_of_le r3.lt n0
    have d4x10 := Nat.lt_of_lt_of_le r4.lt n0
    have d5x10 := Nat.lt_of_lt_of_le r5.lt n0
    have b10 := Nat.le_trans sb.size n0
    clear n0
    replace r3 := k.row r3 (by simp <;> omega)
    replace r4 := k.row r4 (by simp <;> omega)
    replace r5 := k.row r5 (by simp <;> omega)
    replace sb := sb.trans (k.below w.heap.size sb.size (by simp <;> omega))
    clear k
    refine pw_put (by rfl) 23 _ _ rfl _ rfl r10 (tsC s v) rfl (by exact size_st) (by rfl) (st_one _ _) ?_
    clear r10
    intro z4009 r10 k
    simp only [Act.put]
    replace r3 := k.row r3 (by simp <;> omega)
    replace r4 := k.row r4 (by simp <;> omega)
    replace r5 := k.row r5 (by simp <;> omega)
    replace sb := sb.trans (k.below w.heap.size sb.size (by simp <;> omega))
    clear k
    refine pw_as (by rfl) rfl rfl ?_
    simp only [Act.put, pu]
    refine pw_nil ?_
    (repeat ((fail_if_success with_reducible refine rg ?_); go_step))
    refine wp_region_pw ?_
    refine pw_mv (by rfl) rfl rfl ?_
    simp only [Act.put, pu]
    refine pw_value (by rfl) (.bool true) (exec_neq_k .i64 _ _ _ _ rfl (er) (0) rfl rfl true (by rw [decide_eq_false (by omega)]; rfl)) ?_
    simp only [Act.put, pu]
    refine pw_mv (by rfl) rfl rfl ?_
    simp only [Act.put, pu]
    refine pw_skip (by rfl) ?_
    simp only [Act.put, pu]
    refine pw_skip (by rfl) ?_
    simp only [Act.put, pu]
    refine pw_skip (by rfl) ?_
    simp only [Act.put, pu]
    refine pw_skip (by rfl) ?_
    simp only [Act.put, pu]
    refine pw_pick (by rfl) true (v := .bool true) rfl rfl rfl ?_
    simp only [Act.put, pu]
    refine pw_mv (by rfl) rfl rfl ?_
    simp only [Act.put, pu]
    refine pw_callB (by rfl) 13 _ _ rfl Try.func13 (by kernel_rfl) #[] rfl _ (awake_any _) ?_
    intro z5009 k
    simp only [Act.put, pu]
    replace r3 := k.row r3 (by simp <;> omega)
    replace r10 := k.row r10 (by simp <;> omega)
    replace sb := sb.trans (k.below w.heap.size sb.size (by simp <;> omega))
    clear k
    refine pw_pick (by rfl) true (v := .bool true) rfl rfl rfl ?_
    simp only [Act.put, pu]
    refine pw_as (by rfl) rfl rfl ?_
    simp only [Act.put, pu]
    refine pw_nil ?_
    go_wp2
    go_ret
    exact ⟨rfl, sb⟩
  replace hxyz := hxyz hx
  by_cases hy : 0 < y
  ·replace hxyz := hxyz hy
   by_cases he : er = 0
   ·replace hL := hL he
    go_enter Try.func6, Try.ntmps6
    have sb := sbmk w
    (repeat ((fail_if_success with_reducible refine rg ?_); go_step))
    refine wp_region_pw ?_
    refine pw_boxr (by rfl) 23 _ rfl (tsC a b) rfl ?_
    intro g3 z0 n0 r3 k
    simp only [Act.put, pu]
    have b3 := Nat.le_trans sb.size n0
    clear n0
    replace sb := sb.trans (k.below w.heap.size sb.size (by simp <;> omega))
    clear k
    refine pw_boxr (by rfl) 23 _ rfl (tsC c d) rfl ?_
    intro g4 z1 n0 r4 k
    simp only [Act.put, pu]
    have d3x4 := Nat.lt_of_lt_of_le r3.lt n0
    have b4 := Nat.le_trans sb.size n0
    clear n0
    replace r3 := k.row r3 (by simp <;> omega)
    replace sb := sb.trans (k.below w.heap.size sb.size (by simp <;> omega))
    clear k
    refine pw_boxr (by rfl) 23 _ rfl (tsC e f) rfl ?_
    intro g5 z2 n0 r5 k
    simp only [Act.put, pu]
    have d3x5 := Nat.lt_of_lt_of_le r3.lt n0
    have d4x5 := Nat.lt_of_lt_of_le r4.lt n0
    have b5 := Nat.le_trans sb.size n0
    clear n0
    replace r3 := k.row r3 (by simp <;> omega)
    replace r4 := k.row r4 (by simp <;> omega)
    replace sb := sb.trans (k.below w.heap.size sb.size (by simp <;> omega))
    clear k
    refine pw_value (by rfl) (.bool false) (fun _ => rfl) ?_
    simp only [Act.put, pu]
    refine pw_nil ?_
    (repeat ((fail_if_success with_reducible refine rg ?_); go_step))
    refine wp_region_qw (by kernel_rfl) (by kernel_rfl) ?_
    refine qw_loadm (by rfl) 23 _ rfl _ (0) rfl r3 ((tsC a b)) (part_all _) _ Try.underlying23 rfl size_st ?_
    simp only [Act.put, pu]
    refine qw_loadm (by rfl) 23 _ rfl _ (0) rfl r4 ((tsC c d)) (part_all _) _ Try.underlying23 rfl size_st ?_
    simp only [Act.put, pu]
    refine qw_call (by rfl) 9 _ _ rfl Try.func9 (by kernel_rfl) #[.agg (tsC a b), .agg (tsC c d)] rfl _ hAB ?_
    simp only [Act.put, pu]
    refine qw_loadm (by rfl) 23 _ rfl _ (0) rfl r4 ((tsC c d)) (part_all _) _ Try.underlying23 rfl size_st ?_
    simp only [Act.put, pu]
    refine qw_loadm (by rfl) 23 _ rfl _ (0) rfl r5 ((tsC e f)) (part_all _) _ Try.underlying23 rfl size_st ?_
    simp only [Act.put, pu]
    refine qw_call (by rfl) 9 _ _ rfl Try.func9 (by kernel_rfl) #[.agg (tsC c d), .agg (tsC e f)] rfl _ hBC ?_
    simp only [Act.put, pu]
    refine qw_loadm (by rfl) 23 _ rfl _ (0) rfl r3 ((tsC a b)) (part_all _) _ Try.underlying23 rfl size_st ?_
    simp only [Act.put, pu]
    refine qw_loadm (by rfl) 23 _ rfl _ (0) rfl r5 ((tsC e f)) (part_all _) _ Try.underlying23 rfl size_st ?_
    simp only [Act.put, pu]
    refine qw_call (by rfl) 9 _ _ rfl Try.func9 (by kernel_rfl) #[.agg (tsC a b), .agg (tsC e f)] rfl _ hAC ?_
    simp only [Act.put, pu]
    refine qw_asg (by rfl) rfl rfl ?_
    simp only [Act.put, pu]
    refine qw_asg (by rfl) rfl rfl ?_
    simp only [Act.put, pu]
    refine qw_asg (by rfl) rfl rfl ?_
    simp only [Act.put, pu]
    refine qw_nil ?_
    intro w9 hqb
    replace r3 := r3.belowAll hqb
    replace r4 := r4.belowAll hqb
    replace r5 := r5.belowAll hqb
    replace sb := below_on sb (Nat.le_refl _) hqb
    clear hqb
    (repeat ((fail_if_success with_reducible refine rg ?_); go_step))
    refine wp_region_pw ?_
    refine pw_mv (by rfl) rfl rfl ?_
    simp only [Act.put, pu]
    refine pw_loadm (by rfl) 23 _ rfl _ 0 rfl r4.r _ (part_all _) _ Try.underlying23 rfl size_st ?_
    simp only [Act.put, pu]
    refine pw_loadm (by rfl) 23 _ rfl _ 0 rfl r3.r _ (part_all _) _ Try.underlying23 rfl size_st ?_
    simp only [Act.put, pu]
    refine pw_callB (by rfl) 9 _ _ rfl Try.func9 (by kernel_rfl) #[.agg (tsC c d), .agg (tsC a b)] rfl _ (hBA _) ?_
    intro z2003 k
    simp only [Act.put, pu]
    replace r3 := k.row r3 (by simp <;> omega)
    replace r4 := k.row r4 (by simp <;> omega)
    replace r5 := k.row r5 (by simp <;> omega)
    replace sb := sb.trans (k.below w.heap.size sb.size (by simp <;> omega))
    clear k
    refine pw_value (by rfl) (.int .i64 x) (x_neg _ _ rfl u x rfl hneg) ?_
    simp only [Act.put, pu]
    refine pw_value (by rfl) (.bool false) (exec_neq_k .i64 _ _ _ _ rfl (x) (x) rfl rfl false (by rw [decide_eq_true rfl]; rfl)) ?_
    simp only [Act.put, pu]
    refine pw_mv (by rfl) rfl rfl ?_
    simp only [Act.put, pu]
    refine pw_mv (by rfl) rfl rfl ?_
    simp only [Act.put, pu]
    refine pw_value (by rfl) (.bool false) (exec_eql_k .i64 _ _ _ _ rfl x 0 rfl rfl false h0) ?_
    simp only [Act.put, pu]
    refine pw_loadm (by rfl) 23 _ rfl _ 0 rfl r3.r _ (part_all _) _ Try.underlying23 rfl size_st ?_
    simp only [Act.put, pu]
    refine pw_loadm (by rfl) 23 _ rfl _ 0 rfl r4.r _ (part_all _) _ Try.underlying23 rfl size_st ?_
    simp only [Act.put, pu]
    refine pw_value (by rfl) (.bool false) (exec_eql_st _ _ _ rfl a b c d rfl rfl false hs) ?_
    simp only [Act.put, pu]
    refine pw_value (by rfl) (.bool false) (x_neb _ _ _ _ rfl false rfl rfl Try.underlying4) ?_
    simp only [Act.put, pu]
    refine pw_pick (by rfl) false (v := .bool false) rfl rfl rfl ?_
    simp only [Act.put, pu]
    refine pw_mv (by rfl) rfl rfl ?_
    simp only [Act.put, pu]
    refine pw_mv (by rfl) rfl rfl ?_
    simp only [Act.put, pu]
    refine pw_value (by rfl) (.bool true) (exec_gt_i _ _ _ _ rfl (x) (0) rfl rfl true (decide_eq_true (by omega))) ?_
    simp only [Act.put, pu]
    refine pw_mv (by rfl) rfl rfl ?_
    simp only [Act.put, pu]
    refine pw_mv (by rfl) rfl rfl ?_
    simp only [Act.put, pu]
    refine pw_value (by rfl) (.bool true) (exec_gt_i _ _ _ _ rfl (y) (0) rfl rfl true (decide_eq_true (by omega))) ?_
    simp only [Act.put, pu]
    refine pw_pick (by rfl) true (v := .bool true) rfl rfl rfl ?_
    simp only [Act.put, pu]
    refine pw_mv (by rfl) rfl rfl ?_
    simp only [Act.put, pu]
    refine pw_mv (by rfl) rfl rfl ?_
    simp only [Act.put, pu]
    refine pw_value (by rfl) (.bool false) (exec_leq_i _ _ _ _ rfl (z) (0) rfl rfl false (decide_eq_false (by omega))) ?_
    simp only [Act.put, pu]
    refine pw_pick (by rfl) true (v := .bool false) rfl rfl rfl ?_
    simp only [Act.put, pu]
    refine pw_pick (by rfl) false (v := .bool false) rfl rfl rfl ?_
    simp only [Act.put, pu]
    refine pw_nil ?_
    (repeat ((fail_if_success with_reducible refine rg ?_); go_step))
    refine wp_region_pw ?_
    refine pw_value (by rfl) (.pointer (some ⟨g3, 0, none⟩)) (exec_field 23 _ 0 rfl g3 0 rfl _ Try.underlying23 _ rfl 0 Try.sizeOf3) ?_
    simp only [Act.put, pu]
    refine pw_loadk (by rfl) 3 _ rfl _ (0) rfl r3.r (.int .i64 a) rfl Try.isAgg3 ?_
    simp only [Act.put, pu]
    refine pw_value (by rfl) (.pointer (some ⟨g4, 1, none⟩)) (exec_field 23 _ 1 rfl g4 0 rfl _ Try.underlying23 _ rfl 0 Try.sizeOf3) ?_
    simp only [Act.put, pu]
    refine pw_loadk (by rfl) 3 _ rfl _ (1) rfl r4.r (.int .i64 d) rfl Try.isAgg3 ?_
    simp only [Act.put, pu]
    refine pw_callB (by rfl) 7 _ _ rfl Try.func7 (by kernel_rfl) #[.int .i64 a, .int .i64 d] rfl _ (hN _) ?_
    intro z4004 k
    simp only [Act.put, pu]
    replace r3 := k.row r3 (by simp <;> omega)
    replace r4 := k.row r4 (by simp <;> omega)
    replace r5 := k.row r5 (by simp <;> omega)
    replace sb := sb.trans (k.below w.heap.size sb.size (by simp <;> omega))
    clear k
    refine pw_mv (by rfl) rfl rfl ?_
    simp only [Act.put, pu]
    refine pw_ext (by rfl) rfl rfl rfl ?_
    simp only [Act.put, pu]
    refine pw_ext (by rfl) rfl rfl rfl ?_
    simp only [Act.put, pu]
    refine pw_new (by rfl) 23 rfl _ zero_st ?_
    intro g10 z4008 n0 r10 k
    simp only [Act.put, pu]
    have d3x10 := Nat.lt_of_lt_of_le r3.lt n0
    have d4x10 := Nat.lt_of_lt_of_le r4.lt n0
    have d5x10 := Nat.lt_of_lt_of_le r5.lt n0
    have b10 := Nat.le_trans sb.size n0
    clear n0
    replace r3 := k.row r3 (by simp <;> omega)
    replace r4 := k.row r4 (by simp <;> omega)
    replace r5 := k.row r5 (by simp <;> omega)
    replace sb := sb.trans (k.below w.heap.size sb.size (by simp <;> omega))
    clear k
    refine pw_put (by rfl) 23 _ _ rfl _ rfl r10 (tsC s v) rfl (by exact size_st) (by rfl) (st_one _ _) ?_
    clear r10
    intro z4009 r10 k
    simp only [Act.put]
    replace r3 := k.row r3 (by simp <;> omega)
    replace r4 := k.row r4 (by simp <;> omega)
    replace r5 := k.row r5 (by simp <;> omega)
    replace sb := sb.trans (k.below w.heap.size sb.size (by simp <;> omega))
    clear k
    refine pw_as (by rfl) rfl rfl ?_
    simp only [Act.put, pu]
    refine pw_nil ?_
    (repeat ((fail_if_success with_reducible refine rg ?_); go_step))
    refine wp_region_pw ?_
    refine pw_mv (by rfl) rfl rfl ?_
    simp only [Act.put, pu]
    refine pw_value (by rfl) (.bool false) (exec_neq_k .i64 _ _ _ _ rfl (er) (0) rfl rfl false (by rw [decide_eq_true (by omega)]; rfl)) ?_
    simp only [Act.put, pu]
    refine pw_mv (by rfl) rfl rfl ?_
    simp only [Act.put, pu]
    refine pw_loadm (by rfl) 23 _ rfl _ 0 rfl r10.r _ (part_all _) _ Try.underlying23 rfl size_st ?_
    simp only [Act.put, pu]
    refine pw_loadm (by rfl) 23 _ rfl _ 0 rfl r3.r _ (part_all _) _ Try.underlying23 rfl size_st ?_
    simp only [Act.put, pu]
    refine pw_callB (by rfl) 9 _ _ rfl Try.func9 (by kernel_rfl) #[.agg (tsC s v), .agg (tsC a b)] rfl _ (hL _) ?_
    intro z5005 k
    simp only [Act.put, pu]
    replace r3 := k.row r3 (by simp <;> omega)
    replace r10 := k.row r10 (by simp <;> omega)
    replace sb := sb.trans (k.below w.heap.size sb.size (by simp <;> omega))
    clear k
    refine pw_value (by rfl) (.bool true) (exec_eql_k .i64 _ _ _ _ rfl (1) (1) rfl rfl true (decide_eq_true rfl)) ?_
    simp only [Act.put, pu]
    refine pw_pick (by rfl) false (v := .bool true) rfl rfl rfl ?_
    simp only [Act.put, pu]
    refine pw_mv (by rfl) rfl rfl ?_
    simp only [Act.put, pu]
    refine pw_callB (by rfl) 13 _ _ rfl Try.func13 (by kernel_rfl) #[] rfl _ (awake_any _) ?_
    intro z5009 k
    simp only [Act.put, pu]
    replace r3 := k.row r3 (by simp <;> omega)
    replace r10 := k.row r10 (by simp <;> omega)
    replace sb := sb.trans (k.below w.heap.size sb.size (by simp <;> omega))
    clear k
    refine pw_pick (by rfl) true (v := .bool true) rfl rfl rfl ?_
    simp only [Act.put, pu]
    refine pw_as (by rfl) rfl rfl ?_
    simp only [Act.put, pu]
    refine pw_nil ?_
    go_wp2
    go_ret
    exact ⟨rfl, sb⟩
   ·clear hL
    go_enter Try.func6, Try.ntmps6
    have sb := sbmk w
    (repeat ((fail_if_success with_reducible refine rg ?_); go_step))
    refine wp_region_pw ?_
    refine pw_boxr (by rfl) 23 _ rfl (tsC a b) rfl ?_
    intro g3 z0 n0 r3 k
    simp only [Act.put, pu]
    have b3 := Nat.le_trans sb.size n0
    clear n0
    replace sb := sb.trans (k.below w.heap.size sb.size (by simp <;> omega))
    clear k
    refine pw_boxr (by rfl) 23 _ rfl (tsC c d) rfl ?_
    intro g4 z1 n0 r4 k
    simp only [Act.put, pu]
    have d3x4 := Nat.lt_of_lt_of_le r3.lt n0
    have b4 := Nat.le_trans sb.size n0
    clear n0
    replace r3 := k.row r3 (by simp <;> omega)
    replace sb := sb.trans (k.below w.heap.size sb.size (by simp <;> omega))
    clear k
    refine pw_boxr (by rfl) 23 _ rfl (tsC e f) rfl ?_
    intro g5 z2 n0 r5 k
    simp only [Act.put, pu]
    have d3x5 := Nat.lt_of_lt_of_le r3.lt n0
    have d4x5 := Nat.lt_of_lt_of_le r4.lt n0
    have b5 := Nat.le_trans sb.size n0
    clear n0
    replace r3 := k.row r3 (by simp <;> omega)
    replace r4 := k.row r4 (by simp <;> omega)
    replace sb := sb.trans (k.below w.heap.size sb.size (by simp <;> omega))
    clear k
    refine pw_value (by rfl) (.bool false) (fun _ => rfl) ?_
    simp only [Act.put, pu]
    refine pw_nil ?_
    (repeat ((fail_if_success with_reducible refine rg ?_); go_step))
    refine wp_region_qw (by kernel_rfl) (by kernel_rfl) ?_
    refine qw_loadm (by rfl) 23 _ rfl _ (0) rfl r3 ((tsC a b)) (part_all _) _ Try.underlying23 rfl size_st ?_
    simp only [Act.put, pu]
    refine qw_loadm (by rfl) 23 _ rfl _ (0) rfl r4 ((tsC c d)) (part_all _) _ Try.underlying23 rfl size_st ?_
    simp only [Act.put, pu]
    refine qw_call (by rfl) 9 _ _ rfl Try.func9 (by kernel_rfl) #[.agg (tsC a b), .agg (tsC c d)] rfl _ hAB ?_
    simp only [Act.put, pu]
    refine qw_loadm (by rfl) 23 _ rfl _ (0) rfl r4 ((tsC c d)) (part_all _) _ Try.underlying23 rfl size_st ?_
    simp only [Act.put, pu]
    refine qw_loadm (by rfl) 23 _ rfl _ (0) rfl r5 ((tsC e f)) (part_all _) _ Try.underlying23 rfl size_st ?_
    simp only [Act.put, pu]
    refine qw_call (by rfl) 9 _ _ rfl Try.func9 (by kernel_rfl) #[.agg (tsC c d), .agg (tsC e f)] rfl _ hBC ?_
    simp only [Act.put, pu]
    refine qw_loadm (by rfl) 23 _ rfl _ (0) rfl r3 ((tsC a b)) (part_all _) _ Try.underlying23 rfl size_st ?_
    simp only [Act.put, pu]
    refine qw_loadm (by rfl) 23 _ rfl _ (0) rfl r5 ((tsC e f)) (part_all _) _ Try.underlying23 rfl size_st ?_
    simp only [Act.put, pu]
    refine qw_call (by rfl) 9 _ _ rfl Try.func9 (by kernel_rfl) #[.agg (tsC a b), .agg (tsC e f)] rfl _ hAC ?_
    simp only [Act.put, pu]
    refine qw_asg (by rfl) rfl rfl ?_
    simp only [Act.put, pu]
    refine qw_asg (by rfl) rfl rfl ?_
    simp only [Act.put, pu]
    refine qw_asg (by rfl) rfl rfl ?_
    simp only [Act.put, pu]
    refine qw_nil ?_
    intro w9 hqb
    replace r3 := r3.belowAll hqb
    replace r4 := r4.belowAll hqb
    replace r5 := r5.belowAll hqb
    replace sb := below_on sb (Nat.le_refl _) hqb
    clear hqb
    (repeat ((fail_if_success with_reducible refine rg ?_); go_step))
    refine wp_region_pw ?_
    refine pw_mv (by rfl) rfl rfl ?_
    simp only [Act.put, pu]
    refine pw_loadm (by rfl) 23 _ rfl _ 0 rfl r4.r _ (part_all _) _ Try.underlying23 rfl size_st ?_
    simp only [Act.put, pu]
    refine pw_loadm (by rfl) 23 _ rfl _ 0 rfl r3.r _ (part_all _) _ Try.underlying23 rfl size_st ?_
    simp only [Act.put, pu]
    refine pw_callB (by rfl) 9 _ _ rfl Try.func9 (by kernel_rfl) #[.agg (tsC c d), .agg (tsC a b)] rfl _ (hBA _) ?_
    intro z2003 k
    simp only [Act.put, pu]
    replace r3 := k.row r3 (by simp <;> omega)
    replace r4 := k.row r4 (by simp <;> omega)
    replace r5 := k.row r5 (by simp <;> omega)
    replace sb := sb.trans (k.below w.heap.size sb.size (by simp <;> omega))
    clear k
    refine pw_value (by rfl) (.int .i64 x) (x_neg _ _ rfl u x rfl hneg) ?_
    simp only [Act.put, pu]
    refine pw_value (by rfl) (.bool false) (exec_neq_k .i64 _ _ _ _ rfl (x) (x) rfl rfl false (by rw [decide_eq_true rfl]; rfl)) ?_
    simp only [Act.put, pu]
    refine pw_mv (by rfl) rfl rfl ?_
    simp only [Act.put, pu]
    refine pw_mv (by rfl) rfl rfl ?_
    simp only [Act.put, pu]
    refine pw_value (by rfl) (.bool false) (exec_eql_k .i64 _ _ _ _ rfl x 0 rfl rfl false h0) ?_
    simp only [Act.put, pu]
    refine pw_loadm (by rfl) 23 _ rfl _ 0 rfl r3.r _ (part_all _) _ Try.underlying23 rfl size_st ?_
    simp only [Act.put, pu]
    refine pw_loadm (by rfl) 23 _ rfl _ 0 rfl r4.r _ (part_all _) _ Try.underlying23 rfl size_st ?_
    simp only [Act.put, pu]
    refine pw_value (by rfl) (.bool false) (exec_eql_st _ _ _ rfl a b c d rfl rfl false hs) ?_
    simp only [Act.put, pu]
    refine pw_value (by rfl) (.bool false) (x_neb _ _ _ _ rfl false rfl rfl Try.underlying4) ?_
    simp only [Act.put, pu]
    refine pw_pick (by rfl) false (v := .bool false) rfl rfl rfl ?_
    simp only [Act.put, pu]
    refine pw_mv (by rfl) rfl rfl ?_
    simp only [Act.put, pu]
    refine pw_mv (by rfl) rfl rfl ?_
    simp only [Act.put, pu]
    refine pw_value (by rfl) (.bool true) (exec_gt_i _ _ _ _ rfl (x) (0) rfl rfl true (decide_eq_true (by omega))) ?_
    simp only [Act.put, pu]
    refine pw_mv (by rfl) rfl rfl ?_
    simp only [Act.put, pu]
    refine pw_mv (by rfl) rfl rfl ?_
    simp only [Act.put, pu]
    refine pw_value (by rfl) (.bool true) (exec_gt_i _ _ _ _ rfl (y) (0) rfl rfl true (decide_eq_true (by omega))) ?_
    simp only [Act.put, pu]
    refine pw_pick (by rfl) true (v := .bool true) rfl rfl rfl ?_
    simp only [Act.put, pu]
    refine pw_mv (by rfl) rfl rfl ?_
    simp only [Act.put, pu]
    refine pw_mv (by rfl) rfl rfl ?_
    simp only [Act.put, pu]
    refine pw_value (by rfl) (.bool false) (exec_leq_i _ _ _ _ rfl (z) (0) rfl rfl false (decide_eq_false (by omega))) ?_
    simp only [Act.put, pu]
    refine pw_pick (by rfl) true (v := .bool false) rfl rfl rfl ?_
    simp only [Act.put, pu]
    refine pw_pick (by rfl) false (v := .bool false) rfl rfl rfl ?_
    simp only [Act.put, pu]
    refine pw_nil ?_
    (repeat ((fail_if_success with_reducible refine rg ?_); go_step))
    refine wp_region_pw ?_
    refine pw_value (by rfl) (.pointer (some ⟨g3, 0, none⟩)) (exec_field 23 _ 0 rfl g3 0 rfl _ Try.underlying23 _ rfl 0 Try.sizeOf3) ?_
    simp only [Act.put, pu]
    refine pw_loadk (by rfl) 3 _ rfl _ (0) rfl r3.r (.int .i64 a) rfl Try.isAgg3 ?_
    simp only [Act.put, pu]
    refine pw_value (by rfl) (.pointer (some ⟨g4, 1, none⟩)) (exec_field 23 _ 1 rfl g4 0 rfl _ Try.underlying23 _ rfl 0 Try.sizeOf3) ?_
    simp only [Act.put, pu]
    refine pw_loadk (by rfl) 3 _ rfl _ (1) rfl r4.r (.int .i64 d) rfl Try.isAgg3 ?_
    simp only [Act.put, pu]
    refine pw_callB (by rfl) 7 _ _ rfl Try.func7 (by kernel_rfl) #[.int .i64 a, .int .i64 d] rfl _ (hN _) ?_
    intro z4004 k
    simp only [Act.put, pu]
    replace r3 := k.row r3 (by simp <;> omega)
    replace r4 := k.row r4 (by simp <;> omega)
    replace r5 := k.row r5 (by simp <;> omega)
    replace sb := sb.trans (k.below w.heap.size sb.size (by simp <;> omega))
    clear k
    refine pw_mv (by rfl) rfl rfl ?_
    simp only [Act.put, pu]
    refine pw_ext (by rfl) rfl rfl rfl ?_
    simp only [Act.put, pu]
    refine pw_ext (by rfl) rfl rfl rfl ?_
    simp only [Act.put, pu]
    refine pw_new (by rfl) 23 rfl _ zero_st ?_
    intro g10 z4008 n0 r10 k
    simp only [Act.put, pu]
    have d3x10 := Nat.lt_of_lt_of_le r3.lt n0
    have d4x10 := Nat.lt_of_lt_of_le r4.lt n0
    have d5x10 := Nat.lt_of_lt_of_le r5.lt n0
    have b10 := Nat.le_trans sb.size n0
    clear n0
    replace r3 := k.row r3 (by simp <;> omega)
    replace r4 := k.row r4 (by simp <;> omega)
    replace r5 := k.row r5 (by simp <;> omega)
    replace sb := sb.trans (k.below w.heap.size sb.size (by simp <;> omega))
    clear k
    refine pw_put (by rfl) 23 _ _ rfl _ rfl r10 (tsC s v) rfl (by exact size_st) (by rfl) (st_one _ _) ?_
    clear r10
    intro z4009 r10 k
    simp only [Act.put]
    replace r3 := k.row r3 (by simp <;> omega)
    replace r4 := k.row r4 (by simp <;> omega)
    replace r5 := k.row r5 (by simp <;> omega)
    replace sb := sb.trans (k.below w.heap.size sb.size (by simp <;> omega))
    clear k
    refine pw_as (by rfl) rfl rfl ?_
    simp only [Act.put, pu]
    refine pw_nil ?_
    (repeat ((fail_if_success with_reducible refine rg ?_); go_step))
    refine wp_region_pw ?_
    refine pw_mv (by rfl) rfl rfl ?_
    simp only [Act.put, pu]
    refine pw_value (by rfl) (.bool true) (exec_neq_k .i64 _ _ _ _ rfl (er) (0) rfl rfl true (by rw [decide_eq_false (by omega)]; rfl)) ?_
    simp only [Act.put, pu]
    refine pw_mv (by rfl) rfl rfl ?_
    simp only [Act.put, pu]
    refine pw_skip (by rfl) ?_
    simp only [Act.put, pu]
    refine pw_skip (by rfl) ?_
    simp only [Act.put, pu]
    refine pw_skip (by rfl) ?_
    simp only [Act.put, pu]
    refine pw_skip (by rfl) ?_
    simp only [Act.put, pu]
    refine pw_pick (by rfl) true (v := .bool true) rfl rfl rfl ?_
    simp only [Act.put, pu]
    refine pw_mv (by rfl) rfl rfl ?_
    simp only [Act.put, pu]
    refine pw_callB (by rfl) 13 _ _ rfl Try.func13 (by kernel_rfl) #[] rfl _ (awake_any _) ?_
    intro z5009 k
    simp only [Act.put, pu]
    replace r3 := k.row r3 (by simp <;> omega)
    replace r10 := k.row r10 (by simp <;> omega)
    replace sb := sb.trans (k.below w.heap.size sb.size (by simp <;> omega))
    clear k
    refine pw_pick (by rfl) true (v := .bool true) rfl rfl rfl ?_
    simp only [Act.put, pu]
    refine pw_as (by rfl) rfl rfl ?_
    simp only [Act.put, pu]
    refine pw_nil ?_
    go_wp2
    go_ret
    exact ⟨rfl, sb⟩
  ·clear hxyz
   by_cases he : er = 0
   ·replace hL := hL he
    go_enter Try.func6, Try.ntmps6
    have sb := sbmk w
    (repeat ((fail_if_success with_reducible refine rg ?_); go_step))
    refine wp_region_pw ?_
    refine pw_boxr (by rfl) 23 _ rfl (tsC a b) rfl ?_
    intro g3 z0 n0 r3 k
    simp only [Act.put, pu]
    have b3 := Nat.le_trans sb.size n0
    clear n0
    replace sb := sb.trans (k.below w.heap.size sb.size (by simp <;> omega))
    clear k
    refine pw_boxr (by rfl) 23 _ rfl (tsC c d) rfl ?_
    intro g4 z1 n0 r4 k
    simp only [Act.put, pu]
    have d3x4 := Nat.lt_of_lt_of_le r3.lt n0
    have b4 := Nat.le_trans sb.size n0
    clear n0
    replace r3 := k.row r3 (by simp <;> omega)
    replace sb := sb.trans (k.below w.heap.size sb.size (by simp <;> omega))
    clear k
    refine pw_boxr (by rfl) 23 _ rfl (tsC e f) rfl ?_
    intro g5 z2 n0 r5 k
    simp only [Act.put, pu]
    have d3x5 := Nat.lt_of_lt_of_le r3.lt n0
    have d4x5 := Nat.lt_of_lt_of_le r4.lt n0
    have b5 := Nat.le_trans sb.size n0
    clear n0
    replace r3 := k.row r3 (by simp <;> omega)
    replace r4 := k.row r4 (by simp <;> omega)
    replace sb := sb.trans (k.below w.heap.size sb.size (by simp <;> omega))
    clear k
    refine pw_value (by rfl) (.bool false) (fun _ => rfl) ?_
    simp only [Act.put, pu]
    refine pw_nil ?_
    (repeat ((fail_if_success with_reducible refine rg ?_); go_step))
    refine wp_region_qw (by kernel_rfl) (by kernel_rfl) ?_
    refine qw_loadm (by rfl) 23 _ rfl _ (0) rfl r3 ((tsC a b)) (part_all _) _ Try.underlying23 rfl size_st ?_
    simp only [Act.put, pu]
    refine qw_loadm (by rfl) 23 _ rfl _ (0) rfl r4 ((tsC c d)) (part_all _) _ Try.underlying23 rfl size_st ?_
    simp only [Act.put, pu]
    refine qw_call (by rfl) 9 _ _ rfl Try.func9 (by kernel_rfl) #[.agg (tsC a b), .agg (tsC c d)] rfl _ hAB ?_
    simp only [Act.put, pu]
    refine qw_loadm (by rfl) 23 _ rfl _ (0) rfl r4 ((tsC c d)) (part_all _) _ Try.underlying23 rfl size_st ?_
    simp only [Act.put, pu]
    refine qw_loadm (by rfl) 23 _ rfl _ (0) rfl r5 ((tsC e f)) (part_all _) _ Try.underlying23 rfl size_st ?_
    simp only [Act.put, pu]
    refine qw_call (by rfl) 9 _ _ rfl Try.func9 (by kernel_rfl) #[.agg (tsC c d), .agg (tsC e f)] rfl _ hBC ?_
    simp only [Act.put, pu]
    refine qw_loadm (by rfl) 23 _ rfl _ (0) rfl r3 ((tsC a b)) (part_all _) _ Try.underlying23 rfl size_st ?_
    simp only [Act.put, pu]
    refine qw_loadm (by rfl) 23 _ rfl _ (0) rfl r5 ((tsC e f)) (part_all _) _ Try.underlying23 rfl size_st ?_
    simp only [Act.put, pu]
    refine qw_call (by rfl) 9 _ _ rfl Try.func9 (by kernel_rfl) #[.agg (tsC a b), .agg (tsC e f)] rfl _ hAC ?_
    simp only [Act.put, pu]
    refine qw_asg (by rfl) rfl rfl ?_
    simp only [Act.put, pu]
    refine qw_asg (by rfl) rfl rfl ?_
    simp only [Act.put, pu]
    refine qw_asg (by rfl) rfl rfl ?_
    simp only [Act.put, pu]
    refine qw_nil ?_
    intro w9 hqb
    replace r3 := r3.belowAll hqb
    replace r4 := r4.belowAll hqb
    replace r5 := r5.belowAll hqb
    replace sb := below_on sb (Nat.le_refl _) hqb
    clear hqb
    (repeat ((fail_if_success with_reducible refine rg ?_); go_step))
    refine wp_region_pw ?_
    refine pw_mv (by rfl) rfl rfl ?_
    simp only [Act.put, pu]
    refine pw_loadm (by rfl) 23 _ rfl _ 0 rfl r4.r _ (part_all _) _ Try.underlying23 rfl size_st ?_
    simp only [Act.put, pu]
    refine pw_loadm (by rfl) 23 _ rfl _ 0 rfl r3.r _ (part_all _) _ Try.underlying23 rfl size_st ?_
    simp only [Act.put, pu]
    refine pw_callB (by rfl) 9 _ _ rfl Try.func9 (by kernel_rfl) #[.agg (tsC c d), .agg (tsC a b)] rfl _ (hBA _) ?_
    intro z2003 k
    simp only [Act.put, pu]
    replace r3 := k.row r3 (by simp <;> omega)
    replace r4 := k.row r4 (by simp <;> omega)
    replace r5 := k.row r5 (by simp <;> omega)
    replace sb := sb.trans (k.below w.heap.size sb.size (by simp <;> omega))
    clear k
    refine pw_value (by rfl) (.int .i64 x) (x_neg _ _ rfl u x rfl hneg) ?_
    simp only [Act.put, pu]
    refine pw_value (by rfl) (.bool false) (exec_neq_k .i64 _ _ _ _ rfl (x) (x) rfl rfl false (by rw [decide_eq_true rfl]; rfl)) ?_
    simp only [Act.put, pu]
    refine pw_mv (by rfl) rfl rfl ?_
    simp only [Act.put, pu]
    refine pw_mv (by rfl) rfl rfl ?_
    simp only [Act.put, pu]
    refine pw_value (by rfl) (.bool false) (exec_eql_k .i64 _ _ _ _ rfl x 0 rfl rfl false h0) ?_
    simp only [Act.put, pu]
    refine pw_loadm (by rfl) 23 _ rfl _ 0 rfl r3.r _ (part_all _) _ Try.underlying23 rfl size_st ?_
    simp only [Act.put, pu]
    refine pw_loadm (by rfl) 23 _ rfl _ 0 rfl r4.r _ (part_all _) _ Try.underlying23 rfl size_st ?_
    simp only [Act.put, pu]
    refine pw_value (by rfl) (.bool false) (exec_eql_st _ _ _ rfl a b c d rfl rfl false hs) ?_
    simp only [Act.put, pu]
    refine pw_value (by rfl) (.bool false) (x_neb _ _ _ _ rfl false rfl rfl Try.underlying4) ?_
    simp only [Act.put, pu]
    refine pw_pick (by rfl) false (v := .bool false) rfl rfl rfl ?_
    simp only [Act.put, pu]
    refine pw_mv (by rfl) rfl rfl ?_
    simp only [Act.put, pu]
    refine pw_mv (by rfl) rfl rfl ?_
    simp only [Act.put, pu]
    refine pw_value (by rfl) (.bool true) (exec_gt_i _ _ _ _ rfl (x) (0) rfl rfl true (decide_eq_true (by omega))) ?_
    simp only [Act.put, pu]
    refine pw_mv (by rfl) rfl rfl ?_
    simp only [Act.put, pu]
    refine pw_mv (by rfl) rfl rfl ?_
    simp only [Act.put, pu]
    refine pw_value (by rfl) (.bool false) (exec_gt_i _ _ _ _ rfl (y) (0) rfl rfl false (decide_eq_false (by omega))) ?_
    simp only [Act.put, pu]
    refine pw_pick (by rfl) true (v := .bool false) rfl rfl rfl ?_
    simp only [Act.put, pu]
    refine pw_mv (by rfl) rfl rfl ?_
    simp only [Act.put, pu]
    refine pw_skip (by rfl) ?_
    simp only [Act.put, pu]
    refine pw_skip (by rfl) ?_
    simp only [Act.put, pu]
    refine pw_pick (by rfl) false (v := .bool false) rfl rfl rfl ?_
    simp only [Act.put, pu]
    refine pw_pick (by rfl) false (v := .bool false) rfl rfl rfl ?_
    simp only [Act.put, pu]
    refine pw_nil ?_
    (repeat ((fail_if_success with_reducible refine rg ?_); go_step))
    refine wp_region_pw ?_
    refine pw_value (by rfl) (.pointer (some ⟨g3, 0, none⟩)) (exec_field 23 _ 0 rfl g3 0 rfl _ Try.underlying23 _ rfl 0 Try.sizeOf3) ?_
    simp only [Act.put, pu]
    refine pw_loadk (by rfl) 3 _ rfl _ (0) rfl r3.r (.int .i64 a) rfl Try.isAgg3 ?_
    simp only [Act.put, pu]
    refine pw_value (by rfl) (.pointer (some ⟨g4, 1, none⟩)) (exec_field 23 _ 1 rfl g4 0 rfl _ Try.underlying23 _ rfl 0 Try.sizeOf3) ?_
    simp only [Act.put, pu]
    refine pw_loadk (by rfl) 3 _ rfl _ (1) rfl r4.r (.int .i64 d) rfl Try.isAgg3 ?_
    simp only [Act.put, pu]
    refine pw_callB (by rfl) 7 _ _ rfl Try.func7 (by kernel_rfl) #[.int .i64 a, .int .i64 d] rfl _ (hN _) ?_
    intro z4004 k
    simp only [Act.put, pu]
    replace r3 := k.row r3 (by simp <;> omega)
    replace r4 := k.row r4 (by simp <;> omega)
    replace r5 := k.row r5 (by simp <;> omega)
    replace sb := sb.trans (k.below w.heap.size sb.size (by simp <;> omega))
    clear k
    refine pw_mv (by rfl) rfl rfl ?_
    simp only [Act.put, pu]
    refine pw_ext (by rfl) rfl rfl rfl ?_
    simp only [Act.put, pu]
    refine pw_ext (by rfl) rfl rfl rfl ?_
    simp only [Act.put, pu]
    refine pw_new (by rfl) 23 rfl _ zero_st ?_
    intro g10 z4008 n0 r10 k
    simp only [Act.put, pu]
    have d3x10 := Nat.lt_of_lt_of_le r3.lt n0
    have d4x10 := Nat.lt_of_lt_of_le r4.lt n0
    have d5x10 := Nat.lt_of_lt_of_le r5.lt n0
    have b10 := Nat.le_trans sb.size n0
    clear n0
    replace r3 := k.row r3 (by simp <;> omega)
    replace r4 := k.row r4 (by simp <;> omega)
    replace r5 := k.row r5 (by simp <;> omega)
    replace sb := sb.trans (k.below w.heap.size sb.size (by simp <;> omega))
    clear k
    refine pw_put (by rfl) 23 _ _ rfl _ rfl r10 (tsC s v) rfl (by exact size_st) (by rfl) (st_one _ _) ?_
    clear r10
    intro z4009 r10 k
    simp only [Act.put]
    replace r3 := k.row r3 (by simp <;> omega)
    replace r4 := k.row r4 (by simp <;> omega)
    replace r5 := k.row r5 (by simp <;> omega)
    replace sb := sb.trans (k.below w.heap.size sb.size (by simp <;> omega))
    clear k
    refine pw_as (by rfl) rfl rfl ?_
    simp only [Act.put, pu]
    refine pw_nil ?_
    (repeat ((fail_if_success with_reducible refine rg ?_); go_step))
    refine wp_region_pw ?_
    refine pw_mv (by rfl) rfl rfl ?_
    simp only [Act.put, pu]
    refine pw_value (by rfl) (.bool false) (exec_neq_k .i64 _ _ _ _ rfl (er) (0) rfl rfl false (by rw [decide_eq_true (by omega)]; rfl)) ?_
    simp only [Act.put, pu]
    refine pw_mv (by rfl) rfl rfl ?_
    simp only [Act.put, pu]
    refine pw_loadm (by rfl) 23 _ rfl _ 0 rfl r10.r _ (part_all _) _ Try.underlying23 rfl size_st ?_
    simp only [Act.put, pu]
    refine pw_loadm (by rfl) 23 _ rfl _ 0 rfl r3.r _ (part_all _) _ Try.underlying23 rfl size_st ?_
    simp only [Act.put, pu]
    refine pw_callB (by rfl) 9 _ _ rfl Try.func9 (by kernel_rfl) #[.agg (tsC s v), .agg (tsC a b)] rfl _ (hL _) ?_
    intro z5005 k
    simp only [Act.put, pu]
    replace r3 := k.row r3 (by simp <;> omega)
    replace r10 := k.row r10 (by simp <;> omega)
    replace sb := sb.trans (k.below w.heap.size sb.size (by simp <;> omega))
    clear k
    refine pw_value (by rfl) (.bool true) (exec_eql_k .i64 _ _ _ _ rfl (1) (1) rfl rfl true (decide_eq_true rfl)) ?_
    simp only [Act.put, pu]
    refine pw_pick (by rfl) false (v := .bool true) rfl rfl rfl ?_
    simp only [Act.put, pu]
    refine pw_mv (by rfl) rfl rfl ?_
    simp only [Act.put, pu]
    refine pw_callB (by rfl) 13 _ _ rfl Try.func13 (by kernel_rfl) #[] rfl _ (awake_any _) ?_
    intro z5009 k
    simp only [Act.put, pu]
    replace r3 := k.row r3 (by simp <;> omega)
    replace r10 := k.row r10 (by simp <;> omega)
    replace sb := sb.trans (k.below w.heap.size sb.size (by simp <;> omega))
    clear k
    refine pw_pick (by rfl) true (v := .bool true) rfl rfl rfl ?_
    simp only [Act.put, pu]
    refine pw_as (by rfl) rfl rfl ?_
    simp only [Act.put, pu]
    refine pw_nil ?_
    go_wp2
    go_ret
    exact ⟨rfl, sb⟩
   ·clear hL
    go_enter Try.func6, Try.ntmps6
    have sb := sbmk w
    (repeat ((fail_if_success with_reducible refine rg ?_); go_step))
    refine wp_region_pw ?_
    refine pw_boxr (by rfl) 23 _ rfl (tsC a b) rfl ?_
    intro g3 z0 n0 r3 k
    simp only [Act.put, pu]
    have b3 := Nat.le_trans sb.size n0
    clear n0
    replace sb := sb.trans (k.below w.heap.size sb.size (by simp <;> omega))
    clear k
    refine pw_boxr (by rfl) 23 _ rfl (tsC c d) rfl ?_
    intro g4 z1 n0 r4 k
    simp only [Act.put, pu]
    have d3x4 := Nat.lt_of_lt_of_le r3.lt n0
    have b4 := Nat.le_trans sb.size n0
    clear n0
    replace r3 := k.row r3 (by simp <;> omega)
    replace sb := sb.trans (k.below w.heap.size sb.size (by simp <;> omega))
    clear k
    refine pw_boxr (by rfl) 23 _ rfl (tsC e f) rfl ?_
    intro g5 z2 n0 r5 k
    simp only [Act.put, pu]
    have d3x5 := Nat.lt_of_lt_of_le r3.lt n0
    have d4x5 := Nat.lt_of_lt_of_le r4.lt n0
    have b5 := Nat.le_trans sb.size n0
    clear n0
    replace r3 := k.row r3 (by simp <;> omega)
    replace r4 := k.row r4 (by simp <;> omega)
    replace sb := sb.trans (k.below w.heap.size sb.size (by simp <;> omega))
    clear k
    refine pw_value (by rfl) (.bool false) (fun _ => rfl) ?_
    simp only [Act.put, pu]
    refine pw_nil ?_
    (repeat ((fail_if_success with_reducible refine rg ?_); go_step))
    refine wp_region_qw (by kernel_rfl) (by kernel_rfl) ?_
    refine qw_loadm (by rfl) 23 _ rfl _ (0) rfl r3 ((tsC a b)) (part_all _) _ Try.underlying23 rfl size_st ?_
    simp only [Act.put, pu]
    refine qw_loadm (by rfl) 23 _ rfl _ (0) rfl r4 ((tsC c d)) (part_all _) _ Try.underlying23 rfl size_st ?_
    simp only [Act.put, pu]
    refine qw_call (by rfl) 9 _ _ rfl Try.func9 (by kernel_rfl) #[.agg (tsC a b), .agg (tsC c d)] rfl _ hAB ?_
    simp only [Act.put, pu]
    refine qw_loadm (by rfl) 23 _ rfl _ (0) rfl r4 ((tsC c d)) (part_all _) _ Try.underlying23 rfl size_st ?_
    simp only [Act.put, pu]
    refine qw_loadm (by rfl) 23 _ rfl _ (0) rfl r5 ((tsC e f)) (part_all _) _ Try.underlying23 rfl size_st ?_
    simp only [Act.put, pu]
    refine qw_call (by rfl) 9 _ _ rfl Try.func9 (by kernel_rfl) #[.agg (tsC c d), .agg (tsC e f)] rfl _ hBC ?_
    simp only [Act.put, pu]
    refine qw_loadm (by rfl) 23 _ rfl _ (0) rfl r3 ((tsC a b)) (part_all _) _ Try.underlying23 rfl size_st ?_
    simp only [Act.put, pu]
    refine qw_loadm (by rfl) 23 _ rfl _ (0) rfl r5 ((tsC e f)) (part_all _) _ Try.underlying23 rfl size_st ?_
    simp only [Act.put, pu]
    refine qw_call (by rfl) 9 _ _ rfl Try.func9 (by kernel_rfl) #[.agg (tsC a b), .agg (tsC e f)] rfl _ hAC ?_
    simp only [Act.put, pu]
    refine qw_asg (by rfl) rfl rfl ?_
    simp only [Act.put, pu]
    refine qw_asg (by rfl) rfl rfl ?_
    simp only [Act.put, pu]
    refine qw_asg (by rfl) rfl rfl ?_
    simp only [Act.put, pu]
    refine qw_nil ?_
    intro w9 hqb
    replace r3 := r3.belowAll hqb
    replace r4 := r4.belowAll hqb
    replace r5 := r5.belowAll hqb
    replace sb := below_on sb (Nat.le_refl _) hqb
    clear hqb
    (repeat ((fail_if_success with_reducible refine rg ?_); go_step))
    refine wp_region_pw ?_
    refine pw_mv (by rfl) rfl rfl ?_
    simp only [Act.put, pu]
    refine pw_loadm (by rfl) 23 _ rfl _ 0 rfl r4.r _ (part_all _) _ Try.underlying23 rfl size_st ?_
    simp only [Act.put, pu]
    refine pw_loadm (by rfl) 23 _ rfl _ 0 rfl r3.r _ (part_all _) _ Try.underlying23 rfl size_st ?_
    simp only [Act.put, pu]
    refine pw_callB (by rfl) 9 _ _ rfl Try.func9 (by kernel_rfl) #[.agg (tsC c d), .agg (tsC a b)] rfl _ (hBA _) ?_
    intro z2003 k
    simp only [Act.put, pu]
    replace r3 := k.row r3 (by simp <;> omega)
    replace r4 := k.row r4 (by simp <;> omega)
    replace r5 := k.row r5 (by simp <;> omega)
    replace sb := sb.trans (k.below w.heap.size sb.size (by simp <;> omega))
    clear k
    refine pw_value (by rfl) (.int .i64 x) (x_neg _ _ rfl u x rfl hneg) ?_
    simp only [Act.put, pu]
    refine pw_value (by rfl) (.bool false) (exec_neq_k .i64 _ _ _ _ rfl (x) (x) rfl rfl false (by rw [decide_eq_true rfl]; rfl)) ?_
    simp only [Act.put, pu]
    refine pw_mv (by rfl) rfl rfl ?_
    simp only [Act.put, pu]
    refine pw_mv (by rfl) rfl rfl ?_
    simp only [Act.put, pu]
    refine pw_value (by rfl) (.bool false) (exec_eql_k .i64 _ _ _ _ rfl x 0 rfl rfl false h0) ?_
    simp only [Act.put, pu]
    refine pw_loadm (by rfl) 23 _ rfl _ 0 rfl r3.r _ (part_all _) _ Try.underlying23 rfl size_st ?_
    simp only [Act.put, pu]
    refine pw_loadm (by rfl) 23 _ rfl _ 0 rfl r4.r _ (part_all _) _ Try.underlying23 rfl size_st ?_
    simp only [Act.put, pu]
    refine pw_value (by rfl) (.bool false) (exec_eql_st _ _ _ rfl a b c d rfl rfl false hs) ?_
    simp only [Act.put, pu]
    refine pw_value (by rfl) (.bool false) (x_neb _ _ _ _ rfl false rfl rfl Try.underlying4) ?_
    simp only [Act.put, pu]
    refine pw_pick (by rfl) false (v := .bool false) rfl rfl rfl ?_
    simp only [Act.put, pu]
    refine pw_mv (by rfl) rfl rfl ?_
    simp only [Act.put, pu]
    refine pw_mv (by rfl) rfl rfl ?_
    simp only [Act.put, pu]
    refine pw_value (by rfl) (.bool true) (exec_gt_i _ _ _ _ rfl (x) (0) rfl rfl true (decide_eq_true (by omega))) ?_
    simp only [Act.put, pu]
    refine pw_mv (by rfl) rfl rfl ?_
    simp only [Act.put, pu]
    refine pw_mv (by rfl) rfl rfl ?_
    simp only [Act.put, pu]
    refine pw_value (by rfl) (.bool false) (exec_gt_i _ _ _ _ rfl (y) (0) rfl rfl false (decide_eq_false (by omega))) ?_
    simp only [Act.put, pu]
    refine pw_pick (by rfl) true (v := .bool false) rfl rfl rfl ?_
    simp only [Act.put, pu]
    refine pw_mv (by rfl) rfl rfl ?_
    simp only [Act.put, pu]
    refine pw_skip (by rfl) ?_
    simp only [Act.put, pu]
    refine pw_skip (by rfl) ?_
    simp only [Act.put, pu]
    refine pw_pick (by rfl) false (v := .bool false) rfl rfl rfl ?_
    simp only [Act.put, pu]
    refine pw_pick (by rfl) false (v := .bool false) rfl rfl rfl ?_
    simp only [Act.put, pu]
    refine pw_nil ?_
    (repeat ((fail_if_success with_reducible refine rg ?_); go_step))
    refine wp_region_pw ?_
    refine pw_value (by rfl) (.pointer (some ⟨g3, 0, none⟩)) (exec_field 23 _ 0 rfl g3 0 rfl _ Try.underlying23 _ rfl 0 Try.sizeOf3) ?_
    simp only [Act.put, pu]
    refine pw_loadk (by rfl) 3 _ rfl _ (0) rfl r3.r (.int .i64 a) rfl Try.isAgg3 ?_
    simp only [Act.put, pu]
    refine pw_value (by rfl) (.pointer (some ⟨g4, 1, none⟩)) (exec_field 23 _ 1 rfl g4 0 rfl _ Try.underlying23 _ rfl 0 Try.sizeOf3) ?_
    simp only [Act.put, pu]
    refine pw_loadk (by rfl) 3 _ rfl _ (1) rfl r4.r (.int .i64 d) rfl Try.isAgg3 ?_
    simp only [Act.put, pu]
    refine pw_callB (by rfl) 7 _ _ rfl Try.func7 (by kernel_rfl) #[.int .i64 a, .int .i64 d] rfl _ (hN _) ?_
    intro z4004 k
    simp only [Act.put, pu]
    replace r3 := k.row r3 (by simp <;> omega)
    replace r4 := k.row r4 (by simp <;> omega)
    replace r5 := k.row r5 (by simp <;> omega)
    replace sb := sb.trans (k.below w.heap.size sb.size (by simp <;> omega))
    clear k
    refine pw_mv (by rfl) rfl rfl ?_
    simp only [Act.put, pu]
    refine pw_ext (by rfl) rfl rfl rfl ?_
    simp only [Act.put, pu]
    refine pw_ext (by rfl) rfl rfl rfl ?_
    simp only [Act.put, pu]
    refine pw_new (by rfl) 23 rfl _ zero_st ?_
    intro g10 z4008 n0 r10 k
    simp only [Act.put, pu]
    have d3x10 := Nat.lt_of_lt_of_le r3.lt n0
    have d4x10 := Nat.lt_of_lt_of_le r4.lt n0
    have d5x10 := Nat.lt_of_lt_of_le r5.lt n0
    have b10 := Nat.le_trans sb.size n0
    clear n0
    replace r3 := k.row r3 (by simp <;> omega)
    replace r4 := k.row r4 (by simp <;> omega)
    replace r5 := k.row r5 (by simp <;> omega)
    replace sb := sb.trans (k.below w.heap.size sb.size (by simp <;> omega))
    clear k
    refine pw_put (by rfl) 23 _ _ rfl _ rfl r10 (tsC s v) rfl (by exact size_st) (by rfl) (st_one _ _) ?_
    clear r10
    intro z4009 r10 k
    simp only [Act.put]
    replace r3 := k.row r3 (by simp <;> omega)
    replace r4 := k.row r4 (by simp <;> omega)
    replace r5 := k.row r5 (by simp <;> omega)
    replace sb := sb.trans (k.below w.heap.size sb.size (by simp <;> omega))
    clear k
    refine pw_as (by rfl) rfl rfl ?_
    simp only [Act.put, pu]
    refine pw_nil ?_
    (repeat ((fail_if_success with_reducible refine rg ?_); go_step))
    refine wp_region_pw ?_
    refine pw_mv (by rfl) rfl rfl ?_
    simp only [Act.put, pu]
    refine pw_value (by rfl) (.bool true) (exec_neq_k .i64 _ _ _ _ rfl (er) (0) rfl rfl true (by rw [decide_eq_false (by omega)]; rfl)) ?_
    simp only [Act.put, pu]
    refine pw_mv (by rfl) rfl rfl ?_
    simp only [Act.put, pu]
    refine pw_skip (by rfl) ?_
    simp only [Act.put, pu]
    refine pw_skip (by rfl) ?_
    simp only [Act.put, pu]
    refine pw_skip (by rfl) ?_
    simp only [Act.put, pu]
    refine pw_skip (by rfl) ?_
    simp only [Act.put, pu]
    refine pw_pick (by rfl) true (v := .bool true) rfl rfl rfl ?_
    simp only [Act.put, pu]
    refine pw_mv (by rfl) rfl rfl ?_
    simp only [Act.put, pu]
    refine pw_callB (by rfl) 13 _ _ rfl Try.func13 (by kernel_rfl) #[] rfl _ (awake_any _) ?_
    intro z5009 k
    simp only [Act.put, pu]
    replace r3 := k.row r3 (by simp <;> omega)
    replace r10 := k.row r10 (by simp <;> omega)
    replace sb := sb.trans (k.below w.heap.size sb.size (by simp <;> omega))
    clear k
    refine pw_pick (by rfl) true (v := .bool true) rfl rfl rfl ?_
    simp only [Act.put, pu]
    refine pw_as (by rfl) rfl rfl ?_
    simp only [Act.put, pu]
    refine pw_nil ?_
    go_wp2
    go_ret
    exact ⟨rfl, sb⟩
theorem walk (a b c d e f : Int) (w : World) :
  Calls Try.prog 6 #[.agg (tsC a b), .agg (tsC c d), .agg (tsC e f)] w fun q w' => q = .returned (.bool true) ∧ Below w.heap.size w w' :=
 core a b c d e f (cpS a b c d) (cpS c d e f) (cpS a b e f) (cpS c d a b) (nxS a d) (nxC a d) (nxE a d) w (cps_neg a b c d) (decide_eq_decide.2 (cps_eq a b c d)) cps_tr
  (fun w' => scmp_any a b c d w') (fun w' => scmp_any c d e f w') (fun w' => scmp_any a b e f w') (fun w' => scmp_any c d a b w') (fun w' => snx_any a d w')
  (fun he w' => by have := scmp_any (nxS a d) (nxC a d) a b w'; rw [nx_later a d b he] at this; exact this)
set_option maxRecDepth 100000 in
theorem lifted (os : Os) (started : os.Started) (H : Type) (enc : TypeId × Value → H) :
  ReturnsInHanded {} Try.checked os 6 .any (Rows.stampLaterSpec.pre6 enc Try.prog Try.f6 Rows.stampLaterRow.domain false) (Rows.stampLaterSpec.post enc Try.prog Try.f6 false true false false) := by
 refine returnsInHanded_of_change (C := Try.checked) own started (by kernel_rfl) Try.func6
  (ChangeSpec.witness6 (enc := enc) (C := Try.checked) false ⟨#[], #[.agg #[.int .i64 0, .int .i64 0], .agg #[.int .i64 0, .int .i64 0], .agg #[.int .i64 0, .int .i64 0]], []⟩ 8 (by kernel_rfl) (by kernel_rfl) (by kernel_rfl) (by kernel_rfl)) ?_
 intro W base args ds gs before hval0 hW hcnd _
 have hval : ∀ (j : Nat) t v, Try.f6.params[j]? = some t → args[j]? = some v → Value.okWide Try.prog W .any base t v := hval0
 have hW' := hW
 obtain ⟨p, q, hA0, hV, rfl, hfz, hnd⟩ := hW
 have hA : DataW.TrodAll enc Try.prog W 0 (fun _ => true) true Try.f6.params.toList args.toList ds p := hA0
 rw [Try.params6] at hA hval
 obtain ⟨v0, vs0, d0, ds0, p0, q0, hargs, rfl, rfl, h0, r0⟩ := trodAll_cons hA
 obtain ⟨v1, vs1, d1, ds1, p1, q1, rfl, rfl, rfl, h1, r1⟩ := trodAll_cons r0
 obtain ⟨v2, vs2, d2, ds2, p2, q2, rfl, rfl, rfl, h2, r2⟩ := trodAll_cons r1
 obtain ⟨rfl, rfl, rfl⟩ := trodAll_nil r2
 obtain rfl : args = #[v0, v1, v2] := by cases args; simp_all
 obtain ⟨rfl, rfl⟩ := trodVars_none hV
 have k0 := h0
 have lt0 := lt_of_trod h0
 obtain ⟨x0, y0, rfl⟩ := open_st (hval 0 23 v0 rfl rfl) h0
 have k1 := h1
 have lt1 := lt_of_trod h1
 obtain ⟨x1, y1, rfl⟩ := open_st (hval 1 23 v1 rfl rfl) h1
 have k2 := h2
 have lt2 := lt_of_trod h2
 obtain ⟨x2, y2, rfl⟩ := open_st (hval 2 23 v2 rfl rfl) h2
 clear hA0 hval0
 refine (walk x0 y0 x1 y1 x2 y2 W ).mono fun e W' ⟨he, bel⟩ => ?_
 subst he
 exact ⟨_, rfl, _, _, _, [], _, [], hW', trodAll_mk1 (shut_bool Try.underlying4 _), (trodAll_cons_mk (Below.trod laidOut (by kernel_rfl) (of_decide_eq_true (by kernel_rfl)) k0 bel lt0) (trodAll_cons_mk (Below.trod laidOut (by kernel_rfl) (of_decide_eq_true (by kernel_rfl)) k1 bel lt1) (trodAll_cons_mk (Below.trod laidOut (by kernel_rfl) (of_decide_eq_true (by kernel_rfl)) k2 bel lt2) trodAll_mk0))), rfl, bel.frame _, fun h => by cases h⟩
theorem over : Rows.stampLaterRow.holds Try.pinned (OpenSpec.ofChange Rows.stampLaterSpec) :=
 OpenClaim.holds_of_wide 6 Try.f6 rfl rfl rfl rfl rfl rfl rfl ⟨rfl, rfl, rfl, rfl, rfl⟩ rfl rfl rfl rfl rfl (by kernel_rfl) Try.func6 (by kernel_rfl)
  (of_decide_eq_true (by kernel_rfl)) (by unfold Func.isWrapper; first | (rw [if_pos (by decide +kernel)]; kernel_rfl) | (rw [if_neg (by decide +kernel)]; exact ⟨rfl, rfl⟩))
  (fun os started H enc _ => lifted os started H enc)
end stampLaterP
/-- for any three stamps: just one of two is later, or they are the same; there is no ring; and what is next is later; no condition. -/
theorem stampLater_holds : Rows.StampLaterSaid := stampLaterP.over
end Go.Proofs.Ytdgbjmolinoplaa
