/- What must come, whatever the arguments are: the check of the laws of layer 10. -/
import Derived.Test.YtlacmkliofnjcaaDoorTD
import Derived.Test.YtlacmkliofnjcaaDoorGAwake
namespace Go.Proofs.YtlacmkliofnjcaaDoor
open Go.RowKit
set_option linter.unusedVariables false
def twL : List UInt8 := [255, 255, 255, 255, 128, 0, 0, 7, 114, 101, 115, 116]
def reL : List UInt8 := [114, 101, 115, 116]
theorem tw_drw : drw 1966023127 twL = some (7, reL) := by decide +kernel
theorem no_drw : drw 1966023127 [] = none := by decide +kernel
theorem neq_no10 (X : Nat) : (!decide (X % 2 ^ 256 = X % 2 ^ 256)) = false := by rw [decide_eq_true rfl]; rfl
set_option maxRecDepth 100000 in
set_option maxHeartbeats 2000000 in
theorem awake10_any (w : World) :
  Calls Tryd.prog 7 #[] w fun e w' => e = .returned (.bool true) ∧ Below w.heap.size w w' := by
 have hnw := fun w' g (r : Row w' g (lksC 3 (lN leL) twoA) 66) => gnew_yes 3 3 (some ⟨g, 0, none⟩) leG _ _ g 0 _ _ w' (by decide) (by decide) (lks_links r le_lt) least_is
 rw [le_p, le_q] at hnw
 have htn := fun w' => tnew_ok twL w' (by decide)
 have hd1 := fun w' x g gr gf (h : GrpAt w' g gr gf 1055500680322183127 1966023127 leG) (r : Row w' x (tpC true twL) 62) => tdraw_ok x _ _ _ _ _ _ twL w' (by decide) (by decide) r h.kn
 obtain ⟨e1, e2, _, e4, _⟩ := dr_some tw_drw
 rw [e1, e2, e4] at hd1
 have hd2 := fun w' x g gr gf (h : GrpAt w' g gr gf 1055500680322183127 1966023127 leG) (r : Row w' x (tpC true []) 62) => tdraw_ok x _ _ _ _ _ _ [] w' (by decide) (by decide) r h.kn
 obtain ⟨f1, f2, _, f4, _⟩ := dr_none no_drw
 rw [f1, f2, f4] at hd2
 clear e1 e2 e4 f1 f2 f4
 have hby := fun w' x (r : Row w' x (tpC true reL) 62) => tbytes_ok x reL 4 w' (by decide) r
 rw [show reL.take 4 = reL from rfl, show reL.drop 4 = [] from rfl] at hby
 have h7 := fun w' => rint_yes 7 w' (by decide) (by decide)
 go_enter Tryd.func7, Tryd.ntmps7
 have sb := sbmk w
 (repeat ((fail_if_success with_reducible refine rg ?_); go_step))
 refine wp_region_pw ?_
 refine pw_value (by rfl) (.bool false) (fun _ => rfl) ?_
 simp only [Act.put, List.setIfInBounds_toArray, List.set_cons_zero]
 refine pw_nil ?_
 (repeat ((fail_if_success with_reducible refine rg ?_); go_step))
 refine wp_region_pw ?_
 refine pw_callE (by rfl) 11 _ _ rfl Tryd.func11 (by kernel_rfl) #[] rfl (rleast_any _) ?_
 rintro _ z1000 ⟨gL, rfl, nL, rL, hb⟩
 refine ⟨_, rfl, ?_⟩
 simp only [Act.put, pu]
 have bL := Nat.le_trans sb.size nL
 clear nL
 have k := Kept.ofBelow hb
 clear hb
 replace sb := sb.trans (k.below w.heap.size sb.size (by simp <;> omega))
 clear k
 refine pw_callE (by rfl) 14 _ _ rfl Tryd.func14 (by kernel_rfl) #[.agg (paC (some ⟨gL, 0, none⟩) 3 3 leG)] rfl (hnw _ gL rL) ?_
 rintro _ z1001 ⟨g, gr, gf, rfl, ⟨rG, rR, rF⟩, hb⟩
 refine ⟨_, rfl, ?_⟩
 simp only [Act.put, pu]
 have k := Kept.ofBelow hb
 clear hb
 replace rL := k.row rL (by simp <;> omega)
 replace sb := sb.trans (k.below w.heap.size sb.size (by simp <;> omega))
 clear k
 refine pw_mv (by rfl) rfl rfl ?_
 simp only [Act.put, pu]
 refine pw_ext (by rfl) rfl rfl rfl ?_
 simp only [Act.put, pu]
 refine pw_ext (by rfl) rfl rfl rfl ?_
 simp only [Act.put, pu]
 refine pw_as (by rfl) rfl rfl ?_
 simp only [Act.put, pu]
 refine pw_as (by rfl) rfl rfl ?_
 simp only [Act.put, pu]
 refine pw_nil ?_
 clear hnw rL
 (repeat ((fail_if_success with_reducible refine rg ?_); go_step))
 refine wp_region_pw ?_
 refine pw_callE (by rfl) 8 _ _ rfl Tryd.func8 (by kernel_rfl) #[.string ⟨(twL).toArray⟩] rfl (htn _) ?_
 rintro _ z2000 ⟨gT, rfl, nT, rT, hb⟩
 refine ⟨_, rfl, ?_⟩
 simp only [Act.put, pu]
 have dGxT := Nat.lt_of_lt_of_le rG.lt nT
 have dRxT := Nat.lt_of_lt_of_le rR.lt nT
 have dFxT := Nat.lt_of_lt_of_le rF.lt nT
 have bT := Nat.le_trans sb.size nT
 clear nT
 have k := Kept.ofBelow hb
 clear hb
 replace rG := k.row rG (by simp <;> omega)
 replace rR := k.row rR (by simp <;> omega)
 replace rF := k.row rF (by simp <;> omega)
 replace sb := sb.trans (k.below w.heap.size sb.size (by simp <;> omega))
 clear k
 refine pw_mv (by rfl) rfl rfl ?_
 simp only [Act.put, pu]
 refine pw_ext (by rfl) rfl rfl rfl ?_
 simp only [Act.put, pu]
 refine pw_ext (by rfl) rfl rfl rfl ?_
 simp only [Act.put, pu]
 refine pw_as (by rfl) rfl rfl ?_
 simp only [Act.put, pu]
 refine pw_as (by rfl) rfl rfl ?_
 simp only [Act.put, pu]
 refine pw_nil ?_
 clear htn
 (repeat ((fail_if_success with_reducible refine rg ?_); go_step))
 refine wp_region_pw ?_
 refine pw_mv (by rfl) rfl rfl ?_
 simp only [Act.put, pu]
 refine pw_value (by rfl) (.bool false) (exec_neq_k .i64 _ _ _ _ rfl 0 0 rfl rfl false rfl) ?_
 simp only [Act.put, pu]
 refine pw_mv (by rfl) rfl rfl ?_
 simp only [Act.put, pu]
 refine pw_mv (by rfl) rfl rfl ?_
 simp only [Act.put, pu]
 refine pw_value (by rfl) (.bool false) (exec_neq_k .i64 _ _ _ _ rfl 0 0 rfl rfl false rfl) ?_
 simp only [Act.put, pu]
 refine pw_pick (by rfl) false (v := .bool false) rfl rfl rfl ?_
 simp only [Act.put, pu]
 refine pw_mv (by rfl) rfl rfl ?_
 simp only [Act.put, pu]
 refine pw_mv (by rfl) rfl rfl ?_
 simp only [Act.put, pu]
 refine pw_value (by rfl) (.bool false) (exec_eql_nilp _ _ _ _ rfl (some ⟨gT, 0, none⟩) rfl rfl ptr_tp) ?_
 simp only [Act.put, pu]
 refine pw_pick (by rfl) false (v := .bool false) rfl rfl rfl ?_
 simp only [Act.put, pu]
 refine pw_nil ?_
 (repeat ((fail_if_success with_reducible refine rg ?_); go_step))
 refine wp_region_pw ?_
 refine pw_mv (by rfl) rfl rfl ?_
 simp only [Act.put, pu]
 refine pw_mv (by rfl) rfl rfl ?_
 simp only [Act.put, pu]
 refine pw_callE (by rfl) 18 _ _ rfl Tryd.func18 (by kernel_rfl) #[.pointer (some ⟨gT, 0, none⟩), .pointer (some ⟨g, 0, none⟩)] rfl (hd1 _ gT g gr gf ⟨rG, rR, rF⟩ rT) ?_
 clear rT
 rintro _ z5002 ⟨rfl, rT, k⟩
 refine ⟨_, rfl, ?_⟩
 simp only [Act.put, pu]
 replace rG := k.row rG (by simp <;> omega)
 replace rR := k.row rR (by simp <;> omega)
 replace rF := k.row rF (by simp <;> omega)
 replace sb := sb.trans (k.below w.heap.size sb.size (by simp <;> omega))
 clear k
 refine pw_mv (by rfl) rfl rfl ?_
 simp only [Act.put, pu]
 refine pw_ext (by rfl) rfl rfl rfl ?_
 simp only [Act.put, pu]
 refine pw_ext (by rfl) rfl rfl rfl ?_
 simp only [Act.put, pu]
 refine pw_new (by rfl) 35 rfl _ zero_nat ?_
 intro g5 z5006 n0 r5 k
 simp only [Act.put, pu]
 have dGx5 := Nat.lt_of_lt_of_le rG.lt n0
 have dRx5 := Nat.lt_of_lt_of_le rR.lt n0
 have dFx5 := Nat.lt_of_lt_of_le rF.lt n0
 have dTx5 := Nat.lt_of_lt_of_le rT.lt n0
 have b5 := Nat.le_trans sb.size n0
 clear n0
 replace rG := k.row rG (by simp <;> omega)
 replace rR := k.row rR (by simp <;> omega)
 replace rF := k.row rF (by simp <;> omega)
 replace rT := k.row rT (by simp <;> omega)
 replace sb := sb.trans (k.below w.heap.size sb.size (by simp <;> omega))
 clear k
 refine pw_put (by rfl) 35 _ _ rfl _ rfl r5 (natC 7) rfl (by exact size_nat) (by simp only [natC_size]) (natC_one _) ?_
 clear r5
 intro z5007 r5 k
 simp only [Act.put]
 replace rG := k.row rG (by simp <;> omega)
 replace rR := k.row rR (by simp <;> omega)
 replace rF := k.row rF (by simp <;> omega)
 replace rT := k.row rT (by simp <;> omega)
 replace sb := sb.trans (k.below w.heap.size sb.size (by simp <;> omega))
 clear k
 refine pw_as (by rfl) rfl rfl ?_
 simp only [Act.put, pu]
 refine pw_nil ?_
 clear hd1
 (repeat ((fail_if_success with_reducible refine rg ?_); go_step))
 refine wp_region_pw ?_
 refine pw_mv (by rfl) rfl rfl ?_
 simp only [Act.put, pu]
 refine pw_callE (by rfl) 9 _ _ rfl Tryd.func9 (by kernel_rfl) #[.pointer (some ⟨gT, 0, none⟩), .int .i64 (4 : Nat)] rfl (hby _ gT rT) ?_
 clear rT
 rintro _ z6001 ⟨rfl, rT, k⟩
 refine ⟨_, rfl, ?_⟩
 simp only [Act.put, pu]
 replace rG := k.row rG (by simp <;> omega)
 replace rR := k.row rR (by simp <;> omega)
 replace rF := k.row rF (by simp <;> omega)
 replace r5 := k.row r5 (by simp <;> omega)
 replace sb := sb.trans (k.below w.heap.size sb.size (by simp <;> omega))
 clear k
 refine pw_mv (by rfl) rfl rfl ?_
 simp only [Act.put, pu]
 refine pw_ext (by rfl) rfl rfl rfl ?_
 simp only [Act.put, pu]
 refine pw_ext (by rfl) rfl rfl rfl ?_
 simp only [Act.put, pu]
 refine pw_as (by rfl) rfl rfl ?_
 simp only [Act.put, pu]
 refine pw_as (by rfl) rfl rfl ?_
 simp only [Act.put, pu]
 refine pw_nil ?_
 clear hby
 (repeat ((fail_if_success with_reducible refine rg ?_); go_step))
 refine wp_region_pw ?_
 refine pw_mv (by rfl) rfl rfl ?_
 simp only [Act.put, pu]
 refine pw_mv (by rfl) rfl rfl ?_
 simp only [Act.put, pu]
 refine pw_callE (by rfl) 18 _ _ rfl Tryd.func18 (by kernel_rfl) #[.pointer (some ⟨gT, 0, none⟩), .pointer (some ⟨g, 0, none⟩)] rfl (hd2 _ gT g gr gf ⟨rG, rR, rF⟩ rT) ?_
 clear rT
 rintro _ z7002 ⟨rfl, rT, k⟩
 refine ⟨_, rfl, ?_⟩
 simp only [Act.put, pu]
 replace rG := k.row rG (by simp <;> omega)
 replace rR := k.row rR (by simp <;> omega)
 replace rF := k.row rF (by simp <;> omega)
 replace r5 := k.row r5 (by simp <;> omega)
 replace sb := sb.trans (k.below w.heap.size sb.size (by simp <;> omega))
 clear k
 refine pw_mv (by rfl) rfl rfl ?_
 simp only [Act.put, pu]
 refine pw_ext (by rfl) rfl rfl rfl ?_
 simp only [Act.put, pu]
 refine pw_ext (by rfl) rfl rfl rfl ?_
 simp only [Act.put, pu]
 refine pw_new (by rfl) 35 rfl _ zero_nat ?_
 intro g9 z7006 n0 r9 k
 simp only [Act.put, pu]
 have dGx9 := Nat.lt_of_lt_of_le rG.lt n0
 have dRx9 := Nat.lt_of_lt_of_le rR.lt n0
 have dFx9 := Nat.lt_of_lt_of_le rF.lt n0
 have dTx9 := Nat.lt_of_lt_of_le rT.lt n0
 have d5x9 := Nat.lt_of_lt_of_le r5.lt n0
 have b9 := Nat.le_trans sb.size n0
 clear n0
 replace rG := k.row rG (by simp <;> omega)
 replace rR := k.row rR (by simp <;> omega)
 replace rF := k.row rF (by simp <;> omega)
 replace rT := k.row rT (by simp <;> omega)
 replace r5 := k.row r5 (by simp <;> omega)
 replace sb := sb.trans (k.below w.heap.size sb.size (by simp <;> omega))
 clear k
 refine pw_put (by rfl) 35 _ _ rfl _ rfl r9 (natC 0) rfl (by exact size_nat) (by simp only [natC_size]) (natC_one _) ?_
 clear r9
 intro z7007 r9 k
 simp only [Act.put]
 replace rG := k.row rG (by simp <;> omega)
 replace rR := k.row rR (by simp <;> omega)
 replace rF := k.row rF (by simp <;> omega)
 replace rT := k.row rT (by simp <;> omega)
 replace r5 := k.row r5 (by simp <;> omega)
 replace sb := sb.trans (k.below w.heap.size sb.size (by simp <;> omega))
 clear k
 refine pw_as (by rfl) rfl rfl ?_
 simp only [Act.put, pu]
 refine pw_nil ?_
 clear hd2 rG rR rF
 (repeat ((fail_if_success with_reducible refine rg ?_); go_step))
 refine wp_region_qw (by kernel_rfl) (by kernel_rfl) ?_
 refine qw_load (by rfl) 35 _ rfl _ rfl r5 4 _ Tryd.underlying35 size_nat ?_
 simp only [Act.put, pu]
 refine qw_call (by rfl) 23 _ _ rfl Tryd.func23 (by kernel_rfl) #[.int .i64 7] rfl _ h7 ?_
 simp only [Act.put, pu]
 refine qw_value (by rfl) (.bool true) ((fun w' => (exec_eql_nat _ _ _ rfl 7 7 rfl rfl w').trans (by rw [eqn_yes]))) ?_
 simp only [Act.put, pu]
 refine qw_move (by rfl) rfl rfl ?_
 simp only [Act.put, pu]
 refine qw_move (by rfl) rfl rfl ?_
 simp only [Act.put, pu]
 refine qw_value (by rfl) (.bool true) ((exec_eql_k .i64 _ _ _ _ rfl 0 0 rfl rfl true rfl)) ?_
 simp only [Act.put, pu]
 refine qw_pick true (v := .bool true) (by rfl) rfl rfl rfl ?_
 simp only [Act.put, pu]
 refine qw_move (by rfl) rfl rfl ?_
 simp only [Act.put, pu]
 refine qw_move (by rfl) rfl rfl ?_
 simp only [Act.put, pu]
 refine qw_value (by rfl) (.bool true) ((y_eqS _ _ _ _ rfl reL reL rfl rfl true rfl)) ?_
 simp only [Act.put, pu]
 refine qw_pick true (v := .bool true) (by rfl) rfl rfl rfl ?_
 simp only [Act.put, pu]
 refine qw_move (by rfl) rfl rfl ?_
 simp only [Act.put, pu]
 refine qw_move (by rfl) rfl rfl ?_
 simp only [Act.put, pu]
 refine qw_value (by rfl) (.bool true) ((exec_eql_k .i64 _ _ _ _ rfl 0 0 rfl rfl true rfl)) ?_
 simp only [Act.put, pu]
 refine qw_pick true (v := .bool true) (by rfl) rfl rfl rfl ?_
 simp only [Act.put, pu]
 refine qw_move (by rfl) rfl rfl ?_
 simp only [Act.put, pu]
 refine qw_move (by rfl) rfl rfl ?_
 simp only [Act.put, pu]
 refine qw_value (by rfl) (.bool true) ((exec_eql_k .i64 _ _ _ _ rfl 5 5 rfl rfl true rfl)) ?_
 simp only [Act.put, pu]
 refine qw_pick true (v := .bool true) (by rfl) rfl rfl rfl ?_
 simp only [Act.put, pu]
 refine qw_move (by rfl) rfl rfl ?_
 simp only [Act.put, pu]
 refine qw_move (by rfl) rfl rfl ?_
 simp only [Act.put, pu]
 refine qw_callK (by rfl) 10 _ _ rfl Tryd.func10 (by kernel_rfl) #[.pointer (some ⟨gT, 0, none⟩)] rfl _ (fun w' hb => tleft_ok gT [] w' (rT.belowAll hb)) ?_
 simp only [Act.put, pu]
 refine qw_value (by rfl) (.bool true) ((exec_eql_k .i64 _ _ _ _ rfl (([] : List UInt8).length : Nat) 0 rfl rfl true rfl)) ?_
 simp only [Act.put, pu]
 refine qw_pick true (v := .bool true) (by rfl) rfl rfl rfl ?_
 simp only [Act.put, pu]
 refine qw_asg (by rfl) rfl rfl ?_
 simp only [Act.put, List.setIfInBounds_toArray, List.set_cons_zero]
 refine qw_nil ?_
 intro w9 hqb
 replace sb := below_on sb (Nat.le_refl _) hqb
 clear hqb
 go_wp2
 go_ret
 exact ⟨rfl, sb⟩
end Go.Proofs.YtlacmkliofnjcaaDoor
