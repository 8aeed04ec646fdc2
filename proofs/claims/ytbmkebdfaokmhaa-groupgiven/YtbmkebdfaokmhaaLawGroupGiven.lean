/- GroupGiven: for every number: the three groups that are given are groups, as the document has them; no condition. -/
import Derived.Test.YtbmkebdfaokmhaaGAwake
import Derived.Test.YtbmkebdfaokmhaaGRefL
import Derived.Test.YtbmkebdfaokmhaaGU
namespace Go.Proofs.Ytbmkebdfaokmhaa
open Go.ChangeShapes Go.WideShapes Go.ChangeAt Go.RowKit
namespace groupGivenP
set_option maxRecDepth 100000 in
set_option maxHeartbeats 2000000 in
theorem core_Least (a0 X : Int) (GG PP QQ : Nat) (SZ : Int) (LK : Array Value) (w : World) (hX : bits .and .i64 a0 3 = X) (h1 : X ≠ 1) (h2 : X ≠ 2) (h0P : 0 < PP) (hP : PP < 2 ^ 256) (h0Q : 0 < QQ) (hQ : QQ < 2 ^ 256)
  (hA : ∀ w', Calls Try.prog 7 #[] w' fun e w2 => ∃ g, e = .returned (.agg (paC (some ⟨g, 0, none⟩) 3 3 GG)) ∧ w'.heap.size ≤ g ∧ Row w2 g LK 58 ∧ Below w'.heap.size w' w2)
  (hB : ∀ w', Calls Try.prog 8 #[] w' fun e w2 => ∃ g, e = .returned (.agg (paC (some ⟨g, 0, none⟩) 3 3 GG)) ∧ w'.heap.size ≤ g ∧ Row w2 g LK 58 ∧ Below w'.heap.size w' w2)
  (hnw : ∀ w' x, Row w' x LK 58 → Calls Try.prog 13 #[.agg (paC (some ⟨x, 0, none⟩) 3 3 GG)] w' fun e w2 => ∃ g gr gf, e = .returned (.tuple #[.pointer (some ⟨g, 0, none⟩), .int .i64 0]) ∧ GrpAt w2 g gr gf PP QQ GG ∧ Below w'.heap.size w' w2)
  (hck : ∀ w' x, Row w' x LK 58 → Calls Try.prog 15 #[.agg (paC (some ⟨x, 0, none⟩) 3 3 GG)] w' fun e w2 => e = .returned (.int .i64 0) ∧ Below w'.heap.size w' w2)
  (hsm : ∀ w' x y, Row w' x LK 58 → Row w' y LK 58 → Calls Try.prog 14 #[.agg (paC (some ⟨x, 0, none⟩) 3 3 GG), .agg (paC (some ⟨y, 0, none⟩) 3 3 GG)] w' fun e w2 => e = .returned (.bool true) ∧ Below w'.heap.size w' w2)
  (hrp : ∀ w' x, Row w' x LK 58 → Calls Try.prog 17 #[.agg (paC (some ⟨x, 0, none⟩) 3 3 GG)] w' fun e w2 => e = .returned (.agg (natC PP)) ∧ Below w'.heap.size w' w2)
  (hrq : ∀ w' x, Row w' x LK 58 → Calls Try.prog 19 #[.agg (paC (some ⟨x, 0, none⟩) 3 3 GG)] w' fun e w2 => e = .returned (.agg (natC QQ)) ∧ Below w'.heap.size w' w2)
  (hrs : ∀ w' x, Row w' x LK 58 → Calls Try.prog 22 #[.agg (paC (some ⟨x, 0, none⟩) 3 3 GG)] w' fun e w2 => e = .returned (.int .i64 SZ) ∧ Below w'.heap.size w' w2)
  (hsz : ∀ w' g gr gf, GrpAt w' g gr gf PP QQ GG → Calls Try.prog 21 #[.pointer (some ⟨g, 0, none⟩)] w' fun e w2 => e = .returned (.int .i64 SZ) ∧ Below w'.heap.size w' w2) :
  Calls Try.prog 3 #[.int .i64 a0] w fun e w' => e = .returned (.bool true) ∧ Below w.heap.size w w' := by
 have haw := awake7_any
 go_enter Try.func3, Try.ntmps3
 have sb := Below.refl w.heap.size w
 (repeat ((fail_if_success with_reducible refine rg ?_); go_step))
 refine wp_region_pw ?_
 refine pw_value (by rfl) (.bool false) (fun _ => rfl) ?_
 simp only [Act.put, pu]
 refine pw_nil ?_
 (repeat ((fail_if_success with_reducible refine rg ?_); go_step))
 refine wp_region_pw ?_
 refine pw_callE (by rfl) 7 _ _ rfl Try.func7 (by kernel_rfl) #[] rfl (hA _) ?_
 rintro _ z1000 ⟨gU, rfl, nU, rU, hb⟩
 refine ⟨_, rfl, ?_⟩
 simp only [Act.put, pu]
 have bU := Nat.le_trans sb.size nU
 clear nU
 have k := Kept.ofBelow hb
 clear hb
 replace sb := sb.trans (k.below w.heap.size sb.size (by simp <;> omega))
 clear k
 refine pw_callE (by rfl) 8 _ _ rfl Try.func8 (by kernel_rfl) #[] rfl (hB _) ?_
 rintro _ z1001 ⟨gV, rfl, nV, rV, hb⟩
 refine ⟨_, rfl, ?_⟩
 simp only [Act.put, pu]
 have dUxV := Nat.lt_of_lt_of_le rU.lt nV
 have bV := Nat.le_trans sb.size nV
 clear nV
 have k := Kept.ofBelow hb
 clear hb
 replace rU := k.row rU (by simp <;> omega)
 replace sb := sb.trans (k.below w.heap.size sb.size (by simp <;> omega))
 clear k
 refine pw_new (by rfl) 27 rfl _ zero_pa ?_
 intro g3 z1002 n0 r3 k
 simp only [Act.put, pu]
 have dUx3 := Nat.lt_of_lt_of_le rU.lt n0
 have dVx3 := Nat.lt_of_lt_of_le rV.lt n0
 have b3 := Nat.le_trans sb.size n0
 clear n0
 replace rU := k.row rU (by simp <;> omega)
 replace rV := k.row rV (by simp <;> omega)
 replace sb := sb.trans (k.below w.heap.size sb.size (by simp <;> omega))
 clear k
 refine pw_new (by rfl) 27 rfl _ zero_pa ?_
 intro g4 z1003 n0 r4 k
 simp only [Act.put, pu]
 have dUx4 := Nat.lt_of_lt_of_le rU.lt n0
 have dVx4 := Nat.lt_of_lt_of_le rV.lt n0
 have d3x4 := Nat.lt_of_lt_of_le r3.lt n0
 have b4 := Nat.le_trans sb.size n0
 clear n0
 replace rU := k.row rU (by simp <;> omega)
 replace rV := k.row rV (by simp <;> omega)
 replace r3 := k.row r3 (by simp <;> omega)
 replace sb := sb.trans (k.below w.heap.size sb.size (by simp <;> omega))
 clear k
 refine pw_put (by rfl) 27 _ _ rfl _ rfl r3 (paC (some ⟨gU, 0, none⟩) 3 3 GG) rfl (by exact size_pa) (by rfl) (pa_one _ _ _ _) ?_
 clear r3
 intro z1004 r3 k
 simp only [Act.put]
 replace rU := k.row rU (by simp <;> omega)
 replace rV := k.row rV (by simp <;> omega)
 replace r4 := k.row r4 (by simp <;> omega)
 replace sb := sb.trans (k.below w.heap.size sb.size (by simp <;> omega))
 clear k
 refine pw_put (by rfl) 27 _ _ rfl _ rfl r4 (paC (some ⟨gV, 0, none⟩) 3 3 GG) rfl (by exact size_pa) (by rfl) (pa_one _ _ _ _) ?_
 clear r4
 intro z1005 r4 k
 simp only [Act.put]
 replace rU := k.row rU (by simp <;> omega)
 replace rV := k.row rV (by simp <;> omega)
 replace r3 := k.row r3 (by simp <;> omega)
 replace sb := sb.trans (k.below w.heap.size sb.size (by simp <;> omega))
 clear k
 refine pw_nil ?_
 (repeat ((fail_if_success with_reducible refine rg ?_); go_step))
 refine wp_region_pw ?_
 refine pw_mv (by rfl) rfl rfl ?_
 simp only [Act.put, pu]
 refine pw_value (by rfl) (.int .i64 X) (fun w' => (exec_bits_i .and _ _ _ _ (.inl rfl) rfl a0 3 rfl rfl w').trans (by rw [hX])) ?_
 simp only [Act.put, pu]
 refine pw_nil ?_
 (repeat ((fail_if_success with_reducible refine rg ?_); go_step))
 refine wp_region_pw ?_
 refine pw_value (by rfl) (.bool false) (exec_eql_k .i64 _ _ _ _ rfl X 1 rfl rfl false (decide_eq_false h1)) ?_
 simp only [Act.put, pu]
 refine pw_as (by rfl) rfl rfl ?_
 simp only [Act.put, pu]
 refine pw_nil ?_
 (repeat ((fail_if_success with_reducible refine rg ?_); go_step))
 refine wp_region_pw ?_
 refine pw_value (by rfl) (.bool false) (exec_eql_k .i64 _ _ _ _ rfl X 2 rfl rfl false (decide_eq_false h2)) ?_
 simp only [Act.put, pu]
 refine pw_as (by rfl) rfl rfl ?_
 simp only [Act.put, pu]
 refine pw_nil ?_
 clear hA hB
 (repeat ((fail_if_success with_reducible refine rg ?_); go_step))
 refine wp_region_pw ?_
 refine pw_loadm (by rfl) 27 _ rfl _ 0 rfl r3.r _ (part_all _) _ Try.underlying27 rfl size_pa ?_
 simp only [Act.put, pu]
 refine pw_callE (by rfl) 13 _ _ rfl Try.func13 (by kernel_rfl) #[.agg (paC (some ⟨gU, 0, none⟩) 3 3 GG)] rfl (hnw _ gU rU) ?_
 rintro _ z9001 ⟨g, gr, gf, rfl, hg, hb⟩
 refine ⟨_, rfl, ?_⟩
 simp only [Act.put, pu]
 have k := Kept.ofBelow hb
 clear hb
 replace r3 := k.row r3 (by simp <;> omega)
 replace r4 := k.row r4 (by simp <;> omega)
 replace rU := k.row rU (by simp <;> omega)
 replace rV := k.row rV (by simp <;> omega)
 replace sb := sb.trans (k.below w.heap.size sb.size (by simp <;> omega))
 clear k
 refine pw_mv (by rfl) rfl rfl ?_
 simp only [Act.put, pu]
 refine pw_ext (by rfl) rfl rfl rfl ?_
 simp only [Act.put, pu]
 refine pw_ext (by rfl) rfl rfl rfl ?_
 simp only [Act.put, pu]
 refine pw_as (by rfl) rfl rfl ?_
 simp only [Act.put, pu]
 refine pw_as (by rfl) rfl rfl ?_
 simp only [Act.put, pu]
 refine pw_nil ?_
 clear hnw
 (repeat ((fail_if_success with_reducible refine rg ?_); go_step))
 refine wp_region_pw ?_
 refine pw_loadm (by rfl) 27 _ rfl _ 0 rfl r3.r _ (part_all _) _ Try.underlying27 rfl size_pa ?_
 simp only [Act.put, pu]
 refine pw_loadm (by rfl) 27 _ rfl _ 0 rfl r4.r _ (part_all _) _ Try.underlying27 rfl size_pa ?_
 simp only [Act.put, pu]
 refine pw_callB (by rfl) 14 _ _ rfl Try.func14 (by kernel_rfl) #[.agg (paC (some ⟨gU, 0, none⟩) 3 3 GG), .agg (paC (some ⟨gV, 0, none⟩) 3 3 GG)] rfl _ (hsm _ gU gV rU rV) ?_
 intro z10002 k
 simp only [Act.put, pu]
 replace r3 := k.row r3 (by simp <;> omega)
 replace r4 := k.row r4 (by simp <;> omega)
 replace rU := k.row rU (by simp <;> omega)
 replace rV := k.row rV (by simp <;> omega)
 replace hg := hg.below k.nil
 replace sb := sb.trans (k.below w.heap.size sb.size (by simp <;> omega))
 clear k
 refine pw_value (by rfl) (.bool false) (exec_not _ _ rfl true rfl) ?_
 simp only [Act.put, pu]
 refine pw_mv (by rfl) rfl rfl ?_
 simp only [Act.put, pu]
 refine pw_loadm (by rfl) 27 _ rfl _ 0 rfl r3.r _ (part_all _) _ Try.underlying27 rfl size_pa ?_
 simp only [Act.put, pu]
 refine pw_callB (by rfl) 15 _ _ rfl Try.func15 (by kernel_rfl) #[.agg (paC (some ⟨gU, 0, none⟩) 3 3 GG)] rfl _ (hck _ gU rU) ?_
 intro z10006 k
 simp only [Act.put, pu]
 replace r3 := k.row r3 (by simp <;> omega)
 replace r4 := k.row r4 (by simp <;> omega)
 replace rU := k.row rU (by simp <;> omega)
 replace rV := k.row rV (by simp <;> omega)
 replace hg := hg.below k.nil
 replace sb := sb.trans (k.below w.heap.size sb.size (by simp <;> omega))
 clear k
 refine pw_value (by rfl) (.bool false) (exec_neq_k .i64 _ _ _ _ rfl 0 0 rfl rfl false rfl) ?_
 simp only [Act.put, pu]
 refine pw_pick (by rfl) false (v := .bool false) rfl rfl rfl ?_
 simp only [Act.put, pu]
 refine pw_mv (by rfl) rfl rfl ?_
 simp only [Act.put, pu]
 refine pw_mv (by rfl) rfl rfl ?_
 simp only [Act.put, pu]
 refine pw_value (by rfl) (.bool false) (exec_neq_k .i64 _ _ _ _ rfl 0 0 rfl rfl false rfl) ?_
 simp only [Act.put, pu]
 refine pw_pick (by rfl) false (v := .bool false) rfl rfl rfl ?_
 simp only [Act.put, pu]
 refine pw_mv (by rfl) rfl rfl ?_
 simp only [Act.put, pu]
 refine pw_mv (by rfl) rfl rfl ?_
 simp only [Act.put, pu]
 refine pw_value (by rfl) (.bool false) (exec_eql_nilp _ _ _ _ rfl (some ⟨g, 0, none⟩) rfl rfl ptr_grp) ?_
 simp only [Act.put, pu]
 refine pw_pick (by rfl) false (v := .bool false) rfl rfl rfl ?_
 simp only [Act.put, pu]
 refine pw_nil ?_
 clear hsm hck
 (repeat ((fail_if_success with_reducible refine rg ?_); go_step))
 refine wp_region_qw (by kernel_rfl) (by kernel_rfl) ?_
 refine qw_move (by rfl) rfl rfl ?_
 simp only [Act.put, pu]
 refine qw_callK (by rfl) 16 _ _ rfl Try.func16 (by kernel_rfl) #[.pointer (some ⟨g, 0, none⟩)] rfl _ (fun w' hb => grpP_any _ _ _ _ _ _ w' (hg.below hb).kn) ?_
 simp only [Act.put, pu]
 refine qw_loadm (by rfl) 27 _ rfl _ (0) rfl r4 (paC (some ⟨gV, 0, none⟩) 3 3 GG) (part_all _) _ Try.underlying27 rfl size_pa ?_
 simp only [Act.put, pu]
 refine qw_callK (by rfl) 17 _ _ rfl Try.func17 (by kernel_rfl) #[.agg (paC (some ⟨gV, 0, none⟩) 3 3 GG)] rfl _ (fun w' hb => hrp w' _ (rV.belowAll hb)) ?_
 simp only [Act.put, pu]
 refine qw_value (by rfl) (.bool true) (fun w' => (exec_eql_nat _ _ _ rfl PP PP rfl rfl w').trans (by rw [eqn_yes])) ?_
 simp only [Act.put, pu]
 refine qw_move (by rfl) rfl rfl ?_
 simp only [Act.put, pu]
 refine qw_move (by rfl) rfl rfl ?_
 simp only [Act.put, pu]
 refine qw_callK (by rfl) 18 _ _ rfl Try.func18 (by kernel_rfl) #[.pointer (some ⟨g, 0, none⟩)] rfl _ (fun w' hb => grpQ_any _ _ _ _ _ _ w' (hg.below hb).kn) ?_
 simp only [Act.put, pu]
 refine qw_loadm (by rfl) 27 _ rfl _ (0) rfl r4 (paC (some ⟨gV, 0, none⟩) 3 3 GG) (part_all _) _ Try.underlying27 rfl size_pa ?_
 simp only [Act.put, pu]
 refine qw_callK (by rfl) 19 _ _ rfl Try.func19 (by kernel_rfl) #[.agg (paC (some ⟨gV, 0, none⟩) 3 3 GG)] rfl _ (fun w' hb => hrq w' _ (rV.belowAll hb)) ?_
 simp only [Act.put, pu]
 refine qw_value (by rfl) (.bool true) (fun w' => (exec_eql_nat _ _ _ rfl QQ QQ rfl rfl w').trans (by rw [eqn_yes])) ?_
 simp only [Act.put, pu]
 refine qw_pick true (v := .bool true) (by rfl) rfl rfl rfl ?_
 simp only [Act.put, pu]
 refine qw_move (by rfl) rfl rfl ?_
 simp only [Act.put, pu]
 refine qw_move (by rfl) rfl rfl ?_
 simp only [Act.put, pu]
 refine qw_callK (by rfl) 20 _ _ rfl Try.func20 (by kernel_rfl) #[.pointer (some ⟨g, 0, none⟩)] rfl _ (fun w' hb => grpG_any _ _ _ _ _ _ w' (hg.below hb).kn) ?_
 simp only [Act.put, pu]
 refine qw_value (by rfl) (.pointer (some ⟨g4, 1, none⟩)) (exec_field 27 _ 1 rfl g4 0 rfl _ Try.underlying27 _ rfl 3 Try.sizeOf25) ?_
 simp only [Act.put, pu]
 refine qw_loadm (by rfl) 25 _ rfl _ (1) rfl r4 (natC GG) (pa_g _ _ _ _) _ Try.underlying25 rfl size_nat ?_
 simp only [Act.put, pu]
 refine qw_value (by rfl) (.bool true) (fun w' => (exec_eql_nat _ _ _ rfl GG GG rfl rfl w').trans (by rw [eqn_yes])) ?_
 simp only [Act.put, pu]
 refine qw_pick true (v := .bool true) (by rfl) rfl rfl rfl ?_
 simp only [Act.put, pu]
 refine qw_move (by rfl) rfl rfl ?_
 simp only [Act.put, pu]
 refine qw_move (by rfl) rfl rfl ?_
 simp only [Act.put, pu]
 refine qw_callK (by rfl) 21 _ _ rfl Try.func21 (by kernel_rfl) #[.pointer (some ⟨g, 0, none⟩)] rfl _ (fun w' hb => hsz w' g gr gf (hg.below hb)) ?_
 simp only [Act.put, pu]
 refine qw_loadm (by rfl) 27 _ rfl _ (0) rfl r4 (paC (some ⟨gV, 0, none⟩) 3 3 GG) (part_all _) _ Try.underlying27 rfl size_pa ?_
 simp only [Act.put, pu]
 refine qw_callK (by rfl) 22 _ _ rfl Try.func22 (by kernel_rfl) #[.agg (paC (some ⟨gV, 0, none⟩) 3 3 GG)] rfl _ (fun w' hb => hrs w' _ (rV.belowAll hb)) ?_
 simp only [Act.put, pu]
 refine qw_value (by rfl) (.bool true) (exec_eql_k .i64 _ _ _ _ rfl SZ SZ rfl rfl true (decide_eq_true rfl)) ?_
 simp only [Act.put, pu]
 refine qw_pick true (v := .bool true) (by rfl) rfl rfl rfl ?_
 simp only [Act.put, pu]
 refine qw_move (by rfl) rfl rfl ?_
 simp only [Act.put, pu]
 refine qw_move (by rfl) rfl rfl ?_
 simp only [Act.put, pu]
 refine qw_callK (by rfl) 23 _ _ rfl Try.func23 (by kernel_rfl) #[.pointer (some ⟨g, 0, none⟩)] rfl _ (fun w' hb => grpRing_any _ _ _ _ _ _ w' (hg.below hb).kn) ?_
 simp only [Act.put, pu]
 refine qw_callK (by rfl) 24 _ _ rfl Try.func24 (by kernel_rfl) #[.pointer (some ⟨gr, 0, none⟩)] rfl _ (fun w' hb => ringM_any PP _ _ _ gr w' h0P hP (hg.below hb).ring) ?_
 simp only [Act.put, pu]
 refine qw_loadm (by rfl) 27 _ rfl _ (0) rfl r4 (paC (some ⟨gV, 0, none⟩) 3 3 GG) (part_all _) _ Try.underlying27 rfl size_pa ?_
 simp only [Act.put, pu]
 refine qw_callK (by rfl) 17 _ _ rfl Try.func17 (by kernel_rfl) #[.agg (paC (some ⟨gV, 0, none⟩) 3 3 GG)] rfl _ (fun w' hb => hrp w' _ (rV.belowAll hb)) ?_
 simp only [Act.put, pu]
 refine qw_value (by rfl) (.bool true) (fun w' => (exec_eql_nat _ _ _ rfl PP PP rfl rfl w').trans (by rw [eqn_yes])) ?_
 simp only [Act.put, pu]
 refine qw_pick true (v := .bool true) (by rfl) rfl rfl rfl ?_
 simp only [Act.put, pu]
 refine qw_move (by rfl) rfl rfl ?_
 simp only [Act.put, pu]
 refine qw_move (by rfl) rfl rfl ?_
 simp only [Act.put, pu]
 refine qw_callK (by rfl) 25 _ _ rfl Try.func25 (by kernel_rfl) #[.pointer (some ⟨g, 0, none⟩)] rfl _ (fun w' hb => grpField_any _ _ _ _ _ _ w' (hg.below hb).kn) ?_
 simp only [Act.put, pu]
 refine qw_callK (by rfl) 24 _ _ rfl Try.func24 (by kernel_rfl) #[.pointer (some ⟨gf, 0, none⟩)] rfl _ (fun w' hb => ringM_any QQ _ _ _ gf w' h0Q hQ (hg.below hb).fld) ?_
 simp only [Act.put, pu]
 refine qw_loadm (by rfl) 27 _ rfl _ (0) rfl r4 (paC (some ⟨gV, 0, none⟩) 3 3 GG) (part_all _) _ Try.underlying27 rfl size_pa ?_
 simp only [Act.put, pu]
 refine qw_callK (by rfl) 19 _ _ rfl Try.func19 (by kernel_rfl) #[.agg (paC (some ⟨gV, 0, none⟩) 3 3 GG)] rfl _ (fun w' hb => hrq w' _ (rV.belowAll hb)) ?_
 simp only [Act.put, pu]
 refine qw_value (by rfl) (.bool true) (fun w' => (exec_eql_nat _ _ _ rfl QQ QQ rfl rfl w').trans (by rw [eqn_yes])) ?_
 simp only [Act.put, pu]
 refine qw_pick true (v := .bool true) (by rfl) rfl rfl rfl ?_
 simp only [Act.put, pu]
 refine qw_move (by rfl) rfl rfl ?_
 simp only [Act.put, pu]
 refine qw_call (by rfl) 26 _ _ rfl Try.func26 (by kernel_rfl) #[] rfl _ haw ?_
 simp only [Act.put, pu]
 refine qw_pick true (v := .bool true) (by rfl) rfl rfl rfl ?_
 simp only [Act.put, pu]
 refine qw_asg (by rfl) rfl rfl ?_
 simp only [Act.put, pu]
 refine qw_nil ?_
 intro w9 hqb
 replace sb := below_on sb (Nat.le_refl _) hqb
 clear hqb
 go_wp2
 go_ret
 exact ⟨rfl, sb⟩
set_option maxRecDepth 100000 in
set_option maxHeartbeats 2000000 in
theorem core_Other (a0 X : Int) (GG PP QQ : Nat) (SZ : Int) (LK : Array Value) (G0 : Nat) (L0 : Array Value) (w : World) (hX : bits .and .i64 a0 3 = X) (h1 : X = 1) (h0P : 0 < PP) (hP : PP < 2 ^ 256) (h0Q : 0 < QQ) (hQ : QQ < 2 ^ 256)
  (hA0 : ∀ w', Calls Try.prog 7 #[] w' fun e w2 => ∃ g, e = .returned (.agg (paC (some ⟨g, 0, none⟩) 3 3 G0)) ∧ w'.heap.size ≤ g ∧ Row w2 g L0 58 ∧ Below w'.heap.size w' w2)
  (hB0 : ∀ w', Calls Try.prog 8 #[] w' fun e w2 => ∃ g, e = .returned (.agg (paC (some ⟨g, 0, none⟩) 3 3 G0)) ∧ w'.heap.size ≤ g ∧ Row w2 g L0 58 ∧ Below w'.heap.size w' w2)
  (hA : ∀ w', Calls Try.prog 9 #[] w' fun e w2 => ∃ g, e = .returned (.agg (paC (some ⟨g, 0, none⟩) 3 3 GG)) ∧ w'.heap.size ≤ g ∧ Row w2 g LK 58 ∧ Below w'.heap.size w' w2)
  (hB : ∀ w', Calls Try.prog 10 #[] w' fun e w2 => ∃ g, e = .returned (.agg (paC (some ⟨g, 0, none⟩) 3 3 GG)) ∧ w'.heap.size ≤ g ∧ Row w2 g LK 58 ∧ Below w'.heap.size w' w2)
  (hnw : ∀ w' x, Row w' x LK 58 → Calls Try.prog 13 #[.agg (paC (some ⟨x, 0, none⟩) 3 3 GG)] w' fun e w2 => ∃ g gr gf, e = .returned (.tuple #[.pointer (some ⟨g, 0, none⟩), .int .i64 0]) ∧ GrpAt w2 g gr gf PP QQ GG ∧ Below w'.heap.size w' w2)
  (hck : ∀ w' x, Row w' x LK 58 → Calls Try.prog 15 #[.agg (paC (some ⟨x, 0, none⟩) 3 3 GG)] w' fun e w2 => e = .returned (.int .i64 0) ∧ Below w'.heap.size w' w2)
  (hsm : ∀ w' x y, Row w' x LK 58 → Row w' y LK 58 → Calls Try.prog 14 #[.agg (paC (some ⟨x, 0, none⟩) 3 3 GG), .agg (paC (some ⟨y, 0, none⟩) 3 3 GG)] w' fun e w2 => e = .returned (.bool true) ∧ Below w'.heap.size w' w2)
  (hrp : ∀ w' x, Row w' x LK 58 → Calls Try.prog 17 #[.agg (paC (some ⟨x, 0, none⟩) 3 3 GG)] w' fun e w2 => e = .returned (.agg (natC PP)) ∧ Below w'.heap.size w' w2)
  (hrq : ∀ w' x, Row w' x LK 58 → Calls Try.prog 19 #[.agg (paC (some ⟨x, 0, none⟩) 3 3 GG)] w' fun e w2 => e = .returned (.agg (natC QQ)) ∧ Below w'.heap.size w' w2)
  (hrs : ∀ w' x, Row w' x LK 58 → Calls Try.prog 22 #[.agg (paC (some ⟨x, 0, none⟩) 3 3 GG)] w' fun e w2 => e = .returned (.int .i64 SZ) ∧ Below w'.heap.size w' w2)
  (hsz : ∀ w' g gr gf, GrpAt w' g gr gf PP QQ GG → Calls Try.prog 21 #[.pointer (some ⟨g, 0, none⟩)] w' fun e w2 => e = .returned (.int .i64 SZ) ∧ Below w'.heap.size w' w2) :
  Calls Try.prog 3 #[.int .i64 a0] w fun e w' => e = .returned (.bool true) ∧ Below w.heap.size w w' := by
 have haw := awake7_any
 subst h1
 go_enter Try.func3, Try.ntmps3
 have sb := Below.refl w.heap.size w
 (repeat ((fail_if_success with_reducible refine rg ?_); go_step))
 refine wp_region_pw ?_
 refine pw_value (by rfl) (.bool false) (fun _ => rfl) ?_
 simp only [Act.put, pu]
 refine pw_nil ?_
 (repeat ((fail_if_success with_reducible refine rg ?_); go_step))
 refine wp_region_pw ?_
 refine pw_callE (by rfl) 7 _ _ rfl Try.func7 (by kernel_rfl) #[] rfl (hA0 _) ?_
 rintro _ z1000 ⟨gU, rfl, nU, rU, hb⟩
 refine ⟨_, rfl, ?_⟩
 simp only [Act.put, pu]
 have bU := Nat.le_trans sb.size nU
 clear nU
 have k := Kept.ofBelow hb
 clear hb
 replace sb := sb.trans (k.below w.heap.size sb.size (by simp <;> omega))
 clear k
 refine pw_callE (by rfl) 8 _ _ rfl Try.func8 (by kernel_rfl) #[] rfl (hB0 _) ?_
 rintro _ z1001 ⟨gV, rfl, nV, rV, hb⟩
 refine ⟨_, rfl, ?_⟩
 simp only [Act.put, pu]
 have dUxV := Nat.lt_of_lt_of_le rU.lt nV
 have bV := Nat.le_trans sb.size nV
 clear nV
 have k := Kept.ofBelow hb
 clear hb
 replace rU := k.row rU (by simp <;> omega)
 replace sb := sb.trans (k.below w.heap.size sb.size (by simp <;> omega))
 clear k
 refine pw_new (by rfl) 27 rfl _ zero_pa ?_
 intro g3 z1002 n0 r3 k
 simp only [Act.put, pu]
 have dUx3 := Nat.lt_of_lt_of_le rU.lt n0
 have dVx3 := Nat.lt_of_lt_of_le rV.lt n0
 have b3 := Nat.le_trans sb.size n0
 clear n0
 replace rU := k.row rU (by simp <;> omega)
 replace rV := k.row rV (by simp <;> omega)
 replace sb := sb.trans (k.below w.heap.size sb.size (by simp <;> omega))
 clear k
 refine pw_new (by rfl) 27 rfl _ zero_pa ?_
 intro g4 z1003 n0 r4 k
 simp only [Act.put, pu]
 have dUx4 := Nat.lt_of_lt_of_le rU.lt n0
 have dVx4 := Nat.lt_of_lt_of_le rV.lt n0
 have d3x4 := Nat.lt_of_lt_of_le r3.lt n0
 have b4 := Nat.le_trans sb.size n0
 clear n0
 replace rU := k.row rU (by simp <;> omega)
 replace rV := k.row rV (by simp <;> omega)
 replace r3 := k.row r3 (by simp <;> omega)
 replace sb := sb.trans (k.below w.heap.size sb.size (by simp <;> omega))
 clear k
 refine pw_put (by rfl) 27 _ _ rfl _ rfl r3 (paC (some ⟨gU, 0, none⟩) 3 3 G0) rfl (by exact size_pa) (by rfl) (pa_one _ _ _ _) ?_
 clear r3
 intro z1004 r3 k
 simp only [Act.put]
 replace rU := k.row rU (by simp <;> omega)
 replace rV := k.row rV (by simp <;> omega)
 replace r4 := k.row r4 (by simp <;> omega)
 replace sb := sb.trans (k.below w.heap.size sb.size (by simp <;> omega))
 clear k
 refine pw_put (by rfl) 27 _ _ rfl _ rfl r4 (paC (some ⟨gV, 0, none⟩) 3 3 G0) rfl (by exact size_pa) (by rfl) (pa_one _ _ _ _) ?_
 clear r4
 intro z1005 r4 k
 simp only [Act.put]
 replace rU := k.row rU (by simp <;> omega)
 replace rV := k.row rV (by simp <;> omega)
 replace r3 := k.row r3 (by simp <;> omega)
 replace sb := sb.trans (k.below w.heap.size sb.size (by simp <;> omega))
 clear k
 refine pw_nil ?_
 clear hA0 hB0 rU rV
 (repeat ((fail_if_success with_reducible refine rg ?_); go_step))
 refine wp_region_pw ?_
 refine pw_mv (by rfl) rfl rfl ?_
 simp only [Act.put, pu]
 refine pw_value (by rfl) (.int .i64 1) (fun w' => (exec_bits_i .and _ _ _ _ (.inl rfl) rfl a0 3 rfl rfl w').trans (by rw [hX])) ?_
 simp only [Act.put, pu]
 refine pw_nil ?_
 (repeat ((fail_if_success with_reducible refine rg ?_); go_step))
 refine wp_region_pw ?_
 refine pw_value (by rfl) (.bool true) (exec_eql_k .i64 _ _ _ _ rfl 1 1 rfl rfl true rfl) ?_
 simp only [Act.put, pu]
 refine pw_as (by rfl) rfl rfl ?_
 simp only [Act.put, pu]
 refine pw_nil ?_
 (repeat ((fail_if_success with_reducible refine rg ?_); go_step))
 refine wp_region_pw ?_
 refine pw_callE (by rfl) 9 _ _ rfl Try.func9 (by kernel_rfl) #[] rfl (hA _) ?_
 rintro _ z4000 ⟨gY, rfl, nY, rY, hb⟩
 refine ⟨_, rfl, ?_⟩
 simp only [Act.put, pu]
 have d3xY := Nat.lt_of_lt_of_le r3.lt nY
 have d4xY := Nat.lt_of_lt_of_le r4.lt nY
 have bY := Nat.le_trans sb.size nY
 clear nY
 have k := Kept.ofBelow hb
 clear hb
 replace r3 := k.row r3 (by simp <;> omega)
 replace r4 := k.row r4 (by simp <;> omega)
 replace sb := sb.trans (k.below w.heap.size sb.size (by simp <;> omega))
 clear k
 refine pw_put (by rfl) 27 _ _ rfl _ rfl r3 (paC (some ⟨gY, 0, none⟩) 3 3 GG) rfl (by exact size_pa) (by rfl) (pa_one _ _ _ _) ?_
 clear r3
 intro z4001 r3 k
 simp only [Act.put]
 replace r4 := k.row r4 (by simp <;> omega)
 replace rY := k.row rY (by simp <;> omega)
 replace sb := sb.trans (k.below w.heap.size sb.size (by simp <;> omega))
 clear k
 refine pw_nil ?_
 (repeat ((fail_if_success with_reducible refine rg ?_); go_step))
 refine wp_region_pw ?_
 refine pw_callE (by rfl) 10 _ _ rfl Try.func10 (by kernel_rfl) #[] rfl (hB _) ?_
 rintro _ z5000 ⟨gZ, rfl, nZ, rZ, hb⟩
 refine ⟨_, rfl, ?_⟩
 simp only [Act.put, pu]
 have d3xZ := Nat.lt_of_lt_of_le r3.lt nZ
 have d4xZ := Nat.lt_of_lt_of_le r4.lt nZ
 have dYxZ := Nat.lt_of_lt_of_le rY.lt nZ
 have bZ := Nat.le_trans sb.size nZ
 clear nZ
 have k := Kept.ofBelow hb
 clear hb
 replace r3 := k.row r3 (by simp <;> omega)
 replace r4 := k.row r4 (by simp <;> omega)
 replace rY := k.row rY (by simp <;> omega)
 replace sb := sb.trans (k.below w.heap.size sb.size (by simp <;> omega))
 clear k
 refine pw_put (by rfl) 27 _ _ rfl _ rfl r4 (paC (some ⟨gZ, 0, none⟩) 3 3 GG) rfl (by exact size_pa) (by rfl) (pa_one _ _ _ _) ?_
 clear r4
 intro z5001 r4 k
 simp only [Act.put]
 replace r3 := k.row r3 (by simp <;> omega)
 replace rY := k.row rY (by simp <;> omega)
 replace rZ := k.row rZ (by simp <;> omega)
 replace sb := sb.trans (k.below w.heap.size sb.size (by simp <;> omega))
 clear k
 refine pw_nil ?_
 clear hA hB
 (repeat ((fail_if_success with_reducible refine rg ?_); go_step))
 refine wp_region_pw ?_
 refine pw_loadm (by rfl) 27 _ rfl _ 0 rfl r3.r _ (part_all _) _ Try.underlying27 rfl size_pa ?_
 simp only [Act.put, pu]
 refine pw_callE (by rfl) 13 _ _ rfl Try.func13 (by kernel_rfl) #[.agg (paC (some ⟨gY, 0, none⟩) 3 3 GG)] rfl (hnw _ gY rY) ?_
 rintro _ z9001 ⟨g, gr, gf, rfl, hg, hb⟩
 refine ⟨_, rfl, ?_⟩
 simp only [Act.put, pu]
 have k := Kept.ofBelow hb
 clear hb
 replace r3 := k.row r3 (by simp <;> omega)
 replace r4 := k.row r4 (by simp <;> omega)
 replace rY := k.row rY (by simp <;> omega)
 replace rZ := k.row rZ (by simp <;> omega)
 replace sb := sb.trans (k.below w.heap.size sb.size (by simp <;> omega))
 clear k
 refine pw_mv (by rfl) rfl rfl ?_
 simp only [Act.put, pu]
 refine pw_ext (by rfl) rfl rfl rfl ?_
 simp only [Act.put, pu]
 refine pw_ext (by rfl) rfl rfl rfl ?_
 simp only [Act.put, pu]
 refine pw_as (by rfl) rfl rfl ?_
 simp only [Act.put, pu]
 refine pw_as (by rfl) rfl rfl ?_
 simp only [Act.put, pu]
 refine pw_nil ?_
 clear hnw
 (repeat ((fail_if_success with_reducible refine rg ?_); go_step))
 refine wp_region_pw ?_
 refine pw_loadm (by rfl) 27 _ rfl _ 0 rfl r3.r _ (part_all _) _ Try.underlying27 rfl size_pa ?_
 simp only [Act.put, pu]
 refine pw_loadm (by rfl) 27 _ rfl _ 0 rfl r4.r _ (part_all _) _ Try.underlying27 rfl size_pa ?_
 simp only [Act.put, pu]
 refine pw_callB (by rfl) 14 _ _ rfl Try.func14 (by kernel_rfl) #[.agg (paC (some ⟨gY, 0, none⟩) 3 3 GG), .agg (paC (some ⟨gZ, 0, none⟩) 3 3 GG)] rfl _ (hsm _ gY gZ rY rZ) ?_
 intro z10002 k
 simp only [Act.put, pu]
 replace r3 := k.row r3 (by simp <;> omega)
 replace r4 := k.row r4 (by simp <;> omega)
 replace rY := k.row rY (by simp <;> omega)
 replace rZ := k.row rZ (by simp <;> omega)
 replace hg := hg.below k.nil
 replace sb := sb.trans (k.below w.heap.size sb.size (by simp <;> omega))
 clear k
 refine pw_value (by rfl) (.bool false) (exec_not _ _ rfl true rfl) ?_
 simp only [Act.put, pu]
 refine pw_mv (by rfl) rfl rfl ?_
 simp only [Act.put, pu]
 refine pw_loadm (by rfl) 27 _ rfl _ 0 rfl r3.r _ (part_all _) _ Try.underlying27 rfl size_pa ?_
 simp only [Act.put, pu]
 refine pw_callB (by rfl) 15 _ _ rfl Try.func15 (by kernel_rfl) #[.agg (paC (some ⟨gY, 0, none⟩) 3 3 GG)] rfl _ (hck _ gY rY) ?_
 intro z10006 k
 simp only [Act.put, pu]
 replace r3 := k.row r3 (by simp <;> omega)
 replace r4 := k.row r4 (by simp <;> omega)
 replace rY := k.row rY (by simp <;> omega)
 replace rZ := k.row rZ (by simp <;> omega)
 replace hg := hg.below k.nil
 replace sb := sb.trans (k.below w.heap.size sb.size (by simp <;> omega))
 clear k
 refine pw_value (by rfl) (.bool false) (exec_neq_k .i64 _ _ _ _ rfl 0 0 rfl rfl false rfl) ?_
 simp only [Act.put, pu]
 refine pw_pick (by rfl) false (v := .bool false) rfl rfl rfl ?_
 simp only [Act.put, pu]
 refine pw_mv (by rfl) rfl rfl ?_
 simp only [Act.put, pu]
 refine pw_mv (by rfl) rfl rfl ?_
 simp only [Act.put, pu]
 refine pw_value (by rfl) (.bool false) (exec_neq_k .i64 _ _ _ _ rfl 0 0 rfl rfl false rfl) ?_
 simp only [Act.put, pu]
 refine pw_pick (by rfl) false (v := .bool false) rfl rfl rfl ?_
 simp only [Act.put, pu]
 refine pw_mv (by rfl) rfl rfl ?_
 simp only [Act.put, pu]
 refine pw_mv (by rfl) rfl rfl ?_
 simp only [Act.put, pu]
 refine pw_value (by rfl) (.bool false) (exec_eql_nilp _ _ _ _ rfl (some ⟨g, 0, none⟩) rfl rfl ptr_grp) ?_
 simp only [Act.put, pu]
 refine pw_pick (by rfl) false (v := .bool false) rfl rfl rfl ?_
 simp only [Act.put, pu]
 refine pw_nil ?_
 clear hsm hck
 (repeat ((fail_if_success with_reducible refine rg ?_); go_step))
 refine wp_region_qw (by kernel_rfl) (by kernel_rfl) ?_
 refine qw_move (by rfl) rfl rfl ?_
 simp only [Act.put, pu]
 refine qw_callK (by rfl) 16 _ _ rfl Try.func16 (by kernel_rfl) #[.pointer (some ⟨g, 0, none⟩)] rfl _ (fun w' hb => grpP_any _ _ _ _ _ _ w' (hg.below hb).kn) ?_
 simp only [Act.put, pu]
 refine qw_loadm (by rfl) 27 _ rfl _ (0) rfl r4 (paC (some ⟨gZ, 0, none⟩) 3 3 GG) (part_all _) _ Try.underlying27 rfl size_pa ?_
 simp only [Act.put, pu]
 refine qw_callK (by rfl) 17 _ _ rfl Try.func17 (by kernel_rfl) #[.agg (paC (some ⟨gZ, 0, none⟩) 3 3 GG)] rfl _ (fun w' hb => hrp w' _ (rZ.belowAll hb)) ?_
 simp only [Act.put, pu]
 refine qw_value (by rfl) (.bool true) (fun w' => (exec_eql_nat _ _ _ rfl PP PP rfl rfl w').trans (by rw [eqn_yes])) ?_
 simp only [Act.put, pu]
 refine qw_move (by rfl) rfl rfl ?_
 simp only [Act.put, pu]
 refine qw_move (by rfl) rfl rfl ?_
 simp only [Act.put, pu]
 refine qw_callK (by rfl) 18 _ _ rfl Try.func18 (by kernel_rfl) #[.pointer (some ⟨g, 0, none⟩)] rfl _ (fun w' hb => grpQ_any _ _ _ _ _ _ w' (hg.below hb).kn) ?_
 simp only [Act.put, pu]
 refine qw_loadm (by rfl) 27 _ rfl _ (0) rfl r4 (paC (some ⟨gZ, 0, none⟩) 3 3 GG) (part_all _) _ Try.underlying27 rfl size_pa ?_
 simp only [Act.put, pu]
 refine qw_callK (by rfl) 19 _ _ rfl Try.func19 (by kernel_rfl) #[.agg (paC (some ⟨gZ, 0, none⟩) 3 3 GG)] rfl _ (fun w' hb => hrq w' _ (rZ.belowAll hb)) ?_
 simp only [Act.put, pu]
 refine qw_value (by rfl) (.bool true) (fun w' => (exec_eql_nat _ _ _ rfl QQ QQ rfl rfl w').trans (by rw [eqn_yes])) ?_
 simp only [Act.put, pu]
 refine qw_pick true (v := .bool true) (by rfl) rfl rfl rfl ?_
 simp only [Act.put, pu]
 refine qw_move (by rfl) rfl rfl ?_
 simp only [Act.put, pu]
 refine qw_move (by rfl) rfl rfl ?_
 simp only [Act.put, pu]
 refine qw_callK (by rfl) 20 _ _ rfl Try.func20 (by kernel_rfl) #[.pointer (some ⟨g, 0, none⟩)] rfl _ (fun w' hb => grpG_any _ _ _ _ _ _ w' (hg.below hb).kn) ?_
 simp only [Act.put, pu]
 refine qw_value (by rfl) (.pointer (some ⟨g4, 1, none⟩)) (exec_field 27 _ 1 rfl g4 0 rfl _ Try.underlying27 _ rfl 3 Try.sizeOf25) ?_
 simp only [Act.put, pu]
 refine qw_loadm (by rfl) 25 _ rfl _ (1) rfl r4 (natC GG) (pa_g _ _ _ _) _ Try.underlying25 rfl size_nat ?_
 simp only [Act.put, pu]
 refine qw_value (by rfl) (.bool true) (fun w' => (exec_eql_nat _ _ _ rfl GG GG rfl rfl w').trans (by rw [eqn_yes])) ?_
 simp only [Act.put, pu]
 refine qw_pick true (v := .bool true) (by rfl) rfl rfl rfl ?_
 simp only [Act.put, pu]
 refine qw_move (by rfl) rfl rfl ?_
 simp only [Act.put, pu]
 refine qw_move (by rfl) rfl rfl ?_
 simp only [Act.put, pu]
 refine qw_callK (by rfl) 21 _ _ rfl Try.func21 (by kernel_rfl) #[.pointer (some ⟨g, 0, none⟩)] rfl _ (fun w' hb => hsz w' g gr gf (hg.below hb)) ?_
 simp only [Act.put, pu]
 refine qw_loadm (by rfl) 27 _ rfl _ (0) rfl r4 (paC (some ⟨gZ, 0, none⟩) 3 3 GG) (part_all _) _ Try.underlying27 rfl size_pa ?_
 simp only [Act.put, pu]
 refine qw_callK (by rfl) 22 _ _ rfl Try.func22 (by kernel_rfl) #[.agg (paC (some ⟨gZ, 0, none⟩) 3 3 GG)] rfl _ (fun w' hb => hrs w' _ (rZ.belowAll hb)) ?_
 simp only [Act.put, pu]
 refine qw_value (by rfl) (.bool true) (exec_eql_k .i64 _ _ _ _ rfl SZ SZ rfl rfl true (decide_eq_true rfl)) ?_
 simp only [Act.put, pu]
 refine qw_pick true (v := .bool true) (by rfl) rfl rfl rfl ?_
 simp only [Act.put, pu]
 refine qw_move (by rfl) rfl rfl ?_
 simp only [Act.put, pu]
 refine qw_move (by rfl) rfl rfl ?_
 simp only [Act.put, pu]
 refine qw_callK (by rfl) 23 _ _ rfl Try.func23 (by kernel_rfl) #[.pointer (some ⟨g, 0, none⟩)] rfl _ (fun w' hb => grpRing_any _ _ _ _ _ _ w' (hg.below hb).kn) ?_
 simp only [Act.put, pu]
 refine qw_callK (by rfl) 24 _ _ rfl Try.func24 (by kernel_rfl) #[.pointer (some ⟨gr, 0, none⟩)] rfl _ (fun w' hb => ringM_any PP _ _ _ gr w' h0P hP (hg.below hb).ring) ?_
 simp only [Act.put, pu]
 refine qw_loadm (by rfl) 27 _ rfl _ (0) rfl r4 (paC (some ⟨gZ, 0, none⟩) 3 3 GG) (part_all _) _ Try.underlying27 rfl size_pa ?_
 simp only [Act.put, pu]
 refine qw_callK (by rfl) 17 _ _ rfl Try.func17 (by kernel_rfl) #[.agg (paC (some ⟨gZ, 0, none⟩) 3 3 GG)] rfl _ (fun w' hb => hrp w' _ (rZ.belowAll hb)) ?_
 simp only [Act.put, pu]
 refine qw_value (by rfl) (.bool true) (fun w' => (exec_eql_nat _ _ _ rfl PP PP rfl rfl w').trans (by rw [eqn_yes])) ?_
 simp only [Act.put, pu]
 refine qw_pick true (v := .bool true) (by rfl) rfl rfl rfl ?_
 simp only [Act.put, pu]
 refine qw_move (by rfl) rfl rfl ?_
 simp only [Act.put, pu]
 refine qw_move (by rfl) rfl rfl ?_
 simp only [Act.put, pu]
 refine qw_callK (by rfl) 25 _ _ rfl Try.func25 (by kernel_rfl) #[.pointer (some ⟨g, 0, none⟩)] rfl _ (fun w' hb => grpField_any _ _ _ _ _ _ w' (hg.below hb).kn) ?_
 simp only [Act.put, pu]
 refine qw_callK (by rfl) 24 _ _ rfl Try.func24 (by kernel_rfl) #[.pointer (some ⟨gf, 0, none⟩)] rfl _ (fun w' hb => ringM_any QQ _ _ _ gf w' h0Q hQ (hg.below hb).fld) ?_
 simp only [Act.put, pu]
 refine qw_loadm (by rfl) 27 _ rfl _ (0) rfl r4 (paC (some ⟨gZ, 0, none⟩) 3 3 GG) (part_all _) _ Try.underlying27 rfl size_pa ?_
 simp only [Act.put, pu]
 refine qw_callK (by rfl) 19 _ _ rfl Try.func19 (by kernel_rfl) #[.agg (paC (some ⟨gZ, 0, none⟩) 3 3 GG)] rfl _ (fun w' hb => hrq w' _ (rZ.belowAll hb)) ?_
 simp only [Act.put, pu]
 refine qw_value (by rfl) (.bool true) (fun w' => (exec_eql_nat _ _ _ rfl QQ QQ rfl rfl w').trans (by rw [eqn_yes])) ?_
 simp only [Act.put, pu]
 refine qw_pick true (v := .bool true) (by rfl) rfl rfl rfl ?_
 simp only [Act.put, pu]
 refine qw_move (by rfl) rfl rfl ?_
 simp only [Act.put, pu]
 refine qw_call (by rfl) 26 _ _ rfl Try.func26 (by kernel_rfl) #[] rfl _ haw ?_
 simp only [Act.put, pu]
 refine qw_pick true (v := .bool true) (by rfl) rfl rfl rfl ?_
 simp only [Act.put, pu]
 refine qw_asg (by rfl) rfl rfl ?_
 simp only [Act.put, pu]
 refine qw_nil ?_
 intro w9 hqb
 replace sb := below_on sb (Nat.le_refl _) hqb
 clear hqb
 go_wp2
 go_ret
 exact ⟨rfl, sb⟩
set_option maxRecDepth 100000 in
set_option maxHeartbeats 2000000 in
theorem core_Great (a0 X : Int) (GG PP QQ : Nat) (SZ : Int) (LK : Array Value) (G0 : Nat) (L0 : Array Value) (w : World) (hX : bits .and .i64 a0 3 = X) (h1 : X = 2) (h0P : 0 < PP) (hP : PP < 2 ^ 256) (h0Q : 0 < QQ) (hQ : QQ < 2 ^ 256)
  (hA0 : ∀ w', Calls Try.prog 7 #[] w' fun e w2 => ∃ g, e = .returned (.agg (paC (some ⟨g, 0, none⟩) 3 3 G0)) ∧ w'.heap.size ≤ g ∧ Row w2 g L0 58 ∧ Below w'.heap.size w' w2)
  (hB0 : ∀ w', Calls Try.prog 8 #[] w' fun e w2 => ∃ g, e = .returned (.agg (paC (some ⟨g, 0, none⟩) 3 3 G0)) ∧ w'.heap.size ≤ g ∧ Row w2 g L0 58 ∧ Below w'.heap.size w' w2)
  (hA : ∀ w', Calls Try.prog 11 #[] w' fun e w2 => ∃ g, e = .returned (.agg (paC (some ⟨g, 0, none⟩) 5 5 GG)) ∧ w'.heap.size ≤ g ∧ Row w2 g LK 58 ∧ Below w'.heap.size w' w2)
  (hB : ∀ w', Calls Try.prog 12 #[] w' fun e w2 => ∃ g, e = .returned (.agg (paC (some ⟨g, 0, none⟩) 5 5 GG)) ∧ w'.heap.size ≤ g ∧ Row w2 g LK 58 ∧ Below w'.heap.size w' w2)
  (hnw : ∀ w' x, Row w' x LK 58 → Calls Try.prog 13 #[.agg (paC (some ⟨x, 0, none⟩) 5 5 GG)] w' fun e w2 => ∃ g gr gf, e = .returned (.tuple #[.pointer (some ⟨g, 0, none⟩), .int .i64 0]) ∧ GrpAt w2 g gr gf PP QQ GG ∧ Below w'.heap.size w' w2)
  (hck : ∀ w' x, Row w' x LK 58 → Calls Try.prog 15 #[.agg (paC (some ⟨x, 0, none⟩) 5 5 GG)] w' fun e w2 => e = .returned (.int .i64 0) ∧ Below w'.heap.size w' w2)
  (hsm : ∀ w' x y, Row w' x LK 58 → Row w' y LK 58 → Calls Try.prog 14 #[.agg (paC (some ⟨x, 0, none⟩) 5 5 GG), .agg (paC (some ⟨y, 0, none⟩) 5 5 GG)] w' fun e w2 => e = .returned (.bool true) ∧ Below w'.heap.size w' w2)
  (hrp : ∀ w' x, Row w' x LK 58 → Calls Try.prog 17 #[.agg (paC (some ⟨x, 0, none⟩) 5 5 GG)] w' fun e w2 => e = .returned (.agg (natC PP)) ∧ Below w'.heap.size w' w2)
  (hrq : ∀ w' x, Row w' x LK 58 → Calls Try.prog 19 #[.agg (paC (some ⟨x, 0, none⟩) 5 5 GG)] w' fun e w2 => e = .returned (.agg (natC QQ)) ∧ Below w'.heap.size w' w2)
  (hrs : ∀ w' x, Row w' x LK 58 → Calls Try.prog 22 #[.agg (paC (some ⟨x, 0, none⟩) 5 5 GG)] w' fun e w2 => e = .returned (.int .i64 SZ) ∧ Below w'.heap.size w' w2)
  (hsz : ∀ w' g gr gf, GrpAt w' g gr gf PP QQ GG → Calls Try.prog 21 #[.pointer (some ⟨g, 0, none⟩)] w' fun e w2 => e = .returned (.int .i64 SZ) ∧ Below w'.heap.size w' w2) :
  Calls Try.prog 3 #[.int .i64 a0] w fun e w' => e = .returned (.bool true) ∧ Below w.heap.size w w' := by
 have haw := awake7_any
 subst h1
 go_enter Try.func3, Try.ntmps3
 have sb := Below.refl w.heap.size w
 (repeat ((fail_if_success with_reducible refine rg ?_); go_step))
 refine wp_region_pw ?_
 refine pw_value (by rfl) (.bool false) (fun _ => rfl) ?_
 simp only [Act.put, pu]
 refine pw_nil ?_
 (repeat ((fail_if_success with_reducible refine rg ?_); go_step))
 refine wp_region_pw ?_
 refine pw_callE (by rfl) 7 _ _ rfl Try.func7 (by kernel_rfl) #[] rfl (hA0 _) ?_
 rintro _ z1000 ⟨gU, rfl, nU, rU, hb⟩
 refine ⟨_, rfl, ?_⟩
 simp only [Act.put, pu]
 have bU := Nat.le_trans sb.size nU
 clear nU
 have k := Kept.ofBelow hb
 clear hb
 replace sb := sb.trans (k.below w.heap.size sb.size (by simp <;> omega))
 clear k
 refine pw_callE (by rfl) 8 _ _ rfl Try.func8 (by kernel_rfl) #[] rfl (hB0 _) ?_
 rintro _ z1001 ⟨gV, rfl, nV, rV, hb⟩
 refine ⟨_, rfl, ?_⟩
 simp only [Act.put, pu]
 have dUxV := Nat.lt_of_lt_of_le rU.lt nV
 have bV := Nat.le_trans sb.size nV
 clear nV
 have k := Kept.ofBelow hb
 clear hb
 replace rU := k.row rU (by simp <;> omega)
 replace sb := sb.trans (k.below w.heap.size sb.size (by simp <;> omega))
 clear k
 refine pw_new (by rfl) 27 rfl _ zero_pa ?_
 intro g3 z1002 n0 r3 k
 simp only [Act.put, pu]
 have dUx3 := Nat.lt_of_lt_of_le rU.lt n0
 have dVx3 := Nat.lt_of_lt_of_le rV.lt n0
 have b3 := Nat.le_trans sb.size n0
 clear n0
 replace rU := k.row rU (by simp <;> omega)
 replace rV := k.row rV (by simp <;> omega)
 replace sb := sb.trans (k.below w.heap.size sb.size (by simp <;> omega))
 clear k
 refine pw_new (by rfl) 27 rfl _ zero_pa ?_
 intro g4 z1003 n0 r4 k
 simp only [Act.put, pu]
 have dUx4 := Nat.lt_of_lt_of_le rU.lt n0
 have dVx4 := Nat.lt_of_lt_of_le rV.lt n0
 have d3x4 := Nat.lt_of_lt_of_le r3.lt n0
 have b4 := Nat.le_trans sb.size n0
 clear n0
 replace rU := k.row rU (by simp <;> omega)
 replace rV := k.row rV (by simp <;> omega)
 replace r3 := k.row r3 (by simp <;> omega)
 replace sb := sb.trans (k.below w.heap.size sb.size (by simp <;> omega))
 clear k
 refine pw_put (by rfl) 27 _ _ rfl _ rfl r3 (paC (some ⟨gU, 0, none⟩) 3 3 G0) rfl (by exact size_pa) (by rfl) (pa_one _ _ _ _) ?_
 clear r3
 intro z1004 r3 k
 simp only [Act.put]
 replace rU := k.row rU (by simp <;> omega)
 replace rV := k.row rV (by simp <;> omega)
 replace r4 := k.row r4 (by simp <;> omega)
 replace sb := sb.trans (k.below w.heap.size sb.size (by simp <;> omega))
 clear k
 refine pw_put (by rfl) 27 _ _ rfl _ rfl r4 (paC (some ⟨gV, 0, none⟩) 3 3 G0) rfl (by exact size_pa) (by rfl) (pa_one _ _ _ _) ?_
 clear r4
 intro z1005 r4 k
 simp only [Act.put]
 replace rU := k.row rU (by simp <;> omega)
 replace rV := k.row rV (by simp <;> omega)
 replace r3 := k.row r3 (by simp <;> omega)
 replace sb := sb.trans (k.below w.heap.size sb.size (by simp <;> omega))
 clear k
 refine pw_nil ?_
 clear hA0 hB0 rU rV
 (repeat ((fail_if_success with_reducible refine rg ?_); go_step))
 refine wp_region_pw ?_
 refine pw_mv (by rfl) rfl rfl ?_
 simp only [Act.put, pu]
 refine pw_value (by rfl) (.int .i64 2) (fun w' => (exec_bits_i .and _ _ _ _ (.inl rfl) rfl a0 3 rfl rfl w').trans (by rw [hX])) ?_
 simp only [Act.put, pu]
 refine pw_nil ?_
 (repeat ((fail_if_success with_reducible refine rg ?_); go_step))
 refine wp_region_pw ?_
 refine pw_value (by rfl) (.bool false) (exec_eql_k .i64 _ _ _ _ rfl 2 1 rfl rfl false rfl) ?_
 simp only [Act.put, pu]
 refine pw_as (by rfl) rfl rfl ?_
 simp only [Act.put, pu]
 refine pw_nil ?_
 (repeat ((fail_if_success with_reducible refine rg ?_); go_step))
 refine wp_region_pw ?_
 refine pw_value (by rfl) (.bool true) (exec_eql_k .i64 _ _ _ _ rfl 2 2 rfl rfl true rfl) ?_
 simp only [Act.put, pu]
 refine pw_as (by rfl) rfl rfl ?_
 simp only [Act.put, pu]
 refine pw_nil ?_
 (repeat ((fail_if_success with_reducible refine rg ?_); go_step))
 refine wp_region_pw ?_
 refine pw_callE (by rfl) 11 _ _ rfl Try.func11 (by kernel_rfl) #[] rfl (hA _) ?_
 rintro _ z7000 ⟨gY, rfl, nY, rY, hb⟩
 refine ⟨_, rfl, ?_⟩
 simp only [Act.put, pu]
 have d3xY := Nat.lt_of_lt_of_le r3.lt nY
 have d4xY := Nat.lt_of_lt_of_le r4.lt nY
 have bY := Nat.le_trans sb.size nY
 clear nY
 have k := Kept.ofBelow hb
 clear hb
 replace r3 := k.row r3 (by simp <;> omega)
 replace r4 := k.row r4 (by simp <;> omega)
 replace sb := sb.trans (k.below w.heap.size sb.size (by simp <;> omega))
 clear k
 refine pw_put (by rfl) 27 _ _ rfl _ rfl r3 (paC (some ⟨gY, 0, none⟩) 5 5 GG) rfl (by exact size_pa) (by rfl) (pa_one _ _ _ _) ?_
 clear r3
 intro z7001 r3 k
 simp only [Act.put]
 replace r4 := k.row r4 (by simp <;> omega)
 replace rY := k.row rY (by simp <;> omega)
 replace sb := sb.trans (k.below w.heap.size sb.size (by simp <;> omega))
 clear k
 refine pw_nil ?_
 (repeat ((fail_if_success with_reducible refine rg ?_); go_step))
 refine wp_region_pw ?_
 refine pw_callE (by rfl) 12 _ _ rfl Try.func12 (by kernel_rfl) #[] rfl (hB _) ?_
 rintro _ z8000 ⟨gZ, rfl, nZ, rZ, hb⟩
 refine ⟨_, rfl, ?_⟩
 simp only [Act.put, pu]
 have d3xZ := Nat.lt_of_lt_of_le r3.lt nZ
 have d4xZ := Nat.lt_of_lt_of_le r4.lt nZ
 have dYxZ := Nat.lt_of_lt_of_le rY.lt nZ
 have bZ := Nat.le_trans sb.size nZ
 clear nZ
 have k := Kept.ofBelow hb
 clear hb
 replace r3 := k.row r3 (by simp <;> omega)
 replace r4 := k.row r4 (by simp <;> omega)
 replace rY := k.row rY (by simp <;> omega)
 replace sb := sb.trans (k.below w.heap.size sb.size (by simp <;> omega))
 clear k
 refine pw_put (by rfl) 27 _ _ rfl _ rfl r4 (paC (some ⟨gZ, 0, none⟩) 5 5 GG) rfl (by exact size_pa) (by rfl) (pa_one _ _ _ _) ?_
 clear r4
 intro z8001 r4 k
 simp only [Act.put]
 replace r3 := k.row r3 (by simp <;> omega)
 replace rY := k.row rY (by simp <;> omega)
 replace rZ := k.row rZ (by simp <;> omega)
 replace sb := sb.trans (k.below w.heap.size sb.size (by simp <;> omega))
 clear k
 refine pw_nil ?_
 clear hA hB
 (repeat ((fail_if_success with_reducible refine rg ?_); go_step))
 refine wp_region_pw ?_
 refine pw_loadm (by rfl) 27 _ rfl _ 0 rfl r3.r _ (part_all _) _ Try.underlying27 rfl size_pa ?_
 simp only [Act.put, pu]
 refine pw_callE (by rfl) 13 _ _ rfl Try.func13 (by kernel_rfl) #[.agg (paC (some ⟨gY, 0, none⟩) 5 5 GG)] rfl (hnw _ gY rY) ?_
 rintro _ z9001 ⟨g, gr, gf, rfl, hg, hb⟩
 refine ⟨_, rfl, ?_⟩
 simp only [Act.put, pu]
 have k := Kept.ofBelow hb
 clear hb
 replace r3 := k.row r3 (by simp <;> omega)
 replace r4 := k.row r4 (by simp <;> omega)
 replace rY := k.row rY (by simp <;> omega)
 replace rZ := k.row rZ (by simp <;> omega)
 replace sb := sb.trans (k.below w.heap.size sb.size (by simp <;> omega))
 clear k
 refine pw_mv (by rfl) rfl rfl ?_
 simp only [Act.put, pu]
 refine pw_ext (by rfl) rfl rfl rfl ?_
 simp only [Act.put, pu]
 refine pw_ext (by rfl) rfl rfl rfl ?_
 simp only [Act.put, pu]
 refine pw_as (by rfl) rfl rfl ?_
 simp only [Act.put, pu]
 refine pw_as (by rfl) rfl rfl ?_
 simp only [Act.put, pu]
 refine pw_nil ?_
 clear hnw
 (repeat ((fail_if_success with_reducible refine rg ?_); go_step))
 refine wp_region_pw ?_
 refine pw_loadm (by rfl) 27 _ rfl _ 0 rfl r3.r _ (part_all _) _ Try.underlying27 rfl size_pa ?_
 simp only [Act.put, pu]
 refine pw_loadm (by rfl) 27 _ rfl _ 0 rfl r4.r _ (part_all _) _ Try.underlying27 rfl size_pa ?_
 simp only [Act.put, pu]
 refine pw_callB (by rfl) 14 _ _ rfl Try.func14 (by kernel_rfl) #[.agg (paC (some ⟨gY, 0, none⟩) 5 5 GG), .agg (paC (some ⟨gZ, 0, none⟩) 5 5 GG)] rfl _ (hsm _ gY gZ rY rZ) ?_
 intro z10002 k
 simp only [Act.put, pu]
 replace r3 := k.row r3 (by simp <;> omega)
 replace r4 := k.row r4 (by simp <;> omega)
 replace rY := k.row rY (by simp <;> omega)
 replace rZ := k.row rZ (by simp <;> omega)
 replace hg := hg.below k.nil
 replace sb := sb.trans (k.below w.heap.size sb.size (by simp <;> omega))
 clear k
 refine pw_value (by rfl) (.bool false) (exec_not _ _ rfl true rfl) ?_
 simp only [Act.put, pu]
 refine pw_mv (by rfl) rfl rfl ?_
 simp only [Act.put, pu]
 refine pw_loadm (by rfl) 27 _ rfl _ 0 rfl r3.r _ (part_all _) _ Try.underlying27 rfl size_pa ?_
 simp only [Act.put, pu]
 refine pw_callB (by rfl) 15 _ _ rfl Try.func15 (by kernel_rfl) #[.agg (paC (some ⟨gY, 0, none⟩) 5 5 GG)] rfl _ (hck _ gY rY) ?_
 intro z10006 k
 simp only [Act.put, pu]
 replace r3 := k.row r3 (by simp <;> omega)
 replace r4 := k.row r4 (by simp <;> omega)
 replace rY := k.row rY (by simp <;> omega)
 replace rZ := k.row rZ (by simp <;> omega)
 replace hg := hg.below k.nil
 replace sb := sb.trans (k.below w.heap.size sb.size (by simp <;> omega))
 clear k
 refine pw_value (by rfl) (.bool false) (exec_neq_k .i64 _ _ _ _ rfl 0 0 rfl rfl false rfl) ?_
 simp only [Act.put, pu]
 refine pw_pick (by rfl) false (v := .bool false) rfl rfl rfl ?_
 simp only [Act.put, pu]
 refine pw_mv (by rfl) rfl rfl ?_
 simp only [Act.put, pu]
 refine pw_mv (by rfl) rfl rfl ?_
 simp only [Act.put, pu]
 refine pw_value (by rfl) (.bool false) (exec_neq_k .i64 _ _ _ _ rfl 0 0 rfl rfl false rfl) ?_
 simp only [Act.put, pu]
 refine pw_pick (by rfl) false (v := .bool false) rfl rfl rfl ?_
 simp only [Act.put, pu]
 refine pw_mv (by rfl) rfl rfl ?_
 simp only [Act.put, pu]
 refine pw_mv (by rfl) rfl rfl ?_
 simp only [Act.put, pu]
 refine pw_value (by rfl) (.bool false) (exec_eql_nilp _ _ _ _ rfl (some ⟨g, 0, none⟩) rfl rfl ptr_grp) ?_
 simp only [Act.put, pu]
 refine pw_pick (by rfl) false (v := .bool false) rfl rfl rfl ?_
 simp only [Act.put, pu]
 refine pw_nil ?_
 clear hsm hck
 (repeat ((fail_if_success with_reducible refine rg ?_); go_step))
 refine wp_region_qw (by kernel_rfl) (by kernel_rfl) ?_
 refine qw_move (by rfl) rfl rfl ?_
 simp only [Act.put, pu]
 refine qw_callK (by rfl) 16 _ _ rfl Try.func16 (by kernel_rfl) #[.pointer (some ⟨g, 0, none⟩)] rfl _ (fun w' hb => grpP_any _ _ _ _ _ _ w' (hg.below hb).kn) ?_
 simp only [Act.put, pu]
 refine qw_loadm (by rfl) 27 _ rfl _ (0) rfl r4 (paC (some ⟨gZ, 0, none⟩) 5 5 GG) (part_all _) _ Try.underlying27 rfl size_pa ?_
 simp only [Act.put, pu]
 refine qw_callK (by rfl) 17 _ _ rfl Try.func17 (by kernel_rfl) #[.agg (paC (some ⟨gZ, 0, none⟩) 5 5 GG)] rfl _ (fun w' hb => hrp w' _ (rZ.belowAll hb)) ?_
 simp only [Act.put, pu]
 refine qw_value (by rfl) (.bool true) (fun w' => (exec_eql_nat _ _ _ rfl PP PP rfl rfl w').trans (by rw [eqn_yes])) ?_
 simp only [Act.put, pu]
 refine qw_move (by rfl) rfl rfl ?_
 simp only [Act.put, pu]
 refine qw_move (by rfl) rfl rfl ?_
 simp only [Act.put, pu]
 refine qw_callK (by rfl) 18 _ _ rfl Try.func18 (by kernel_rfl) #[.pointer (some ⟨g, 0, none⟩)] rfl _ (fun w' hb => grpQ_any _ _ _ _ _ _ w' (hg.below hb).kn) ?_
 simp only [Act.put, pu]
 refine qw_loadm (by rfl) 27 _ rfl _ (0) rfl r4 (paC (some ⟨gZ, 0, none⟩) 5 5 GG) (part_all _) _ Try.underlying27 rfl size_pa ?_
 simp only [Act.put, pu]
 refine qw_callK (by rfl) 19 _ _ rfl Try.func19 (by kernel_rfl) #[.agg (paC (some ⟨gZ, 0, none⟩) 5 5 GG)] rfl _ (fun w' hb => hrq w' _ (rZ.belowAll hb)) ?_
 simp only [Act.put, pu]
 refine qw_value (by rfl) (.bool true) (fun w' => (exec_eql_nat _ _ _ rfl QQ QQ rfl rfl w').trans (by rw [eqn_yes])) ?_
 simp only [Act.put, pu]
 refine qw_pick true (v := .bool true) (by rfl) rfl rfl rfl ?_
 simp only [Act.put, pu]
 refine qw_move (by rfl) rfl rfl ?_
 simp only [Act.put, pu]
 refine qw_move (by rfl) rfl rfl ?_
 simp only [Act.put, pu]
 refine qw_callK (by rfl) 20 _ _ rfl Try.func20 (by kernel_rfl) #[.pointer (some ⟨g, 0, none⟩)] rfl _ (fun w' hb => grpG_any _ _ _ _ _ _ w' (hg.below hb).kn) ?_
 simp only [Act.put, pu]
 refine qw_value (by rfl) (.pointer (some ⟨g4, 1, none⟩)) (exec_field 27 _ 1 rfl g4 0 rfl _ Try.underlying27 _ rfl 3 Try.sizeOf25) ?_
 simp only [Act.put, pu]
 refine qw_loadm (by rfl) 25 _ rfl _ (1) rfl r4 (natC GG) (pa_g _ _ _ _) _ Try.underlying25 rfl size_nat ?_
 simp only [Act.put, pu]
 refine qw_value (by rfl) (.bool true) (fun w' => (exec_eql_nat _ _ _ rfl GG GG rfl rfl w').trans (by rw [eqn_yes])) ?_
 simp only [Act.put, pu]
 refine qw_pick true (v := .bool true) (by rfl) rfl rfl rfl ?_
 simp only [Act.put, pu]
 refine qw_move (by rfl) rfl rfl ?_
 simp only [Act.put, pu]
 refine qw_move (by rfl) rfl rfl ?_
 simp only [Act.put, pu]
 refine qw_callK (by rfl) 21 _ _ rfl Try.func21 (by kernel_rfl) #[.pointer (some ⟨g, 0, none⟩)] rfl _ (fun w' hb => hsz w' g gr gf (hg.below hb)) ?_
 simp only [Act.put, pu]
 refine qw_loadm (by rfl) 27 _ rfl _ (0) rfl r4 (paC (some ⟨gZ, 0, none⟩) 5 5 GG) (part_all _) _ Try.underlying27 rfl size_pa ?_
 simp only [Act.put, pu]
 refine qw_callK (by rfl) 22 _ _ rfl Try.func22 (by kernel_rfl) #[.agg (paC (some ⟨gZ, 0, none⟩) 5 5 GG)] rfl _ (fun w' hb => hrs w' _ (rZ.belowAll hb)) ?_
 simp only [Act.put, pu]
 refine qw_value (by rfl) (.bool true) (exec_eql_k .i64 _ _ _ _ rfl SZ SZ rfl rfl true (decide_eq_true rfl)) ?_
 simp only [Act.put, pu]
 refine qw_pick true (v := .bool true) (by rfl) rfl rfl rfl ?_
 simp only [Act.put, pu]
 refine qw_move (by rfl) rfl rfl ?_
 simp only [Act.put, pu]
 refine qw_move (by rfl) rfl rfl ?_
 simp only [Act.put, pu]
 refine qw_callK (by rfl) 23 _ _ rfl Try.func23 (by kernel_rfl) #[.pointer (some ⟨g, 0, none⟩)] rfl _ (fun w' hb => grpRing_any _ _ _ _ _ _ w' (hg.below hb).kn) ?_
 simp only [Act.put, pu]
 refine qw_callK (by rfl) 24 _ _ rfl Try.func24 (by kernel_rfl) #[.pointer (some ⟨gr, 0, none⟩)] rfl _ (fun w' hb => ringM_any PP _ _ _ gr w' h0P hP (hg.below hb).ring) ?_
 simp only [Act.put, pu]
 refine qw_loadm (by rfl) 27 _ rfl _ (0) rfl r4 (paC (some ⟨gZ, 0, none⟩) 5 5 GG) (part_all _) _ Try.underlying27 rfl size_pa ?_
 simp only [Act.put, pu]
 refine qw_callK (by rfl) 17 _ _ rfl Try.func17 (by kernel_rfl) #[.agg (paC (some ⟨gZ, 0, none⟩) 5 5 GG)] rfl _ (fun w' hb => hrp w' _ (rZ.belowAll hb)) ?_
 simp only [Act.put, pu]
 refine qw_value (by rfl) (.bool true) (fun w' => (exec_eql_nat _ _ _ rfl PP PP rfl rfl w').trans (by rw [eqn_yes])) ?_
 simp only [Act.put, pu]
 refine qw_pick true (v := .bool true) (by rfl) rfl rfl rfl ?_
 simp only [Act.put, pu]
 refine qw_move (by rfl) rfl rfl ?_
 simp only [Act.put, pu]
 refine qw_move (by rfl) rfl rfl ?_
 simp only [Act.put, pu]
 refine qw_callK (by rfl) 25 _ _ rfl Try.func25 (by kernel_rfl) #[.pointer (some ⟨g, 0, none⟩)] rfl _ (fun w' hb => grpField_any _ _ _ _ _ _ w' (hg.below hb).kn) ?_
 simp only [Act.put, pu]
 refine qw_callK (by rfl) 24 _ _ rfl Try.func24 (by kernel_rfl) #[.pointer (some ⟨gf, 0, none⟩)] rfl _ (fun w' hb => ringM_any QQ _ _ _ gf w' h0Q hQ (hg.below hb).fld) ?_
 simp only [Act.put, pu]
 refine qw_loadm (by rfl) 27 _ rfl _ (0) rfl r4 (paC (some ⟨gZ, 0, none⟩) 5 5 GG) (part_all _) _ Try.underlying27 rfl size_pa ?_
 simp only [Act.put, pu]
 refine qw_callK (by rfl) 19 _ _ rfl Try.func19 (by kernel_rfl) #[.agg (paC (some ⟨gZ, 0, none⟩) 5 5 GG)] rfl _ (fun w' hb => hrq w' _ (rZ.belowAll hb)) ?_
 simp only [Act.put, pu]
 refine qw_value (by rfl) (.bool true) (fun w' => (exec_eql_nat _ _ _ rfl QQ QQ rfl rfl w').trans (by rw [eqn_yes])) ?_
 simp only [Act.put, pu]
 refine qw_pick true (v := .bool true) (by rfl) rfl rfl rfl ?_
 simp only [Act.put, pu]
 refine qw_move (by rfl) rfl rfl ?_
 simp only [Act.put, pu]
 refine qw_call (by rfl) 26 _ _ rfl Try.func26 (by kernel_rfl) #[] rfl _ haw ?_
 simp only [Act.put, pu]
 refine qw_pick true (v := .bool true) (by rfl) rfl rfl rfl ?_
 simp only [Act.put, pu]
 refine qw_asg (by rfl) rfl rfl ?_
 simp only [Act.put, pu]
 refine qw_nil ?_
 intro w9 hqb
 replace sb := below_on sb (Nat.le_refl _) hqb
 clear hqb
 go_wp2
 go_ret
 exact ⟨rfl, sb⟩
set_option maxRecDepth 100000 in
set_option maxHeartbeats 2000000 in
theorem walk (a : Int) (w : World) (_ : -9223372036854775808 ≤ a ∧ a ≤ 9223372036854775807) :
  Calls Try.prog 3 #[.int .i64 a] w fun e w' => e = .returned (.bool true) ∧ Below w.heap.size w w' := by
 by_cases h1 : bits .and .i64 a 3 = 1
 ·exact core_Other a _ otG (lN otL (3 - 1)) (lN otL (3 - 2)) _ _ leG _ w rfl h1 (by decide) (by decide) (by decide) (by decide) gleast_any rleast_any gother_any rother_any
   (fun w' x r => gnew_yes 3 3 (some ⟨x, 0, none⟩) otG _ _ x 0 _ _ w' (by decide) (by decide) (lks_links r ot_lt) other_is)
   (fun w' x r => gcheck_yes 3 3 (some ⟨x, 0, none⟩) otG _ _ x 0 _ _ w' (by decide) (by decide) (lks_links r ot_lt) other_is)
   (fun w' x y r r' => gsame_yes 3 otG _ _ x y w' (by decide) r r')
   (fun w' x r => rP_any 3 3 (some ⟨x, 0, none⟩) otG _ _ x 0 _ _ w' (by decide) (by decide) (lks_links r ot_lt))
   (fun w' x r => rQ_any 3 3 (some ⟨x, 0, none⟩) otG _ _ x 0 _ _ w' (by decide) (by decide) (lks_links r ot_lt))
   (fun w' x r => rSize_any 3 3 (some ⟨x, 0, none⟩) otG _ _ x 0 _ _ w' (by decide) (by decide) (lks_links r ot_lt))
   (fun w' g gr gf h => grpSize_any _ _ _ _ _ _ w' (by decide) h.kn)
 by_cases h2 : bits .and .i64 a 3 = 2
 ·exact core_Great a _ grG (lN grL (5 - 1)) (lN grL (5 - 2)) _ _ leG _ w rfl h2 (by decide) (by decide) (by decide) (by decide) gleast_any rleast_any ggreat_any rgreat_any
   (fun w' x r => gnew_yes 5 5 (some ⟨x, 0, none⟩) grG _ _ x 0 _ _ w' (by decide) (by decide) (lks_links r gr_lt) great_is)
   (fun w' x r => gcheck_yes 5 5 (some ⟨x, 0, none⟩) grG _ _ x 0 _ _ w' (by decide) (by decide) (lks_links r gr_lt) great_is)
   (fun w' x y r r' => gsame_yes 5 grG _ _ x y w' (by decide) r r')
   (fun w' x r => rP_any 5 5 (some ⟨x, 0, none⟩) grG _ _ x 0 _ _ w' (by decide) (by decide) (lks_links r gr_lt))
   (fun w' x r => rQ_any 5 5 (some ⟨x, 0, none⟩) grG _ _ x 0 _ _ w' (by decide) (by decide) (lks_links r gr_lt))
   (fun w' x r => rSize_any 5 5 (some ⟨x, 0, none⟩) grG _ _ x 0 _ _ w' (by decide) (by decide) (lks_links r gr_lt))
   (fun w' g gr gf h => grpSize_any _ _ _ _ _ _ w' (by decide) h.kn)
 ·exact core_Least a _ leG (lN leL (3 - 1)) (lN leL (3 - 2)) _ _ w rfl h1 h2 (by decide) (by decide) (by decide) (by decide) gleast_any rleast_any
   (fun w' x r => gnew_yes 3 3 (some ⟨x, 0, none⟩) leG _ _ x 0 _ _ w' (by decide) (by decide) (lks_links r le_lt) least_is)
   (fun w' x r => gcheck_yes 3 3 (some ⟨x, 0, none⟩) leG _ _ x 0 _ _ w' (by decide) (by decide) (lks_links r le_lt) least_is)
   (fun w' x y r r' => gsame_yes 3 leG _ _ x y w' (by decide) r r')
   (fun w' x r => rP_any 3 3 (some ⟨x, 0, none⟩) leG _ _ x 0 _ _ w' (by decide) (by decide) (lks_links r le_lt))
   (fun w' x r => rQ_any 3 3 (some ⟨x, 0, none⟩) leG _ _ x 0 _ _ w' (by decide) (by decide) (lks_links r le_lt))
   (fun w' x r => rSize_any 3 3 (some ⟨x, 0, none⟩) leG _ _ x 0 _ _ w' (by decide) (by decide) (lks_links r le_lt))
   (fun w' g gr gf h => grpSize_any _ _ _ _ _ _ w' (by decide) h.kn)
set_option maxRecDepth 100000 in
theorem lifted (os : Os) (started : os.Started) (H : Type) (enc : TypeId × Value → H) :
  ReturnsInHanded {} Try.checked os 3 .any (Rows.groupGivenSpec.pre6 enc Try.prog Try.f3 Rows.groupGivenRow.domain false) (Rows.groupGivenSpec.post enc Try.prog Try.f3 false true false false) := by
 refine returnsInHanded_of_change (C := Try.checked) own started (by kernel_rfl) Try.func3
  (ChangeSpec.witness6 (enc := enc) (C := Try.checked) false ⟨#[], #[.int .i64 0], []⟩ 8 (by kernel_rfl) (by kernel_rfl) (by kernel_rfl) (by kernel_rfl)) ?_
 intro W base args ds gs before hval0 hW hcnd _
 have hval : ∀ (j : Nat) t v, Try.f3.params[j]? = some t → args[j]? = some v → Value.okWide Try.prog W .any base t v := hval0
 have hW' := hW
 obtain ⟨p, q, hA0, hV, rfl, hfz, hnd⟩ := hW
 have hA : DataW.TrodAll enc Try.prog W 0 (fun _ => true) true Try.f3.params.toList args.toList ds p := hA0
 rw [Try.params3] at hA hval
 obtain ⟨v0, vs0, d0, ds0, p0, q0, hargs, rfl, rfl, h0, r0⟩ := trodAll_cons hA
 obtain ⟨rfl, rfl, rfl⟩ := trodAll_nil r0
 obtain rfl : args = #[v0] := by cases args; simp_all
 obtain ⟨rfl, rfl⟩ := trodVars_none hV
 have k0 := h0
 have lt0 := lt_of_trod h0
 obtain ⟨a0, rfl, rfl, rfl, w0⟩ := open_int Try.underlying3 (hval 0 3 v0 rfl rfl) h0
 clear hA0 hval0
 refine (walk a0 W (bounds_i64 w0)).mono fun e W' ⟨he, bel⟩ => ?_
 subst he
 exact ⟨_, rfl, _, _, _, [], _, [], hW', trodAll_mk1 (shut_bool Try.underlying4 _), (trodAll_cons_mk (Below.trod laidOut (by kernel_rfl) (of_decide_eq_true (by kernel_rfl)) k0 bel lt0) trodAll_mk0), rfl, bel.frame _, fun h => by cases h⟩
theorem over : Rows.groupGivenRow.holds Try.pinned (OpenSpec.ofChange Rows.groupGivenSpec) :=
 OpenClaim.holds_of_wide 3 Try.f3 rfl rfl rfl rfl rfl rfl rfl ⟨rfl, rfl, rfl, rfl, rfl⟩ rfl rfl rfl rfl rfl (by kernel_rfl) Try.func3 (by kernel_rfl)
  (of_decide_eq_true (by kernel_rfl)) (by unfold Func.isWrapper; first | (rw [if_pos (by decide +kernel)]; kernel_rfl) | (rw [if_neg (by decide +kernel)]; exact ⟨rfl, rfl⟩))
  (fun os started H enc _ => lifted os started H enc)
end groupGivenP
/-- for every number: the three groups that are given are groups, as the document has them; no condition. -/
theorem groupGiven_holds : Rows.GroupGivenSaid := groupGivenP.over
end Go.Proofs.Ytbmkebdfaokmhaa
