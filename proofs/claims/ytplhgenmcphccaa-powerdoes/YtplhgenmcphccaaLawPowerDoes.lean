/- PowerDoes: for every number and every two naturals: products, powers, powers of G and inverses by a small group's P are the document's, and whether a natural is a member; no condition. -/
import Derived.Test.YtplhgenmcphccaaQAwake
import Derived.Test.YtplhgenmcphccaaGU
namespace Go.Proofs.Ytplhgenmcphccaa
open Go.ChangeShapes Go.WideShapes Go.ChangeAt Go.RowKit
namespace powerDoesP
theorem pow_in (A B P : Nat) : (A % P) ^ B % P = A ^ B % P := (Nat.pow_mod A B P).symm
set_option maxRecDepth 100000 in
set_option maxHeartbeats 2000000 in
theorem core (a0 : Int) (A B X Y S1 S2 S3 S4 LL GG PP QQ : Nat) (z : Int) (BB : Bool) (LK : Array Value) (w : World)
  (hpk : ∀ w', Calls Try.prog 7 #[.int .i64 a0] w' fun e w2 => ∃ g, e = .returned (.agg (paC (some ⟨g, 0, none⟩) 3 3 GG)) ∧ w'.heap.size ≤ g ∧ Row w2 g LK 74 ∧ Below w'.heap.size w' w2)
  (hnw : ∀ w' x, Row w' x LK 74 → Calls Try.prog 8 #[.agg (paC (some ⟨x, 0, none⟩) 3 3 GG)] w' fun e w2 => ∃ g gr gf, e = .returned (.tuple #[.pointer (some ⟨g, 0, none⟩), .int .i64 0]) ∧ GrpAt w2 g gr gf PP QQ GG ∧ Below w'.heap.size w' w2)
  (hrq : ∀ w' x, Row w' x LK 74 → Calls Try.prog 12 #[.agg (paC (some ⟨x, 0, none⟩) 3 3 GG)] w' fun e w2 => e = .returned (.agg (natC QQ)) ∧ Below w'.heap.size w' w2)
  (hsm : ∀ w' x, Row w' x LK 74 → Calls Try.prog 9 #[.agg (paC (some ⟨x, 0, none⟩) 3 3 GG)] w' fun e w2 => e = .returned (.agg (smC (PP : Nat) (QQ : Nat) (GG : Nat))) ∧ Below w'.heap.size w' w2)
  (hbx : ∀ w', Calls Try.prog 10 #[.agg (natC A), .int .i64 (PP : Nat)] w' fun e w2 => e = .returned (.int .i64 (X : Nat)) ∧ Below w'.heap.size w' w2)
  (hby : ∀ w', Calls Try.prog 10 #[.agg (natC B), .int .i64 (PP : Nat)] w' fun e w2 => e = .returned (.int .i64 (Y : Nat)) ∧ Below w'.heap.size w' w2)
  (hsu : ∀ w', Calls Try.prog 11 #[.agg (natC QQ), .agg (natC 1)] w' fun e w2 => e = .returned (.tuple #[.agg (natC LL), .int .i64 z]) ∧ Below w'.heap.size w' w2)
  (hin : ∀ w' g gr gf, GrpAt w' g gr gf PP QQ GG → Calls Try.prog 14 #[.pointer (some ⟨g, 0, none⟩), .agg (natC A)] w' fun e w2 => e = .returned (.bool BB) ∧ Below w'.heap.size w' w2)
  (hinR : ∀ w', Calls Try.prog 15 #[.agg (smC (PP : Nat) (QQ : Nat) (GG : Nat)), .agg (natC A)] w' fun e w2 => e = .returned (.bool BB) ∧ Below w'.heap.size w' w2)
  (hmu : ∀ w' g gr gf, GrpAt w' g gr gf PP QQ GG → Calls Try.prog 16 #[.pointer (some ⟨g, 0, none⟩), .agg (natC A), .agg (natC B)] w' fun e w2 => e = .returned (.agg (natC S1)) ∧ Below w'.heap.size w' w2)
  (hmuR : ∀ w', Calls Try.prog 17 #[.agg (smC (PP : Nat) (QQ : Nat) (GG : Nat)), .int .i64 (X : Nat), .int .i64 (Y : Nat)] w' fun e w2 => e = .returned (.int .i64 (S1 : Nat)) ∧ Below w'.heap.size w' w2)
  (hex : ∀ w' g gr gf, GrpAt w' g gr gf PP QQ GG → Calls Try.prog 18 #[.pointer (some ⟨g, 0, none⟩), .agg (natC A), .agg (natC B)] w' fun e w2 => e = .returned (.agg (natC S2)) ∧ Below w'.heap.size w' w2)
  (hexR : ∀ w', Calls Try.prog 19 #[.agg (smC (PP : Nat) (QQ : Nat) (GG : Nat)), .int .i64 (X : Nat), .agg (natC B)] w' fun e w2 => e = .returned (.int .i64 (S2 : Nat)) ∧ Below w'.heap.size w' w2)
  (hof : ∀ w' g gr gf, GrpAt w' g gr gf PP QQ GG → Calls Try.prog 20 #[.pointer (some ⟨g, 0, none⟩), .agg (natC B)] w' fun e w2 => e = .returned (.agg (natC S3)) ∧ Below w'.heap.size w' w2)
  (hofR : ∀ w', Calls Try.prog 19 #[.agg (smC (PP : Nat) (QQ : Nat) (GG : Nat)), .int .i64 (GG : Nat), .agg (natC B)] w' fun e w2 => e = .returned (.int .i64 (S3 : Nat)) ∧ Below w'.heap.size w' w2)
  (hiv : ∀ w' g gr gf, GrpAt w' g gr gf PP QQ GG → Calls Try.prog 21 #[.pointer (some ⟨g, 0, none⟩), .agg (natC A)] w' fun e w2 => e = .returned (.agg (natC S4)) ∧ Below w'.heap.size w' w2)
  (hivR : ∀ w', Calls Try.prog 19 #[.agg (smC (PP : Nat) (QQ : Nat) (GG : Nat)), .int .i64 (X : Nat), .agg (natC LL)] w' fun e w2 => e = .returned (.int .i64 (S4 : Nat)) ∧ Below w'.heap.size w' w2)
  (hoS1 : ∀ w', Calls Try.prog 13 #[.int .i64 (S1 : Nat)] w' fun e w2 => e = .returned (.agg (natC S1)) ∧ Below w'.heap.size w' w2)
  (hoS2 : ∀ w', Calls Try.prog 13 #[.int .i64 (S2 : Nat)] w' fun e w2 => e = .returned (.agg (natC S2)) ∧ Below w'.heap.size w' w2)
  (hoS3 : ∀ w', Calls Try.prog 13 #[.int .i64 (S3 : Nat)] w' fun e w2 => e = .returned (.agg (natC S3)) ∧ Below w'.heap.size w' w2)
  (hoS4 : ∀ w', Calls Try.prog 13 #[.int .i64 (S4 : Nat)] w' fun e w2 => e = .returned (.agg (natC S4)) ∧ Below w'.heap.size w' w2) :
  Calls Try.prog 3 #[.int .i64 a0, .agg (natC A), .agg (natC B)] w fun e w' => e = .returned (.bool true) ∧ Below w.heap.size w w' := by
 have haw := awake9_any
 have o1 := fun w' => of9_any 1 w' (by decide)
 go_enter Try.func3, Try.ntmps3
 (repeat ((fail_if_success with_reducible refine rg ?_); go_step))
 refine wp_region_pw ?_
 refine pw_boxr (by rfl) 24 _ rfl (_) rfl ?_
 intro g4 z0 n0 r4 k
 simp only [Act.put, pu]
 have b4 : w.heap.size ≤ g4 := n0
 clear n0
 have sb := k.below w.heap.size (Nat.le_refl _) (by simp)
 clear k
 refine pw_boxr (by rfl) 24 _ rfl (_) rfl ?_
 intro g5 z1 n0 r5 k
 simp only [Act.put, pu]
 have d4x5 := Nat.lt_of_lt_of_le r4.lt n0
 have b5 := Nat.le_trans sb.size n0
 clear n0
 replace r4 := k.row r4 (by simp <;> omega)
 replace sb := sb.trans (k.below w.heap.size sb.size (by simp <;> omega))
 clear k
 refine pw_value (by rfl) (.bool false) (fun _ => rfl) ?_
 simp only [Act.put, pu]
 refine pw_nil ?_
 (repeat ((fail_if_success with_reducible refine rg ?_); go_step))
 refine wp_region_pw ?_
 refine pw_mv (by rfl) rfl rfl ?_
 simp only [Act.put, pu]
 refine pw_callE (by rfl) 7 _ _ rfl Try.func7 (by kernel_rfl) #[.int .i64 a0] rfl (hpk _) ?_
 rintro _ z1001 ⟨gL, rfl, nL, rL, hb⟩
 refine ⟨_, rfl, ?_⟩
 simp only [Act.put, pu]
 have d4xL := Nat.lt_of_lt_of_le r4.lt nL
 have d5xL := Nat.lt_of_lt_of_le r5.lt nL
 have bL := Nat.le_trans sb.size nL
 clear nL
 have k := Kept.ofBelow hb
 clear hb
 replace r4 := k.row r4 (by simp <;> omega)
 replace r5 := k.row r5 (by simp <;> omega)
 replace sb := sb.trans (k.below w.heap.size sb.size (by simp <;> omega))
 clear k
 refine pw_new (by rfl) 27 rfl _ zero_pa ?_
 intro g7 z1002 n0 r7 k
 simp only [Act.put, pu]
 have d4x7 := Nat.lt_of_lt_of_le r4.lt n0
 have d5x7 := Nat.lt_of_lt_of_le r5.lt n0
 have dLx7 := Nat.lt_of_lt_of_le rL.lt n0
 have b7 := Nat.le_trans sb.size n0
 clear n0
 replace r4 := k.row r4 (by simp <;> omega)
 replace r5 := k.row r5 (by simp <;> omega)
 replace rL := k.row rL (by simp <;> omega)
 replace sb := sb.trans (k.below w.heap.size sb.size (by simp <;> omega))
 clear k
 refine pw_put (by rfl) 27 _ _ rfl _ rfl r7 (paC (some ⟨gL, 0, none⟩) 3 3 GG) rfl (by exact size_pa) (by rfl) (pa_one _ _ _ _) ?_
 clear r7
 intro z1003 r7 k
 simp only [Act.put]
 replace r4 := k.row r4 (by simp <;> omega)
 replace r5 := k.row r5 (by simp <;> omega)
 replace rL := k.row rL (by simp <;> omega)
 replace sb := sb.trans (k.below w.heap.size sb.size (by simp <;> omega))
 clear k
 refine pw_nil ?_
 clear hpk
 (repeat ((fail_if_success with_reducible refine rg ?_); go_step))
 refine wp_region_pw ?_
 refine pw_loadm (by rfl) 27 _ rfl _ 0 rfl r7.r _ (part_all _) _ Try.underlying27 rfl size_pa ?_
 simp only [Act.put, pu]
 refine pw_callE (by rfl) 8 _ _ rfl Try.func8 (by kernel_rfl) #[.agg (paC (some ⟨gL, 0, none⟩) 3 3 GG)] rfl (hnw _ gL rL) ?_
 rintro _ z2001 ⟨g, gr, gf, rfl, ⟨rG, rR, rF⟩, hb⟩
 refine ⟨_, rfl, ?_⟩
 simp only [Act.put, pu]
 have k := Kept.ofBelow hb
 clear hb
 replace r4 := k.row r4 (by simp <;> omega)
 replace r5 := k.row r5 (by simp <;> omega)
 replace r7 := k.row r7 (by simp <;> omega)
 replace rL := k.row rL (by simp <;> omega)
 replace sb := sb.trans (k.below w.heap.size sb.size (by simp <;> omega))
 clear k
 refine pw_mv (by rfl) rfl rfl ?_
 simp only [Act.put, pu]
 refine pw_ext (by rfl) rfl rfl rfl ?_
 simp only [Act.put, pu]
 refine pw_ext (by rfl) rfl rfl rfl ?_
 simp only [Act.put, pu]
 refine pw_as (by rfl) rfl rfl ?_
 simp only [Act.put, pu]
 refine pw_as (by rfl) rfl rfl ?_
 simp only [Act.put, pu]
 refine pw_nil ?_
 clear hnw
 (repeat ((fail_if_success with_reducible refine rg ?_); go_step))
 refine wp_region_pw ?_
 refine pw_loadm (by rfl) 27 _ rfl _ 0 rfl r7.r _ (part_all _) _ Try.underlying27 rfl size_pa ?_
 simp only [Act.put, pu]
 refine pw_callB (by rfl) 9 _ _ rfl Try.func9 (by kernel_rfl) #[.agg (paC (some ⟨gL, 0, none⟩) 3 3 GG)] rfl _ (hsm _ gL rL) ?_
 intro z3001 k
 simp only [Act.put, pu]
 replace r4 := k.row r4 (by simp <;> omega)
 replace r5 := k.row r5 (by simp <;> omega)
 replace r7 := k.row r7 (by simp <;> omega)
 replace rL := k.row rL (by simp <;> omega)
 replace rG := k.row rG (by simp <;> omega)
 replace rR := k.row rR (by simp <;> omega)
 replace rF := k.row rF (by simp <;> omega)
 replace sb := sb.trans (k.below w.heap.size sb.size (by simp <;> omega))
 clear k
 refine pw_new (by rfl) 34 rfl _ zero_sm ?_
 intro g10 z3002 n0 r10 k
 simp only [Act.put, pu]
 have d4x10 := Nat.lt_of_lt_of_le r4.lt n0
 have d5x10 := Nat.lt_of_lt_of_le r5.lt n0
 have d7x10 := Nat.lt_of_lt_of_le r7.lt n0
 have dLx10 := Nat.lt_of_lt_of_le rL.lt n0
 have dGx10 := Nat.lt_of_lt_of_le rG.lt n0
 have dRx10 := Nat.lt_of_lt_of_le rR.lt n0
 have dFx10 := Nat.lt_of_lt_of_le rF.lt n0
 have b10 := Nat.le_trans sb.size n0
 clear n0
 replace r4 := k.row r4 (by simp <;> omega)
 replace r5 := k.row r5 (by simp <;> omega)
 replace r7 := k.row r7 (by simp <;> omega)
 replace rL := k.row rL (by simp <;> omega)
 replace rG := k.row rG (by simp <;> omega)
 replace rR := k.row rR (by simp <;> omega)
 replace rF := k.row rF (by simp <;> omega)
 replace sb := sb.trans (k.below w.heap.size sb.size (by simp <;> omega))
 clear k
 refine pw_put (by rfl) 34 _ _ rfl _ rfl r10 (smC (PP : Nat) (QQ : Nat) (GG : Nat)) rfl (by exact size_sm) (by rfl) (sm_one _ _ _) ?_
 clear r10
 intro z3003 r10 k
 simp only [Act.put]
 replace r4 := k.row r4 (by simp <;> omega)
 replace r5 := k.row r5 (by simp <;> omega)
 replace r7 := k.row r7 (by simp <;> omega)
 replace rL := k.row rL (by simp <;> omega)
 replace rG := k.row rG (by simp <;> omega)
 replace rR := k.row rR (by simp <;> omega)
 replace rF := k.row rF (by simp <;> omega)
 replace sb := sb.trans (k.below w.heap.size sb.size (by simp <;> omega))
 clear k
 refine pw_nil ?_
 clear hsm
 (repeat ((fail_if_success with_reducible refine rg ?_); go_step))
 refine wp_region_qw (by kernel_rfl) (by kernel_rfl) ?_
 refine qw_load (by rfl) 24 _ rfl _ rfl r4 4 _ Try.underlying24 size_nat ?_
 simp only [Act.put, pu]
 refine qw_value (by rfl) (.pointer (some ⟨g10, 0, none⟩)) (exec_field 34 _ 0 rfl g10 0 rfl _ Try.underlying34 _ rfl 0 Try.sizeOf3) ?_
 simp only [Act.put, pu]
 refine qw_loadc (by rfl) 3 _ rfl _ (0) rfl r10 (.int .i64 (PP : Nat)) rfl Try.isAgg3 ?_
 simp only [Act.put, pu]
 refine qw_call (by rfl) 10 _ _ rfl Try.func10 (by kernel_rfl) #[.agg (natC A), .int .i64 (PP : Nat)] rfl _ hbx ?_
 simp only [Act.put, pu]
 refine qw_load (by rfl) 24 _ rfl _ rfl r5 4 _ Try.underlying24 size_nat ?_
 simp only [Act.put, pu]
 refine qw_value (by rfl) (.pointer (some ⟨g10, 0, none⟩)) (exec_field 34 _ 0 rfl g10 0 rfl _ Try.underlying34 _ rfl 0 Try.sizeOf3) ?_
 simp only [Act.put, pu]
 refine qw_loadc (by rfl) 3 _ rfl _ (0) rfl r10 (.int .i64 (PP : Nat)) rfl Try.isAgg3 ?_
 simp only [Act.put, pu]
 refine qw_call (by rfl) 10 _ _ rfl Try.func10 (by kernel_rfl) #[.agg (natC B), .int .i64 (PP : Nat)] rfl _ hby ?_
 simp only [Act.put, pu]
 refine qw_asg (by rfl) rfl rfl ?_
 simp only [Act.put, pu]
 refine qw_asg (by rfl) rfl rfl ?_
 simp only [Act.put, pu]
 refine qw_nil ?_
 intro w4 hqb
 replace r4 := r4.belowAll hqb
 replace r5 := r5.belowAll hqb
 replace r7 := r7.belowAll hqb
 replace rL := rL.belowAll hqb
 replace rG := rG.belowAll hqb
 replace rR := rR.belowAll hqb
 replace rF := rF.belowAll hqb
 replace r10 := r10.belowAll hqb
 replace sb := below_on sb (Nat.le_refl _) hqb
 clear hqb
 clear hbx hby
 (repeat ((fail_if_success with_reducible refine rg ?_); go_step))
 refine wp_region_pw ?_
 refine pw_mv (by rfl) rfl rfl ?_
 simp only [Act.put, pu]
 refine pw_value (by rfl) (.bool false) (exec_neq_k .i64 _ _ _ _ rfl 0 0 rfl rfl false rfl) ?_
 simp only [Act.put, pu]
 refine pw_nil ?_
 (repeat ((fail_if_success with_reducible refine rg ?_); go_step))
 refine wp_region_pw ?_
 refine pw_loadm (by rfl) 27 _ rfl _ 0 rfl r7.r _ (part_all _) _ Try.underlying27 rfl size_pa ?_
 simp only [Act.put, pu]
 refine pw_callB (by rfl) 12 _ _ rfl Try.func12 (by kernel_rfl) #[.agg (paC (some ⟨gL, 0, none⟩) 3 3 GG)] rfl _ (hrq _ gL rL) ?_
 intro z7001 k
 simp only [Act.put, pu]
 replace r4 := k.row r4 (by simp <;> omega)
 replace r5 := k.row r5 (by simp <;> omega)
 replace r7 := k.row r7 (by simp <;> omega)
 replace rL := k.row rL (by simp <;> omega)
 replace rG := k.row rG (by simp <;> omega)
 replace rR := k.row rR (by simp <;> omega)
 replace rF := k.row rF (by simp <;> omega)
 replace r10 := k.row r10 (by simp <;> omega)
 replace sb := sb.trans (k.below w.heap.size sb.size (by simp <;> omega))
 clear k
 refine pw_callB (by rfl) 13 _ _ rfl Try.func13 (by kernel_rfl) #[.int .i64 1] rfl _ (o1 _) ?_
 intro z7002 k
 simp only [Act.put, pu]
 replace r4 := k.row r4 (by simp <;> omega)
 replace r5 := k.row r5 (by simp <;> omega)
 replace r7 := k.row r7 (by simp <;> omega)
 replace rL := k.row rL (by simp <;> omega)
 replace rG := k.row rG (by simp <;> omega)
 replace rR := k.row rR (by simp <;> omega)
 replace rF := k.row rF (by simp <;> omega)
 replace r10 := k.row r10 (by simp <;> omega)
 replace sb := sb.trans (k.below w.heap.size sb.size (by simp <;> omega))
 clear k
 refine pw_callB (by rfl) 11 _ _ rfl Try.func11 (by kernel_rfl) #[.agg (natC QQ), .agg (natC 1)] rfl _ (hsu _) ?_
 intro z7003 k
 simp only [Act.put, pu]
 replace r4 := k.row r4 (by simp <;> omega)
 replace r5 := k.row r5 (by simp <;> omega)
 replace r7 := k.row r7 (by simp <;> omega)
 replace rL := k.row rL (by simp <;> omega)
 replace rG := k.row rG (by simp <;> omega)
 replace rR := k.row rR (by simp <;> omega)
 replace rF := k.row rF (by simp <;> omega)
 replace r10 := k.row r10 (by simp <;> omega)
 replace sb := sb.trans (k.below w.heap.size sb.size (by simp <;> omega))
 clear k
 refine pw_mv (by rfl) rfl rfl ?_
 simp only [Act.put, pu]
 refine pw_ext (by rfl) rfl rfl rfl ?_
 simp only [Act.put, pu]
 refine pw_ext (by rfl) rfl rfl rfl ?_
 simp only [Act.put, pu]
 refine pw_new (by rfl) 24 rfl _ zero_nat ?_
 intro g13 z7007 n0 r13 k
 simp only [Act.put, pu]
 have d4x13 := Nat.lt_of_lt_of_le r4.lt n0
 have d5x13 := Nat.lt_of_lt_of_le r5.lt n0
 have d7x13 := Nat.lt_of_lt_of_le r7.lt n0
 have dLx13 := Nat.lt_of_lt_of_le rL.lt n0
 have dGx13 := Nat.lt_of_lt_of_le rG.lt n0
 have dRx13 := Nat.lt_of_lt_of_le rR.lt n0
 have dFx13 := Nat.lt_of_lt_of_le rF.lt n0
 have d10x13 := Nat.lt_of_lt_of_le r10.lt n0
 have b13 := Nat.le_trans sb.size n0
 clear n0
 replace r4 := k.row r4 (by simp <;> omega)
 replace r5 := k.row r5 (by simp <;> omega)
 replace r7 := k.row r7 (by simp <;> omega)
 replace rL := k.row rL (by simp <;> omega)
 replace rG := k.row rG (by simp <;> omega)
 replace rR := k.row rR (by simp <;> omega)
 replace rF := k.row rF (by simp <;> omega)
 replace r10 := k.row r10 (by simp <;> omega)
 replace sb := sb.trans (k.below w.heap.size sb.size (by simp <;> omega))
 clear k
 refine pw_put (by rfl) 24 _ _ rfl _ rfl r13 (natC LL) rfl (by exact size_nat) (by simp only [natC_size]) (natC_one _) ?_
 clear r13
 intro z7008 r13 k
 simp only [Act.put]
 replace r4 := k.row r4 (by simp <;> omega)
 replace r5 := k.row r5 (by simp <;> omega)
 replace r7 := k.row r7 (by simp <;> omega)
 replace rL := k.row rL (by simp <;> omega)
 replace rG := k.row rG (by simp <;> omega)
 replace rR := k.row rR (by simp <;> omega)
 replace rF := k.row rF (by simp <;> omega)
 replace r10 := k.row r10 (by simp <;> omega)
 replace sb := sb.trans (k.below w.heap.size sb.size (by simp <;> omega))
 clear k
 refine pw_as (by rfl) rfl rfl ?_
 simp only [Act.put, pu]
 refine pw_nil ?_
 have hg : GrpAt _ g gr gf PP QQ GG := ⟨rG, rR, rF⟩
 clear rG rR rF r7 rL hrq hsu o1
 (repeat ((fail_if_success with_reducible refine rg ?_); go_step))
 refine wp_region_qw (by kernel_rfl) (by kernel_rfl) ?_
 refine qw_move (by rfl) rfl rfl ?_
 simp only [Act.put, pu]
 refine qw_load (by rfl) 24 _ rfl _ rfl r4 4 _ Try.underlying24 size_nat ?_
 simp only [Act.put, pu]
 refine qw_callK (by rfl) 14 _ _ rfl Try.func14 (by kernel_rfl) #[.pointer (some ⟨g, 0, none⟩), .agg (natC A)] rfl _ (fun w' hb => hin w' g gr gf (hg.below hb)) ?_
 simp only [Act.put, pu]
 refine qw_loadm (by rfl) 34 _ rfl _ (0) rfl r10 (smC (PP : Nat) (QQ : Nat) (GG : Nat)) (part_all _) _ Try.underlying34 rfl size_sm ?_
 simp only [Act.put, pu]
 refine qw_load (by rfl) 24 _ rfl _ rfl r4 4 _ Try.underlying24 size_nat ?_
 simp only [Act.put, pu]
 refine qw_call (by rfl) 15 _ _ rfl Try.func15 (by kernel_rfl) #[.agg (smC (PP : Nat) (QQ : Nat) (GG : Nat)), .agg (natC A)] rfl _ hinR ?_
 simp only [Act.put, pu]
 refine qw_value (by rfl) (.bool true) (exec_eql_bool _ _ _ _ rfl BB rfl rfl Try.underlying4) ?_
 simp only [Act.put, pu]
 refine qw_move (by rfl) rfl rfl ?_
 simp only [Act.put, pu]
 refine qw_move (by rfl) rfl rfl ?_
 simp only [Act.put, pu]
 refine qw_load (by rfl) 24 _ rfl _ rfl r4 4 _ Try.underlying24 size_nat ?_
 simp only [Act.put, pu]
 refine qw_load (by rfl) 24 _ rfl _ rfl r5 4 _ Try.underlying24 size_nat ?_
 simp only [Act.put, pu]
 refine qw_callK (by rfl) 16 _ _ rfl Try.func16 (by kernel_rfl) #[.pointer (some ⟨g, 0, none⟩), .agg (natC A), .agg (natC B)] rfl _ (fun w' hb => hmu w' g gr gf (hg.below hb)) ?_
 simp only [Act.put, pu]
 refine qw_loadm (by rfl) 34 _ rfl _ (0) rfl r10 (smC (PP : Nat) (QQ : Nat) (GG : Nat)) (part_all _) _ Try.underlying34 rfl size_sm ?_
 simp only [Act.put, pu]
 refine qw_move (by rfl) rfl rfl ?_
 simp only [Act.put, pu]
 refine qw_move (by rfl) rfl rfl ?_
 simp only [Act.put, pu]
 refine qw_call (by rfl) 17 _ _ rfl Try.func17 (by kernel_rfl) #[.agg (smC (PP : Nat) (QQ : Nat) (GG : Nat)), .int .i64 (X : Nat), .int .i64 (Y : Nat)] rfl _ hmuR ?_
 simp only [Act.put, pu]
 refine qw_call (by rfl) 13 _ _ rfl Try.func13 (by kernel_rfl) #[.int .i64 (S1 : Nat)] rfl _ hoS1 ?_
 simp only [Act.put, pu]
 refine qw_value (by rfl) (.bool true) (fun w' => (exec_eql_nat _ _ _ rfl S1 S1 rfl rfl w').trans (by rw [eqn_yes])) ?_
 simp only [Act.put, pu]
 refine qw_pick true (v := .bool true) (by rfl) rfl rfl rfl ?_
 simp only [Act.put, pu]
 refine qw_move (by rfl) rfl rfl ?_
 simp only [Act.put, pu]
 refine qw_move (by rfl) rfl rfl ?_
 simp only [Act.put, pu]
 refine qw_load (by rfl) 24 _ rfl _ rfl r4 4 _ Try.underlying24 size_nat ?_
 simp only [Act.put, pu]
 refine qw_load (by rfl) 24 _ rfl _ rfl r5 4 _ Try.underlying24 size_nat ?_
 simp only [Act.put, pu]
 refine qw_callK (by rfl) 18 _ _ rfl Try.func18 (by kernel_rfl) #[.pointer (some ⟨g, 0, none⟩), .agg (natC A), .agg (natC B)] rfl _ (fun w' hb => hex w' g gr gf (hg.below hb)) ?_
 simp only [Act.put, pu]
 refine qw_loadm (by rfl) 34 _ rfl _ (0) rfl r10 (smC (PP : Nat) (QQ : Nat) (GG : Nat)) (part_all _) _ Try.underlying34 rfl size_sm ?_
 simp only [Act.put, pu]
 refine qw_move (by rfl) rfl rfl ?_
 simp only [Act.put, pu]
 refine qw_load (by rfl) 24 _ rfl _ rfl r5 4 _ Try.underlying24 size_nat ?_
 simp only [Act.put, pu]
 refine qw_call (by rfl) 19 _ _ rfl Try.func19 (by kernel_rfl) #[.agg (smC (PP : Nat) (QQ : Nat) (GG : Nat)), .int .i64 (X : Nat), .agg (natC B)] rfl _ hexR ?_
 simp only [Act.put, pu]
 refine qw_call (by rfl) 13 _ _ rfl Try.func13 (by kernel_rfl) #[.int .i64 (S2 : Nat)] rfl _ hoS2 ?_
 simp only [Act.put, pu]
 refine qw_value (by rfl) (.bool true) (fun w' => (exec_eql_nat _ _ _ rfl S2 S2 rfl rfl w').trans (by rw [eqn_yes])) ?_
 simp only [Act.put, pu]
 refine qw_pick true (v := .bool true) (by rfl) rfl rfl rfl ?_
 simp only [Act.put, pu]
 refine qw_move (by rfl) rfl rfl ?_
 simp only [Act.put, pu]
 refine qw_move (by rfl) rfl rfl ?_
 simp only [Act.put, pu]
 refine qw_load (by rfl) 24 _ rfl _ rfl r5 4 _ Try.underlying24 size_nat ?_
 simp only [Act.put, pu]
 refine qw_callK (by rfl) 20 _ _ rfl Try.func20 (by kernel_rfl) #[.pointer (some ⟨g, 0, none⟩), .agg (natC B)] rfl _ (fun w' hb => hof w' g gr gf (hg.below hb)) ?_
 simp only [Act.put, pu]
 refine qw_loadm (by rfl) 34 _ rfl _ (0) rfl r10 (smC (PP : Nat) (QQ : Nat) (GG : Nat)) (part_all _) _ Try.underlying34 rfl size_sm ?_
 simp only [Act.put, pu]
 refine qw_value (by rfl) (.pointer (some ⟨g10, 2, none⟩)) (exec_field 34 _ 2 rfl g10 0 rfl _ Try.underlying34 _ rfl 0 Try.sizeOf3) ?_
 simp only [Act.put, pu]
 refine qw_loadc (by rfl) 3 _ rfl _ (2) rfl r10 (.int .i64 (GG : Nat)) rfl Try.isAgg3 ?_
 simp only [Act.put, pu]
 refine qw_load (by rfl) 24 _ rfl _ rfl r5 4 _ Try.underlying24 size_nat ?_
 simp only [Act.put, pu]
 refine qw_call (by rfl) 19 _ _ rfl Try.func19 (by kernel_rfl) #[.agg (smC (PP : Nat) (QQ : Nat) (GG : Nat)), .int .i64 (GG : Nat), .agg (natC B)] rfl _ hofR ?_
 simp only [Act.put, pu]
 refine qw_call (by rfl) 13 _ _ rfl Try.func13 (by kernel_rfl) #[.int .i64 (S3 : Nat)] rfl _ hoS3 ?_
 simp only [Act.put, pu]
 refine qw_value (by rfl) (.bool true) (fun w' => (exec_eql_nat _ _ _ rfl S3 S3 rfl rfl w').trans (by rw [eqn_yes])) ?_
 simp only [Act.put, pu]
 refine qw_pick true (v := .bool true) (by rfl) rfl rfl rfl ?_
 simp only [Act.put, pu]
 refine qw_move (by rfl) rfl rfl ?_
 simp only [Act.put, pu]
 refine qw_move (by rfl) rfl rfl ?_
 simp only [Act.put, pu]
 refine qw_load (by rfl) 24 _ rfl _ rfl r4 4 _ Try.underlying24 size_nat ?_
 simp only [Act.put, pu]
 refine qw_callK (by rfl) 21 _ _ rfl Try.func21 (by kernel_rfl) #[.pointer (some ⟨g, 0, none⟩), .agg (natC A)] rfl _ (fun w' hb => hiv w' g gr gf (hg.below hb)) ?_
 simp only [Act.put, pu]
 refine qw_loadm (by rfl) 34 _ rfl _ (0) rfl r10 (smC (PP : Nat) (QQ : Nat) (GG : Nat)) (part_all _) _ Try.underlying34 rfl size_sm ?_
 simp only [Act.put, pu]
 refine qw_move (by rfl) rfl rfl ?_
 simp only [Act.put, pu]
 refine qw_load (by rfl) 24 _ rfl _ rfl r13 4 _ Try.underlying24 size_nat ?_
 simp only [Act.put, pu]
 refine qw_call (by rfl) 19 _ _ rfl Try.func19 (by kernel_rfl) #[.agg (smC (PP : Nat) (QQ : Nat) (GG : Nat)), .int .i64 (X : Nat), .agg (natC LL)] rfl _ hivR ?_
 simp only [Act.put, pu]
 refine qw_call (by rfl) 13 _ _ rfl Try.func13 (by kernel_rfl) #[.int .i64 (S4 : Nat)] rfl _ hoS4 ?_
 simp only [Act.put, pu]
 refine qw_value (by rfl) (.bool true) (fun w' => (exec_eql_nat _ _ _ rfl S4 S4 rfl rfl w').trans (by rw [eqn_yes])) ?_
 simp only [Act.put, pu]
 refine qw_pick true (v := .bool true) (by rfl) rfl rfl rfl ?_
 simp only [Act.put, pu]
 refine qw_move (by rfl) rfl rfl ?_
 simp only [Act.put, pu]
 refine qw_call (by rfl) 22 _ _ rfl Try.func22 (by kernel_rfl) #[] rfl _ haw ?_
 simp only [Act.put, pu]
 refine qw_pick true (v := .bool true) (by rfl) rfl rfl rfl ?_
 simp only [Act.put, pu]
 refine qw_asg (by rfl) rfl rfl ?_
 simp only [Act.put, pu]
 refine qw_nil ?_
 intro w9 hqb
 replace sb := below_on sb (Nat.le_refl _) hqb
 clear hqb
 go_wp2
 go_ret
 exact ⟨rfl, sb⟩
theorem walk (a0 : Int) (A B : Nat) (w : World) (_ : -9223372036854775808 ≤ a0 ∧ a0 ≤ 9223372036854775807) (hA : A < 2 ^ 256) (hB : B < 2 ^ 256) :
  Calls Try.prog 3 #[.int .i64 a0, .agg (natC A), .agg (natC B)] w fun e w' => e = .returned (.bool true) ∧ Below w.heap.size w w' := by
 obtain ⟨his, hlt, hG, hq62⟩ := pk2_gr (pkB a0)
 obtain ⟨hp62, hg62⟩ := pk2_p (pkB a0)
 have pP := (grN_primes his).1
 have hQ9 := ((grN_iff _ _ _ _).1 his).2.2.1
 have hP9 := ((grN_iff _ _ _ _).1 his).2.2.2.2.2.1
 have hG2 : 1 < pk2 (pkB a0) otG leG := by
  have h := (grN_iff _ _ _ _).1 his
  have h1 := h.2.2.2.1
  have h2 := h.2.2.2.2.1
  omega
 have hnw : ∀ w' x, Row w' x (lksC 3 (lN (pk2 (pkB a0) otL leL)) twoA) 74 → _ := fun w' x r => gnew_yes 3 3 (some ⟨x, 0, none⟩) (pk2 (pkB a0) otG leG) _ _ x 0 _ _ w' (by decide) hG (lks_links r hlt) his
 have hrq : ∀ w' x, Row w' x (lksC 3 (lN (pk2 (pkB a0) otL leL)) twoA) 74 → _ := fun w' x r => rQ_any 3 3 (some ⟨x, 0, none⟩) (pk2 (pkB a0) otG leG) _ _ x 0 _ _ w' (by decide) (by decide) (lks_links r hlt)
 have hsm : ∀ w' x, Row w' x (lksC 3 (lN (pk2 (pkB a0) otL leL)) twoA) 74 → _ := fun w' x r => rof9_any x _ _ (pk2 (pkB a0) otG leG) w' r hlt (Nat.lt_trans hp62 (by decide)) (Nat.lt_trans hq62 (by decide)) (Nat.lt_trans hg62 (by decide))
 have hpk := rpick_any a0
 clear hlt his
 generalize lN (pk2 (pkB a0) otL leL) (3 - 1) = PP at *
 generalize lN (pk2 (pkB a0) otL leL) (3 - 2) = QQ at *
 generalize pk2 (pkB a0) otG leG = GG at *
 generalize lksC 3 (lN (pk2 (pkB a0) otL leL)) twoA = LK at *
 have p0 : 0 < PP := by omega
 have q0 : 0 < QQ := by omega
 have hQ : QQ < 2 ^ 256 := by omega
 have q : RgQ PP := ⟨by omega, isP_odd pP (by omega), pP.1⟩
 have lof : ∀ x w', Calls Try.prog 13 #[.int .i64 (x % PP : Nat)] w' fun e w2 => e = .returned (.agg (natC (x % PP))) ∧ Below w'.heap.size w' w2 := fun x w' => of9_any (x % PP) w' (by have := Nat.mod_lt x p0; omega)
 refine core a0 A B (A % PP) (B % PP) (A * B % PP) (A ^ B % PP) (GG ^ B % PP) (A ^ (QQ - 1) % PP) (QQ - 1) GG PP QQ (bN QQ 1 256 : Nat) (memN PP QQ A) LK w hpk hnw hrq hsm (fun w' => rby_any A PP w' hA p0 hp62) (fun w' => rby_any B PP w' hB p0 hp62) (fun w' => ?_)
  (fun w' g gr gf h => qIn_ok A g gr gf _ _ _ w' hA hQ q h) (fun w' => rin9_any A PP QQ _ w' hA pP.1 hp62 q0 (by omega)) (fun w' g gr gf h => qMul_ok A B g gr gf _ _ _ w' hA hB q h) (fun w' => ?_) (fun w' g gr gf h => qExp_ok A B g gr gf _ _ _ w' hA hB q h) (fun w' => ?_)
  (fun w' g gr gf h => qOf_ok B g gr gf _ _ _ w' hB hG q h) (fun w' => rexp9_any GG B PP _ _ w' hB p0 hp62) (fun w' g gr gf h => qInv_ok A g gr gf _ _ _ w' hA q0 hQ q h) (fun w' => ?_) (lof _) (lof _) (lof _) (lof _)
 ·have := rsub_any QQ 1 w' hQ (by decide)
  rw [less_one QQ q0] at this
  exact this
 ·have := rmul9_any (A % PP) (B % PP) PP (QQ : Nat) (GG : Nat) w' p0 hp62
  rw [← Nat.mul_mod] at this
  exact this
 ·have := rexp9_any (A % PP) B PP (QQ : Nat) (GG : Nat) w' hB p0 hp62
  rw [pow_in] at this
  exact this
 ·have := rexp9_any (A % PP) (QQ - 1) PP (QQ : Nat) (GG : Nat) w' (by omega) p0 hp62
  rw [pow_in] at this
  exact this
set_option maxRecDepth 100000 in
theorem lifted (os : Os) (started : os.Started) (H : Type) (enc : TypeId × Value → H) :
  ReturnsInHanded {} Try.checked os 3 .any (Rows.powerDoesSpec.pre6 enc Try.prog Try.f3 Rows.powerDoesRow.domain false) (Rows.powerDoesSpec.post enc Try.prog Try.f3 false true false false) := by
 refine returnsInHanded_of_change (C := Try.checked) own started (by kernel_rfl) Try.func3
  (ChangeSpec.witness6 (enc := enc) (C := Try.checked) false ⟨#[], #[.int .i64 0, .agg #[.int .u64 0, .int .u64 0, .int .u64 0, .int .u64 0], .agg #[.int .u64 0, .int .u64 0, .int .u64 0, .int .u64 0]], []⟩ 8 (by kernel_rfl) (by kernel_rfl) (by kernel_rfl) (by kernel_rfl)) ?_
 intro W base args ds gs before hval0 hW hcnd _
 have hval : ∀ (j : Nat) t v, Try.f3.params[j]? = some t → args[j]? = some v → Value.okWide Try.prog W .any base t v := hval0
 have hW' := hW
 obtain ⟨p, q, hA0, hV, rfl, hfz, hnd⟩ := hW
 have hA : DataW.TrodAll enc Try.prog W 0 (fun _ => true) true Try.f3.params.toList args.toList ds p := hA0
 rw [Try.params3] at hA hval
 obtain ⟨v0, vs0, d0, ds0, p0, q0, hargs, rfl, rfl, h0, r0⟩ := trodAll_cons hA
 obtain ⟨v1, vs1, d1, ds1, p1, q1, rfl, rfl, rfl, h1, r1⟩ := trodAll_cons r0
 obtain ⟨v2, vs2, d2, ds2, p2, q2, rfl, rfl, rfl, h2, r2⟩ := trodAll_cons r1
 obtain ⟨rfl, rfl, rfl⟩ := trodAll_nil r2
 obtain rfl : args = #[v0, v1, v2] := by cases args; simp_all
 obtain ⟨rfl, rfl⟩ := trodVars_none hV
 have k0 := h0
 have lt0 := lt_of_trod h0
 obtain ⟨a0, rfl, rfl, rfl, w0⟩ := open_int Try.underlying3 (hval 0 3 v0 rfl rfl) h0
 have k1 := h1
 have lt1 := lt_of_trod h1
 obtain ⟨N1, hN1, rfl⟩ := open_nat (hval 1 24 v1 rfl rfl) h1
 have k2 := h2
 have lt2 := lt_of_trod h2
 obtain ⟨N2, hN2, rfl⟩ := open_nat (hval 2 24 v2 rfl rfl) h2
 clear hA0 hval0
 refine (walk a0 N1 N2 W (bounds_i64 w0) hN1 hN2).mono fun e W' ⟨he, bel⟩ => ?_
 subst he
 exact ⟨_, rfl, _, _, _, [], _, [], hW', trodAll_mk1 (shut_bool Try.underlying4 _), (trodAll_cons_mk (Below.trod laidOut (by kernel_rfl) (of_decide_eq_true (by kernel_rfl)) k0 bel lt0) (trodAll_cons_mk (Below.trod laidOut (by kernel_rfl) (of_decide_eq_true (by kernel_rfl)) k1 bel lt1) (trodAll_cons_mk (Below.trod laidOut (by kernel_rfl) (of_decide_eq_true (by kernel_rfl)) k2 bel lt2) trodAll_mk0))), rfl, bel.frame _, fun h => by cases h⟩
theorem over : Rows.powerDoesRow.holds Try.pinned (OpenSpec.ofChange Rows.powerDoesSpec) :=
 OpenClaim.holds_of_wide 3 Try.f3 rfl rfl rfl rfl rfl rfl rfl ⟨rfl, rfl, rfl, rfl, rfl⟩ rfl rfl rfl rfl rfl (by kernel_rfl) Try.func3 (by kernel_rfl)
  (of_decide_eq_true (by kernel_rfl)) (by unfold Func.isWrapper; first | (rw [if_pos (by decide +kernel)]; kernel_rfl) | (rw [if_neg (by decide +kernel)]; exact ⟨rfl, rfl⟩))
  (fun os started H enc _ => lifted os started H enc)
end powerDoesP
/-- for every number and every two naturals: products, powers, powers of G and inverses by a small group's P are the document's, and whether a natural is a member; no condition. -/
theorem powerDoes_holds : Rows.PowerDoesSaid := powerDoesP.over
end Go.Proofs.Ytplhgenmcphccaa
