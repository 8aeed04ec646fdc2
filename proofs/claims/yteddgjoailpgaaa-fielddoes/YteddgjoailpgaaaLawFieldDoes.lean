/- FieldDoes: for every number and every two naturals: sums, differences, products and inverses by a small group's Q are the document's, and whether a natural is below Q; no condition. -/
import Derived.Test.YteddgjoailpgaaaFA
import Derived.Test.YteddgjoailpgaaaGU
namespace Go.Proofs.Yteddgjoailpgaaa
open Go.ChangeShapes Go.WideShapes Go.ChangeAt Go.RowKit
namespace fieldDoesP
set_option maxRecDepth 100000 in
set_option maxHeartbeats 2000000 in
theorem core (a0 : Int) (A B X Y S1 S2 S3 S4 GG PP QQ : Nat) (C0 : Int) (BB : Bool) (LK : Array Value) (w : World) (hBB : decide (C0 < 0) = BB)
  (hpk : ∀ w', Calls Try.prog 18 #[.int .i64 a0] w' fun e w2 => ∃ g, e = .returned (.agg (paC (some ⟨g, 0, none⟩) 3 3 GG)) ∧ w'.heap.size ≤ g ∧ Row w2 g LK 79 ∧ Below w'.heap.size w' w2)
  (hnw : ∀ w' x, Row w' x LK 79 → Calls Try.prog 19 #[.agg (paC (some ⟨x, 0, none⟩) 3 3 GG)] w' fun e w2 => ∃ g gr gf, e = .returned (.tuple #[.pointer (some ⟨g, 0, none⟩), .int .i64 0]) ∧ GrpAt w2 g gr gf PP QQ GG ∧ Below w'.heap.size w' w2)
  (hrq : ∀ w' x, Row w' x LK 79 → Calls Try.prog 21 #[.agg (paC (some ⟨x, 0, none⟩) 3 3 GG)] w' fun e w2 => e = .returned (.agg (natC QQ)) ∧ Below w'.heap.size w' w2)
  (hlo : ∀ w', Calls Try.prog 20 #[.agg (natC QQ)] w' fun e w2 => e = .returned (.tuple #[.int .i64 (QQ : Nat), .bool true]) ∧ Below w'.heap.size w' w2)
  (hbx : ∀ w', Calls Try.prog 22 #[.agg (natC A), .int .i64 (QQ : Nat)] w' fun e w2 => e = .returned (.int .i64 (X : Nat)) ∧ Below w'.heap.size w' w2)
  (hby : ∀ w', Calls Try.prog 22 #[.agg (natC B), .int .i64 (QQ : Nat)] w' fun e w2 => e = .returned (.int .i64 (Y : Nat)) ∧ Below w'.heap.size w' w2)
  (hcm : ∀ w', Calls Try.prog 17 #[.agg (natC A), .agg (natC QQ)] w' fun e w2 => e = .returned (.int .i64 C0) ∧ Below w'.heap.size w' w2)
  (hin : ∀ w' g gr gf, GrpAt w' g gr gf PP QQ GG → Calls Try.prog 23 #[.pointer (some ⟨g, 0, none⟩), .agg (natC A)] w' fun e w2 => e = .returned (.bool BB) ∧ Below w'.heap.size w' w2)
  (had : ∀ w' g gr gf, GrpAt w' g gr gf PP QQ GG → Calls Try.prog 24 #[.pointer (some ⟨g, 0, none⟩), .agg (natC A), .agg (natC B)] w' fun e w2 => e = .returned (.agg (natC S1)) ∧ Below w'.heap.size w' w2)
  (hadR : ∀ w', Calls Try.prog 26 #[.int .i64 (X : Nat), .int .i64 (Y : Nat), .int .i64 (QQ : Nat)] w' fun e w2 => e = .returned (.int .i64 (S1 : Nat)) ∧ Below w'.heap.size w' w2)
  (hsu : ∀ w' g gr gf, GrpAt w' g gr gf PP QQ GG → Calls Try.prog 27 #[.pointer (some ⟨g, 0, none⟩), .agg (natC A), .agg (natC B)] w' fun e w2 => e = .returned (.agg (natC S2)) ∧ Below w'.heap.size w' w2)
  (hsuR : ∀ w', Calls Try.prog 28 #[.int .i64 (X : Nat), .int .i64 (Y : Nat), .int .i64 (QQ : Nat)] w' fun e w2 => e = .returned (.int .i64 (S2 : Nat)) ∧ Below w'.heap.size w' w2)
  (hmu : ∀ w' g gr gf, GrpAt w' g gr gf PP QQ GG → Calls Try.prog 29 #[.pointer (some ⟨g, 0, none⟩), .agg (natC A), .agg (natC B)] w' fun e w2 => e = .returned (.agg (natC S3)) ∧ Below w'.heap.size w' w2)
  (hmuR : ∀ w', Calls Try.prog 30 #[.int .i64 (X : Nat), .int .i64 (Y : Nat), .int .i64 (QQ : Nat)] w' fun e w2 => e = .returned (.int .i64 (S3 : Nat)) ∧ Below w'.heap.size w' w2)
  (hiv : ∀ w' g gr gf, GrpAt w' g gr gf PP QQ GG → Calls Try.prog 31 #[.pointer (some ⟨g, 0, none⟩), .agg (natC A)] w' fun e w2 => e = .returned (.agg (natC S4)) ∧ Below w'.heap.size w' w2)
  (hivR : ∀ w', Calls Try.prog 32 #[.int .i64 (X : Nat), .int .i64 (QQ : Nat)] w' fun e w2 => e = .returned (.int .i64 (S4 : Nat)) ∧ Below w'.heap.size w' w2)
  (hoS1 : ∀ w', Calls Try.prog 25 #[.int .i64 (S1 : Nat)] w' fun e w2 => e = .returned (.agg (natC S1)) ∧ Below w'.heap.size w' w2)
  (hoS2 : ∀ w', Calls Try.prog 25 #[.int .i64 (S2 : Nat)] w' fun e w2 => e = .returned (.agg (natC S2)) ∧ Below w'.heap.size w' w2)
  (hoS3 : ∀ w', Calls Try.prog 25 #[.int .i64 (S3 : Nat)] w' fun e w2 => e = .returned (.agg (natC S3)) ∧ Below w'.heap.size w' w2)
  (hoS4 : ∀ w', Calls Try.prog 25 #[.int .i64 (S4 : Nat)] w' fun e w2 => e = .returned (.agg (natC S4)) ∧ Below w'.heap.size w' w2) :
  Calls Try.prog 5 #[.int .i64 a0, .agg (natC A), .agg (natC B)] w fun e w' => e = .returned (.bool true) ∧ Below w.heap.size w w' := by
 have haw := awake8_any
 go_enter Try.func5, Try.ntmps5
 (repeat ((fail_if_success with_reducible refine rg ?_); go_step))
 refine wp_region_pw ?_
 refine pw_boxr (by rfl) 24 _ rfl (_) rfl ?_
 intro g4 z0 n0 r4 k
 simp only [Act.put, pu]
 have b4 : w.heap.size ≤ g4 := n0
 clear n0
 have sb := k.below w.heap.size (Nat.le_refl _) (by simp)
 clear k
 refine pw_boxr (by rfl) 24 _ rfl (_) rfl ?_
 intro g5 z1 n0 r5 k
 simp only [Act.put, pu]
 have d4x5 := Nat.lt_of_lt_of_le r4.lt n0
 have b5 := Nat.le_trans sb.size n0
 clear n0
 replace r4 := k.row r4 (by simp <;> omega)
 replace sb := sb.trans (k.below w.heap.size sb.size (by simp <;> omega))
 clear k
 refine pw_value (by rfl) (.bool false) (fun _ => rfl) ?_
 simp only [Act.put, pu]
 refine pw_nil ?_
 (repeat ((fail_if_success with_reducible refine rg ?_); go_step))
 refine wp_region_pw ?_
 refine pw_mv (by rfl) rfl rfl ?_
 simp only [Act.put, pu]
 refine pw_callE (by rfl) 18 _ _ rfl Try.func18 (by kernel_rfl) #[.int .i64 a0] rfl (hpk _) ?_
 rintro _ z1001 ⟨gL, rfl, nL, rL, hb⟩
 refine ⟨_, rfl, ?_⟩
 simp only [Act.put, pu]
 have d4xL := Nat.lt_of_lt_of_le r4.lt nL
 have d5xL := Nat.lt_of_lt_of_le r5.lt nL
 have bL := Nat.le_trans sb.size nL
 clear nL
 have k := Kept.ofBelow hb
 clear hb
 replace r4 := k.row r4 (by simp <;> omega)
 replace r5 := k.row r5 (by simp <;> omega)
 replace sb := sb.trans (k.below w.heap.size sb.size (by simp <;> omega))
 clear k
 refine pw_new (by rfl) 33 rfl _ zero_pa ?_
 intro g7 z1002 n0 r7 k
 simp only [Act.put, pu]
 have d4x7 := Nat.lt_of_lt_of_le r4.lt n0
 have d5x7 := Nat.lt_of_lt_of_le r5.lt n0
 have dLx7 := Nat.lt_of_lt_of_le rL.lt n0
 have b7 := Nat.le_trans sb.size n0
 clear n0
 replace r4 := k.row r4 (by simp <;> omega)
 replace r5 := k.row r5 (by simp <;> omega)
 replace rL := k.row rL (by simp <;> omega)
 replace sb := sb.trans (k.below w.heap.size sb.size (by simp <;> omega))
 clear k
 refine pw_put (by rfl) 33 _ _ rfl _ rfl r7 (paC (some ⟨gL, 0, none⟩) 3 3 GG) rfl (by exact size_pa) (by rfl) (pa_one _ _ _ _) ?_
 clear r7
 intro z1003 r7 k
 simp only [Act.put]
 replace r4 := k.row r4 (by simp <;> omega)
 replace r5 := k.row r5 (by simp <;> omega)
 replace rL := k.row rL (by simp <;> omega)
 replace sb := sb.trans (k.below w.heap.size sb.size (by simp <;> omega))
 clear k
 refine pw_nil ?_
 clear hpk
 (repeat ((fail_if_success with_reducible refine rg ?_); go_step))
 refine wp_region_pw ?_
 refine pw_loadm (by rfl) 33 _ rfl _ 0 rfl r7.r _ (part_all _) _ Try.underlying33 rfl size_pa ?_
 simp only [Act.put, pu]
 refine pw_callE (by rfl) 19 _ _ rfl Try.func19 (by kernel_rfl) #[.agg (paC (some ⟨gL, 0, none⟩) 3 3 GG)] rfl (hnw _ gL rL) ?_
 rintro _ z2001 ⟨g, gr, gf, rfl, hg, hb⟩
 refine ⟨_, rfl, ?_⟩
 simp only [Act.put, pu]
 have k := Kept.ofBelow hb
 clear hb
 replace r4 := k.row r4 (by simp <;> omega)
 replace r5 := k.row r5 (by simp <;> omega)
 replace r7 := k.row r7 (by simp <;> omega)
 replace rL := k.row rL (by simp <;> omega)
 replace sb := sb.trans (k.below w.heap.size sb.size (by simp <;> omega))
 clear k
 refine pw_mv (by rfl) rfl rfl ?_
 simp only [Act.put, pu]
 refine pw_ext (by rfl) rfl rfl rfl ?_
 simp only [Act.put, pu]
 refine pw_ext (by rfl) rfl rfl rfl ?_
 simp only [Act.put, pu]
 refine pw_as (by rfl) rfl rfl ?_
 simp only [Act.put, pu]
 refine pw_as (by rfl) rfl rfl ?_
 simp only [Act.put, pu]
 refine pw_nil ?_
 clear hnw
 (repeat ((fail_if_success with_reducible refine rg ?_); go_step))
 refine wp_region_pw ?_
 refine pw_loadm (by rfl) 33 _ rfl _ 0 rfl r7.r _ (part_all _) _ Try.underlying33 rfl size_pa ?_
 simp only [Act.put, pu]
 refine pw_callB (by rfl) 21 _ _ rfl Try.func21 (by kernel_rfl) #[.agg (paC (some ⟨gL, 0, none⟩) 3 3 GG)] rfl _ (hrq _ gL rL) ?_
 intro z3001 k
 simp only [Act.put, pu]
 replace r4 := k.row r4 (by simp <;> omega)
 replace r5 := k.row r5 (by simp <;> omega)
 replace r7 := k.row r7 (by simp <;> omega)
 replace rL := k.row rL (by simp <;> omega)
 replace hg := hg.below k.nil
 replace sb := sb.trans (k.below w.heap.size sb.size (by simp <;> omega))
 clear k
 refine pw_callB (by rfl) 20 _ _ rfl Try.func20 (by kernel_rfl) #[.agg (natC QQ)] rfl _ (hlo _) ?_
 intro z3002 k
 simp only [Act.put, pu]
 replace r4 := k.row r4 (by simp <;> omega)
 replace r5 := k.row r5 (by simp <;> omega)
 replace r7 := k.row r7 (by simp <;> omega)
 replace rL := k.row rL (by simp <;> omega)
 replace hg := hg.below k.nil
 replace sb := sb.trans (k.below w.heap.size sb.size (by simp <;> omega))
 clear k
 refine pw_mv (by rfl) rfl rfl ?_
 simp only [Act.put, pu]
 refine pw_ext (by rfl) rfl rfl rfl ?_
 simp only [Act.put, pu]
 refine pw_ext (by rfl) rfl rfl rfl ?_
 simp only [Act.put, pu]
 refine pw_as (by rfl) rfl rfl ?_
 simp only [Act.put, pu]
 refine pw_as (by rfl) rfl rfl ?_
 simp only [Act.put, pu]
 refine pw_nil ?_
 clear hlo
 (repeat ((fail_if_success with_reducible refine rg ?_); go_step))
 refine wp_region_qw (by kernel_rfl) (by kernel_rfl) ?_
 refine qw_load (by rfl) 24 _ rfl _ rfl r4 4 _ Try.underlying24 size_nat ?_
 simp only [Act.put, pu]
 refine qw_move (by rfl) rfl rfl ?_
 simp only [Act.put, pu]
 refine qw_call (by rfl) 22 _ _ rfl Try.func22 (by kernel_rfl) #[.agg (natC A), .int .i64 (QQ : Nat)] rfl _ hbx ?_
 simp only [Act.put, pu]
 refine qw_load (by rfl) 24 _ rfl _ rfl r5 4 _ Try.underlying24 size_nat ?_
 simp only [Act.put, pu]
 refine qw_move (by rfl) rfl rfl ?_
 simp only [Act.put, pu]
 refine qw_call (by rfl) 22 _ _ rfl Try.func22 (by kernel_rfl) #[.agg (natC B), .int .i64 (QQ : Nat)] rfl _ hby ?_
 simp only [Act.put, pu]
 refine qw_asg (by rfl) rfl rfl ?_
 simp only [Act.put, pu]
 refine qw_asg (by rfl) rfl rfl ?_
 simp only [Act.put, pu]
 refine qw_nil ?_
 intro w4 bb
 replace r4 := r4.belowAll bb
 replace r5 := r5.belowAll bb
 replace r7 := r7.belowAll bb
 replace rL := rL.belowAll bb
 replace hg := hg.below bb
 replace sb := below_on sb (Nat.le_refl _) bb
 clear bb hbx hby
 (repeat ((fail_if_success with_reducible refine rg ?_); go_step))
 refine wp_region_qw (by kernel_rfl) (by kernel_rfl) ?_
 refine qw_move (by rfl) rfl rfl ?_
 simp only [Act.put, pu]
 refine qw_value (by rfl) (.bool true) (exec_eql_k .i64 _ _ _ _ rfl 0 0 rfl rfl true rfl) ?_
 simp only [Act.put, pu]
 refine qw_move (by rfl) rfl rfl ?_
 simp only [Act.put, pu]
 refine qw_move (by rfl) rfl rfl ?_
 simp only [Act.put, pu]
 refine qw_load (by rfl) 24 _ rfl _ rfl r4 4 _ Try.underlying24 size_nat ?_
 simp only [Act.put, pu]
 refine qw_callK (by rfl) 23 _ _ rfl Try.func23 (by kernel_rfl) #[.pointer (some ⟨g, 0, none⟩), .agg (natC A)] rfl _ (fun w' hb => hin w' g gr gf (hg.below hb)) ?_
 simp only [Act.put, pu]
 refine qw_load (by rfl) 24 _ rfl _ rfl r4 4 _ Try.underlying24 size_nat ?_
 simp only [Act.put, pu]
 refine qw_loadm (by rfl) 33 _ rfl _ (0) rfl r7 (paC (some ⟨gL, 0, none⟩) 3 3 GG) (part_all _) _ Try.underlying33 rfl size_pa ?_
 simp only [Act.put, pu]
 refine qw_callK (by rfl) 21 _ _ rfl Try.func21 (by kernel_rfl) #[.agg (paC (some ⟨gL, 0, none⟩) 3 3 GG)] rfl _ (fun w' hb => hrq w' gL (rL.belowAll hb)) ?_
 simp only [Act.put, pu]
 refine qw_call (by rfl) 17 _ _ rfl Try.func17 (by kernel_rfl) #[.agg (natC A), .agg (natC QQ)] rfl _ hcm ?_
 simp only [Act.put, pu]
 refine qw_value (by rfl) (.bool BB) (exec_lt_b _ _ _ _ rfl C0 0 rfl rfl BB hBB) ?_
 simp only [Act.put, pu]
 refine qw_value (by rfl) (.bool true) (exec_eql_bool _ _ _ _ rfl BB rfl rfl Try.underlying4) ?_
 simp only [Act.put, pu]
 refine qw_pick true (v := .bool true) (by rfl) rfl rfl rfl ?_
 simp only [Act.put, pu]
 refine qw_move (by rfl) rfl rfl ?_
 simp only [Act.put, pu]
 refine qw_move (by rfl) rfl rfl ?_
 simp only [Act.put, pu]
 refine qw_load (by rfl) 24 _ rfl _ rfl r4 4 _ Try.underlying24 size_nat ?_
 simp only [Act.put, pu]
 refine qw_load (by rfl) 24 _ rfl _ rfl r5 4 _ Try.underlying24 size_nat ?_
 simp only [Act.put, pu]
 refine qw_callK (by rfl) 24 _ _ rfl Try.func24 (by kernel_rfl) #[.pointer (some ⟨g, 0, none⟩), .agg (natC A), .agg (natC B)] rfl _ (fun w' hb => had w' g gr gf (hg.below hb)) ?_
 simp only [Act.put, pu]
 refine qw_move (by rfl) rfl rfl ?_
 simp only [Act.put, pu]
 refine qw_move (by rfl) rfl rfl ?_
 simp only [Act.put, pu]
 refine qw_move (by rfl) rfl rfl ?_
 simp only [Act.put, pu]
 refine qw_call (by rfl) 26 _ _ rfl Try.func26 (by kernel_rfl) #[.int .i64 (X : Nat), .int .i64 (Y : Nat), .int .i64 (QQ : Nat)] rfl _ hadR ?_
 simp only [Act.put, pu]
 refine qw_call (by rfl) 25 _ _ rfl Try.func25 (by kernel_rfl) #[.int .i64 (S1 : Nat)] rfl _ hoS1 ?_
 simp only [Act.put, pu]
 refine qw_value (by rfl) (.bool true) (fun w' => (exec_eql_nat _ _ _ rfl S1 S1 rfl rfl w').trans (by rw [eqn_yes])) ?_
 simp only [Act.put, pu]
 refine qw_pick true (v := .bool true) (by rfl) rfl rfl rfl ?_
 simp only [Act.put, pu]
 refine qw_move (by rfl) rfl rfl ?_
 simp only [Act.put, pu]
 refine qw_move (by rfl) rfl rfl ?_
 simp only [Act.put, pu]
 refine qw_load (by rfl) 24 _ rfl _ rfl r4 4 _ Try.underlying24 size_nat ?_
 simp only [Act.put, pu]
 refine qw_load (by rfl) 24 _ rfl _ rfl r5 4 _ Try.underlying24 size_nat ?_
 simp only [Act.put, pu]
 refine qw_callK (by rfl) 27 _ _ rfl Try.func27 (by kernel_rfl) #[.pointer (some ⟨g, 0, none⟩), .agg (natC A), .agg (natC B)] rfl _ (fun w' hb => hsu w' g gr gf (hg.below hb)) ?_
 simp only [Act.put, pu]
 refine qw_move (by rfl) rfl rfl ?_
 simp only [Act.put, pu]
 refine qw_move (by rfl) rfl rfl ?_
 simp only [Act.put, pu]
 refine qw_move (by rfl) rfl rfl ?_
 simp only [Act.put, pu]
 refine qw_call (by rfl) 28 _ _ rfl Try.func28 (by kernel_rfl) #[.int .i64 (X : Nat), .int .i64 (Y : Nat), .int .i64 (QQ : Nat)] rfl _ hsuR ?_
 simp only [Act.put, pu]
 refine qw_call (by rfl) 25 _ _ rfl Try.func25 (by kernel_rfl) #[.int .i64 (S2 : Nat)] rfl _ hoS2 ?_
 simp only [Act.put, pu]
 refine qw_value (by rfl) (.bool true) (fun w' => (exec_eql_nat _ _ _ rfl S2 S2 rfl rfl w').trans (by rw [eqn_yes])) ?_
 simp only [Act.put, pu]
 refine qw_pick true (v := .bool true) (by rfl) rfl rfl rfl ?_
 simp only [Act.put, pu]
 refine qw_move (by rfl) rfl rfl ?_
 simp only [Act.put, pu]
 refine qw_move (by rfl) rfl rfl ?_
 simp only [Act.put, pu]
 refine qw_load (by rfl) 24 _ rfl _ rfl r4 4 _ Try.underlying24 size_nat ?_
 simp only [Act.put, pu]
 refine qw_load (by rfl) 24 _ rfl _ rfl r5 4 _ Try.underlying24 size_nat ?_
 simp only [Act.put, pu]
 refine qw_callK (by rfl) 29 _ _ rfl Try.func29 (by kernel_rfl) #[.pointer (some ⟨g, 0, none⟩), .agg (natC A), .agg (natC B)] rfl _ (fun w' hb => hmu w' g gr gf (hg.below hb)) ?_
 simp only [Act.put, pu]
 refine qw_move (by rfl) rfl rfl ?_
 simp only [Act.put, pu]
 refine qw_move (by rfl) rfl rfl ?_
 simp only [Act.put, pu]
 refine qw_move (by rfl) rfl rfl ?_
 simp only [Act.put, pu]
 refine qw_call (by rfl) 30 _ _ rfl Try.func30 (by kernel_rfl) #[.int .i64 (X : Nat), .int .i64 (Y : Nat), .int .i64 (QQ : Nat)] rfl _ hmuR ?_
 simp only [Act.put, pu]
 refine qw_call (by rfl) 25 _ _ rfl Try.func25 (by kernel_rfl) #[.int .i64 (S3 : Nat)] rfl _ hoS3 ?_
 simp only [Act.put, pu]
 refine qw_value (by rfl) (.bool true) (fun w' => (exec_eql_nat _ _ _ rfl S3 S3 rfl rfl w').trans (by rw [eqn_yes])) ?_
 simp only [Act.put, pu]
 refine qw_pick true (v := .bool true) (by rfl) rfl rfl rfl ?_
 simp only [Act.put, pu]
 refine qw_move (by rfl) rfl rfl ?_
 simp only [Act.put, pu]
 refine qw_move (by rfl) rfl rfl ?_
 simp only [Act.put, pu]
 refine qw_load (by rfl) 24 _ rfl _ rfl r4 4 _ Try.underlying24 size_nat ?_
 simp only [Act.put, pu]
 refine qw_callK (by rfl) 31 _ _ rfl Try.func31 (by kernel_rfl) #[.pointer (some ⟨g, 0, none⟩), .agg (natC A)] rfl _ (fun w' hb => hiv w' g gr gf (hg.below hb)) ?_
 simp only [Act.put, pu]
 refine qw_move (by rfl) rfl rfl ?_
 simp only [Act.put, pu]
 refine qw_move (by rfl) rfl rfl ?_
 simp only [Act.put, pu]
 refine qw_call (by rfl) 32 _ _ rfl Try.func32 (by kernel_rfl) #[.int .i64 (X : Nat), .int .i64 (QQ : Nat)] rfl _ hivR ?_
 simp only [Act.put, pu]
 refine qw_call (by rfl) 25 _ _ rfl Try.func25 (by kernel_rfl) #[.int .i64 (S4 : Nat)] rfl _ hoS4 ?_
 simp only [Act.put, pu]
 refine qw_value (by rfl) (.bool true) (fun w' => (exec_eql_nat _ _ _ rfl S4 S4 rfl rfl w').trans (by rw [eqn_yes])) ?_
 simp only [Act.put, pu]
 refine qw_pick true (v := .bool true) (by rfl) rfl rfl rfl ?_
 simp only [Act.put, pu]
 refine qw_move (by rfl) rfl rfl ?_
 simp only [Act.put, pu]
 refine qw_call (by rfl) 33 _ _ rfl Try.func33 (by kernel_rfl) #[] rfl _ haw ?_
 simp only [Act.put, pu]
 refine qw_pick true (v := .bool true) (by rfl) rfl rfl rfl ?_
 simp only [Act.put, pu]
 refine qw_asg (by rfl) rfl rfl ?_
 simp only [Act.put, pu]
 refine qw_nil ?_
 intro w9 hqb
 replace sb := below_on sb (Nat.le_refl _) hqb
 clear hqb
 go_wp2
 go_ret
 exact ⟨rfl, sb⟩
theorem walk (a0 : Int) (A B : Nat) (w : World) (_ : -9223372036854775808 ≤ a0 ∧ a0 ≤ 9223372036854775807) (hA : A < 2 ^ 256) (hB : B < 2 ^ 256) :
  Calls Try.prog 5 #[.int .i64 a0, .agg (natC A), .agg (natC B)] w fun e w' => e = .returned (.bool true) ∧ Below w.heap.size w w' := by
 obtain ⟨his, hlt, hG, hq62⟩ := pk2_gr (pkB a0)
 have pQ := (grN_primes his).2
 have hQ9 := ((grN_iff _ _ _ _).1 his).2.2.1
 have hnw : ∀ w' x, Row w' x (lksC 3 (lN (pk2 (pkB a0) otL leL)) twoA) 79 → _ := fun w' x r => gnew_yes 3 3 (some ⟨x, 0, none⟩) (pk2 (pkB a0) otG leG) _ _ x 0 _ _ w' (by decide) hG (lks_links r hlt) his
 have hrq : ∀ w' x, Row w' x (lksC 3 (lN (pk2 (pkB a0) otL leL)) twoA) 79 → _ := fun w' x r => rQ_any 3 3 (some ⟨x, 0, none⟩) (pk2 (pkB a0) otG leG) _ _ x 0 _ _ w' (by decide) (by decide) (lks_links r hlt)
 have hpk := rpick_any a0
 clear hlt his hG
 generalize lN (pk2 (pkB a0) otL leL) (3 - 1) = PP at *
 generalize lN (pk2 (pkB a0) otL leL) (3 - 2) = QQ at *
 generalize pk2 (pkB a0) otG leG = GG at *
 generalize lksC 3 (lN (pk2 (pkB a0) otL leL)) twoA = LK at *
 have q0 : 0 < QQ := by omega
 have q : FdQ QQ := ⟨⟨by omega, isP_odd pQ (by omega), pQ.1⟩, pQ⟩
 have lX := Nat.mod_lt A q0
 have lY := Nat.mod_lt B q0
 have lof : ∀ x w', x < QQ → Calls Try.prog 25 #[.int .i64 (x : Nat)] w' fun e w2 => e = .returned (.agg (natC x)) ∧ Below w'.heap.size w' w2 := fun x w' h => of8_any x w' (by omega)
 refine core a0 A B (A % QQ) (B % QQ) ((A + B) % QQ) (sbN A B QQ) (A * B % QQ) (invZ A QQ) GG PP QQ (cmpI A QQ) (decide (A < QQ)) LK w (cmp_neg A QQ) hpk hnw hrq (fun w' => ?_) (fun w' => rby_any A QQ w' hA q0 hq62) (fun w' => rby_any B QQ w' hB q0 hq62) (fun w' => rcmp_any A QQ w' hA q.m)
  (fun w' g gr gf h => fIn_ok A g gr gf _ _ _ w' hA q h) (fun w' g gr gf h => fAdd_ok A B g gr gf _ _ _ w' hA hB q h) (fun w' => ?_) (fun w' g gr gf h => fSub_ok A B g gr gf _ _ _ w' hA hB q h) (fun w' => ?_) (fun w' g gr gf h => fMul_ok A B g gr gf _ _ _ w' hA hB q h) (fun w' => ?_)
  (fun w' g gr gf h => fInv_ok A g gr gf _ _ _ w' hA q h) (fun w' => ?_) (fun w' => lof _ w' (Nat.mod_lt _ q0)) (fun w' => lof _ w' (Nat.mod_lt _ q0)) (fun w' => lof _ w' (Nat.mod_lt _ q0)) (fun w' => lof _ w' (inv_lt A QQ pQ))
 ·have := rlow_any QQ w' q.m
  rw [show lowI QQ = ((QQ : Nat) : Int) from if_pos (by omega), show lowB QQ = true from decide_eq_true (by omega)] at this
  exact this
 ·have := radd8_any (A % QQ) (B % QQ) QQ w' q0 (by omega) (by omega)
  rw [← Nat.add_mod] at this
  exact this
 ·have := rsub8_any (A % QQ) (B % QQ) QQ w' q0 lX lY hq62
  rw [sbN_mod] at this
  exact this
 ·have := rmul8_any (A % QQ) (B % QQ) QQ w' q0 hq62
  rw [← Nat.mul_mod] at this
  exact this
 ·have := rinv8_any (A % QQ) QQ w' pQ.1 hq62
  rw [← iv_is pQ] at this
  exact this
set_option maxRecDepth 100000 in
theorem lifted (os : Os) (started : os.Started) (H : Type) (enc : TypeId × Value → H) :
  ReturnsInHanded {} Try.checked os 5 .any (Rows.fieldDoesSpec.pre6 enc Try.prog Try.f5 Rows.fieldDoesRow.domain false) (Rows.fieldDoesSpec.post enc Try.prog Try.f5 false true false false) := by
 refine returnsInHanded_of_change (C := Try.checked) own started (by kernel_rfl) Try.func5
  (ChangeSpec.witness6 (enc := enc) (C := Try.checked) false ⟨#[], #[.int .i64 0, .agg #[.int .u64 0, .int .u64 0, .int .u64 0, .int .u64 0], .agg #[.int .u64 0, .int .u64 0, .int .u64 0, .int .u64 0]], []⟩ 8 (by kernel_rfl) (by kernel_rfl) (by kernel_rfl) (by kernel_rfl)) ?_
 intro W base args ds gs before hval0 hW hcnd _
 have hval : ∀ (j : Nat) t v, Try.f5.params[j]? = some t → args[j]? = some v → Value.okWide Try.prog W .any base t v := hval0
 have hW' := hW
 obtain ⟨p, q, hA0, hV, rfl, hfz, hnd⟩ := hW
 have hA : DataW.TrodAll enc Try.prog W 0 (fun _ => true) true Try.f5.params.toList args.toList ds p := hA0
 rw [Try.params5] at hA hval
 obtain ⟨v0, vs0, d0, ds0, p0, q0, hargs, rfl, rfl, h0, r0⟩ := trodAll_cons hA
 obtain ⟨v1, vs1, d1, ds1, p1, q1, rfl, rfl, rfl, h1, r1⟩ := trodAll_cons r0
 obtain ⟨v2, vs2, d2, ds2, p2, q2, rfl, rfl, rfl, h2, r2⟩ := trodAll_cons r1
 obtain ⟨rfl, rfl, rfl⟩ := trodAll_nil r2
 obtain rfl : args = #[v0, v1, v2] := by cases args; simp_all
 obtain ⟨rfl, rfl⟩ := trodVars_none hV
 have k0 := h0
 have lt0 := lt_of_trod h0
 obtain ⟨a0, rfl, rfl, rfl, w0⟩ := open_int Try.underlying3 (hval 0 3 v0 rfl rfl) h0
 have k1 := h1
 have lt1 := lt_of_trod h1
 obtain ⟨N1, hN1, rfl⟩ := open_nat (hval 1 24 v1 rfl rfl) h1
 have k2 := h2
 have lt2 := lt_of_trod h2
 obtain ⟨N2, hN2, rfl⟩ := open_nat (hval 2 24 v2 rfl rfl) h2
 clear hA0 hval0
 refine (walk a0 N1 N2 W (bounds_i64 w0) hN1 hN2).mono fun e W' ⟨he, bel⟩ => ?_
 subst he
 exact ⟨_, rfl, _, _, _, [], _, [], hW', trodAll_mk1 (shut_bool Try.underlying4 _), (trodAll_cons_mk (Below.trod laidOut (by kernel_rfl) (of_decide_eq_true (by kernel_rfl)) k0 bel lt0) (trodAll_cons_mk (Below.trod laidOut (by kernel_rfl) (of_decide_eq_true (by kernel_rfl)) k1 bel lt1) (trodAll_cons_mk (Below.trod laidOut (by kernel_rfl) (of_decide_eq_true (by kernel_rfl)) k2 bel lt2) trodAll_mk0))), rfl, bel.frame _, fun h => by cases h⟩
theorem over : Rows.fieldDoesRow.holds Try.pinned (OpenSpec.ofChange Rows.fieldDoesSpec) :=
 OpenClaim.holds_of_wide 5 Try.f5 rfl rfl rfl rfl rfl rfl rfl ⟨rfl, rfl, rfl, rfl, rfl⟩ rfl rfl rfl rfl rfl (by kernel_rfl) Try.func5 (by kernel_rfl)
  (of_decide_eq_true (by kernel_rfl)) (by unfold Func.isWrapper; first | (rw [if_pos (by decide +kernel)]; kernel_rfl) | (rw [if_neg (by decide +kernel)]; exact ⟨rfl, rfl⟩))
  (fun os started H enc _ => lifted os started H enc)
end fieldDoesP
/-- for every number and every two naturals: sums, differences, products and inverses by a small group's Q are the document's, and whether a natural is below Q; no condition. -/
theorem fieldDoes_holds : Rows.FieldDoesSaid := fieldDoesP.over
end Go.Proofs.Yteddgjoailpgaaa
