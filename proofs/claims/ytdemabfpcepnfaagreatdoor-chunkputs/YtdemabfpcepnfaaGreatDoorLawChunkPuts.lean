/- ChunkPuts: for every number, text and count: in one of the three groups the numbers of a value of up to 2^8 bytes, or of none, or that it is too long, are the document's, and how many they are; no condition. -/
import Derived.Test.YtdemabfpcepnfaaGreatDoorCD
import Derived.Test.YtdemabfpcepnfaaGreatDoorTpLaid
import Derived.Test.YtdemabfpcepnfaaGreatDoorCC
namespace Go.Proofs.YtdemabfpcepnfaaGreatDoor
open Go.ChangeShapes Go.WideShapes Go.ChangeAt Go.RowKit
open Go.ChangeMaps (open_string)
namespace chunkPutsP
set_option linter.unusedVariables false
theorem y_eqB {P : Program} {o : Oper} {ρ : Operand → Value} (t : TypeId) (x y : Operand) (u : TypeId) (ho : o.op = .binOp .eql t x y u) (n m : Bool) (hx : ρ x = .bool n) (hy : ρ y = .bool m) (hu : P.underlying t = some .bool) (b : Bool) (hb : (n == m) = b) (w : World) :
  (execOp ρ o).run P w = .ok (.value (.bool b)) w := by
 subst hb
 unfold execOp
 simp only [ho, hx, hy]
 cases n <;> cases m <;> simp [eqGuard, go_sem, hu]
set_option maxRecDepth 100000 in
set_option maxHeartbeats 2000000 in
theorem core0 (a0 x : Int) (s : List UInt8) (w : World) (h : 256 < s.length) :
  Calls Tryz.prog 3 #[.int .i64 a0, .string ⟨(s).toArray⟩, .int .i64 x] w fun e w' => e = .returned (.bool true) ∧ Below w.heap.size w w' := by
 have haw := awake11_any
 go_enter Tryz.func3, Tryz.ntmps3
 have sb := sbmk w
 (repeat ((fail_if_success with_reducible refine rg ?_); go_step))
 refine wp_region_pw ?_
 refine pw_value (by rfl) (.bool false) (fun _ => rfl) ?_
 simp only [Act.put, pu]
 refine pw_nil ?_
 (repeat ((fail_if_success with_reducible refine rg ?_); go_step))
 refine wp_region_pw ?_
 refine pw_mv (by rfl) rfl rfl ?_
 simp only [Act.put, pu]
 refine pw_value (by rfl) (.int .i64 s.length) (y_lenS _ _ rfl s rfl Tryz.underlying9) ?_
 simp only [Act.put, pu]
 refine pw_value (by rfl) (.bool true) (exec_gt_i _ _ _ _ rfl s.length 256 rfl rfl true (decide_eq_true (by omega))) ?_
 simp only [Act.put, pu]
 refine pw_nil ?_
 (repeat ((fail_if_success with_reducible refine rg ?_); go_step))
 refine wp_region_pw ?_
 refine pw_callB (by rfl) 6 _ _ rfl Tryz.func6 (by kernel_rfl) #[] rfl _ (haw _) ?_
 intro z2000 k
 simp only [Act.put, pu]
 replace sb := sb.trans (k.below w.heap.size sb.size (by simp <;> omega))
 clear k
 refine pw_as (by rfl) rfl rfl ?_
 simp only [Act.put, pu]
 refine pw_nil ?_
 go_wp2
 go_ret
 exact ⟨rfl, sb⟩
set_option maxRecDepth 100000 in
set_option maxHeartbeats 2000000 in
theorem core1 (a0 x : Int) (s : List UInt8) (N1 G3 GG PP QQ z m k : Nat) (F1 F2 : Nat → Nat) (LK : Array Value) (w : World) (hs : ¬ 256 < s.length) (hm : m ≤ 1000) (hk : k ≤ 1000) (hF1 : ∀ i, F1 i < 2 ^ 256) (hF2 : ∀ i, F2 i < 2 ^ 256)
  (hpa : ∀ w', Calls Tryz.prog 7 #[.int .i64 a0] w' fun e w2 => ∃ g, e = .returned (.agg (paC (some ⟨g, 0, none⟩) N1 N1 G3)) ∧ w'.heap.size ≤ g ∧ Row w2 g LK 81 ∧ Below w'.heap.size w' w2)
  (hnw : ∀ w' x, Row w' x LK 81 → Calls Tryz.prog 8 #[.agg (paC (some ⟨x, 0, none⟩) N1 N1 G3)] w' fun e w2 => ∃ g gr gf, e = .returned (.tuple #[.pointer (some ⟨g, 0, none⟩), .int .i64 0]) ∧ GrpAt w2 g gr gf PP QQ GG ∧ Below w'.heap.size w' w2)
  (hp1 : ∀ w' g gr gf, GrpAt w' g gr gf PP QQ GG → Calls Tryz.prog 9 #[.pointer (some ⟨g, 0, none⟩), .string ⟨(s).toArray⟩, .bool true] w' fun e w2 => e = .returned (.tuple #[.slice none 0 0, .int .i64 6]) ∧ Below w'.heap.size w' w2)
  (hr1 : ∀ w' x, Row w' x LK 81 → Calls Tryz.prog 10 #[.agg (paC (some ⟨x, 0, none⟩) N1 N1 G3), .string ⟨(s).toArray⟩, .bool true] w' fun e w2 => e = .returned (.tuple #[.slice none 0 0, .int .i64 6]) ∧ Below w'.heap.size w' w2)
  (hp2 : ∀ w' g gr gf, GrpAt w' g gr gf PP QQ GG → Calls Tryz.prog 9 #[.pointer (some ⟨g, 0, none⟩), .string ⟨(s).toArray⟩, .bool false] w' fun e w2 => ∃ g, e = .returned (.tuple #[.slice (some ⟨g, 0, none⟩) k k, .int .i64 0]) ∧ w'.heap.size ≤ g ∧ Row w2 g (nsC k F2) 26 ∧ Below w'.heap.size w' w2)
  (hr2 : ∀ w' x, Row w' x LK 81 → Calls Tryz.prog 10 #[.agg (paC (some ⟨x, 0, none⟩) N1 N1 G3), .string ⟨([] : List UInt8).toArray⟩, .bool false] w' fun e w2 => ∃ vl, e = .returned (.tuple #[vl, .int .i64 0]) ∧ OwnN w2 w'.heap.size vl k F2 ∧ Below w'.heap.size w' w2)
  (hct : ∀ w' g gr gf, GrpAt w' g gr gf PP QQ GG → ∀ y, Calls Tryz.prog 12 #[.pointer (some ⟨g, 0, none⟩), .int .i64 y] w' fun e w2 => e = .returned (.int .i64 (ckN z y)) ∧ Below w'.heap.size w' w2)
  (hrc : ∀ w' x, Row w' x LK 81 → ∀ y, Calls Tryz.prog 13 #[.agg (paC (some ⟨x, 0, none⟩) N1 N1 G3), .int .i64 y] w' fun e w2 => e = .returned (.int .i64 (ckN z y)) ∧ Below w'.heap.size w' w2) :
  Calls Tryz.prog 3 #[.int .i64 a0, .string ⟨(s).toArray⟩, .int .i64 x] w fun e w' => e = .returned (.bool true) ∧ Below w.heap.size w w' := by
 have haw := awake11_any
 go_enter Tryz.func3, Tryz.ntmps3
 have sb := sbmk w
 (repeat ((fail_if_success with_reducible refine rg ?_); go_step))
 refine wp_region_pw ?_
 refine pw_value (by rfl) (.bool false) (fun _ => rfl) ?_
 simp only [Act.put, pu]
 refine pw_nil ?_
 (repeat ((fail_if_success with_reducible refine rg ?_); go_step))
 refine wp_region_pw ?_
 refine pw_mv (by rfl) rfl rfl ?_
 simp only [Act.put, pu]
 refine pw_value (by rfl) (.int .i64 s.length) (y_lenS _ _ rfl s rfl Tryz.underlying9) ?_
 simp only [Act.put, pu]
 refine pw_value (by rfl) (.bool false) (exec_gt_i _ _ _ _ rfl s.length 256 rfl rfl false (decide_eq_false (by omega))) ?_
 simp only [Act.put, pu]
 refine pw_nil ?_
 (repeat ((fail_if_success with_reducible refine rg ?_); go_step))
 refine wp_region_pw ?_
 refine pw_mv (by rfl) rfl rfl ?_
 simp only [Act.put, pu]
 refine pw_callE (by rfl) 7 _ _ rfl Tryz.func7 (by kernel_rfl) #[.int .i64 a0] rfl (hpa _) ?_
 rintro _ z3001 ⟨gP, rfl, nP, rP, hb⟩
 refine ⟨_, rfl, ?_⟩
 simp only [Act.put, pu]
 have bP := Nat.le_trans sb.size nP
 clear nP
 have k := Kept.ofBelow hb
 clear hb
 replace sb := sb.trans (k.below w.heap.size sb.size (by simp <;> omega))
 clear k
 refine pw_new (by rfl) 28 rfl _ zero_pa ?_
 intro g7 z3002 n0 r7 k
 simp only [Act.put, pu]
 have dPx7 := Nat.lt_of_lt_of_le rP.lt n0
 have b7 := Nat.le_trans sb.size n0
 clear n0
 replace rP := k.row rP (by simp <;> omega)
 replace sb := sb.trans (k.below w.heap.size sb.size (by simp <;> omega))
 clear k
 refine pw_put (by rfl) 28 _ _ rfl _ rfl r7 (paC (some ⟨gP, 0, none⟩) N1 N1 G3) rfl (by exact size_pa) (by rfl) (pa_one _ _ _ _) ?_
 clear r7
 intro z3003 r7 k
 simp only [Act.put]
 replace rP := k.row rP (by simp <;> omega)
 replace sb := sb.trans (k.below w.heap.size sb.size (by simp <;> omega))
 clear k
 refine pw_nil ?_
 clear hpa
 (repeat ((fail_if_success with_reducible refine rg ?_); go_step))
 refine wp_region_pw ?_
 refine pw_loadm (by rfl) 28 _ rfl _ 0 rfl r7.r _ (part_all _) _ Tryz.underlying28 rfl size_pa ?_
 simp only [Act.put, pu]
 refine pw_callE (by rfl) 8 _ _ rfl Tryz.func8 (by kernel_rfl) #[.agg (paC (some ⟨gP, 0, none⟩) N1 N1 G3)] rfl (hnw _ gP rP) ?_
 rintro _ z4001 ⟨g, gr, gf, rfl, ⟨rG, rR, rF⟩, hb⟩
 refine ⟨_, rfl, ?_⟩
 simp only [Act.put, pu]
 have k := Kept.ofBelow hb
 clear hb
 replace r7 := k.row r7 (by simp <;> omega)
 replace rP := k.row rP (by simp <;> omega)
 replace sb := sb.trans (k.below w.heap.size sb.size (by simp <;> omega))
 clear k
 refine pw_mv (by rfl) rfl rfl ?_
 simp only [Act.put, pu]
 refine pw_ext (by rfl) rfl rfl rfl ?_
 simp only [Act.put, pu]
 refine pw_ext (by rfl) rfl rfl rfl ?_
 simp only [Act.put, pu]
 refine pw_as (by rfl) rfl rfl ?_
 simp only [Act.put, pu]
 refine pw_as (by rfl) rfl rfl ?_
 simp only [Act.put, pu]
 refine pw_nil ?_
 clear hnw
 (repeat ((fail_if_success with_reducible refine rg ?_); go_step))
 refine wp_region_pw ?_
 refine pw_mv (by rfl) rfl rfl ?_
 simp only [Act.put, pu]
 refine pw_mv (by rfl) rfl rfl ?_
 simp only [Act.put, pu]
 refine pw_callB (by rfl) 9 _ _ rfl Tryz.func9 (by kernel_rfl) #[.pointer (some ⟨g, 0, none⟩), .string ⟨(s).toArray⟩, .bool true] rfl _ (hp1 _ g gr gf ⟨rG, rR, rF⟩) ?_
 intro z5002 k
 simp only [Act.put, pu]
 replace r7 := k.row r7 (by simp <;> omega)
 replace rP := k.row rP (by simp <;> omega)
 replace rG := k.row rG (by simp <;> omega)
 replace rR := k.row rR (by simp <;> omega)
 replace rF := k.row rF (by simp <;> omega)
 replace sb := sb.trans (k.below w.heap.size sb.size (by simp <;> omega))
 clear k
 refine pw_mv (by rfl) rfl rfl ?_
 simp only [Act.put, pu]
 refine pw_ext (by rfl) rfl rfl rfl ?_
 simp only [Act.put, pu]
 refine pw_ext (by rfl) rfl rfl rfl ?_
 simp only [Act.put, pu]
 refine pw_as (by rfl) rfl rfl ?_
 simp only [Act.put, pu]
 refine pw_as (by rfl) rfl rfl ?_
 simp only [Act.put, pu]
 refine pw_nil ?_
 clear hp1
 (repeat ((fail_if_success with_reducible refine rg ?_); go_step))
 refine wp_region_pw ?_
 refine pw_loadm (by rfl) 28 _ rfl _ 0 rfl r7.r _ (part_all _) _ Tryz.underlying28 rfl size_pa ?_
 simp only [Act.put, pu]
 refine pw_mv (by rfl) rfl rfl ?_
 simp only [Act.put, pu]
 refine pw_callB (by rfl) 10 _ _ rfl Tryz.func10 (by kernel_rfl) #[.agg (paC (some ⟨gP, 0, none⟩) N1 N1 G3), .string ⟨(s).toArray⟩, .bool true] rfl _ (hr1 _ gP rP) ?_
 intro z6002 k
 simp only [Act.put, pu]
 replace r7 := k.row r7 (by simp <;> omega)
 replace rP := k.row rP (by simp <;> omega)
 replace rG := k.row rG (by simp <;> omega)
 replace rR := k.row rR (by simp <;> omega)
 replace rF := k.row rF (by simp <;> omega)
 replace sb := sb.trans (k.below w.heap.size sb.size (by simp <;> omega))
 clear k
 refine pw_mv (by rfl) rfl rfl ?_
 simp only [Act.put, pu]
 refine pw_ext (by rfl) rfl rfl rfl ?_
 simp only [Act.put, pu]
 refine pw_ext (by rfl) rfl rfl rfl ?_
 simp only [Act.put, pu]
 refine pw_as (by rfl) rfl rfl ?_
 simp only [Act.put, pu]
 refine pw_as (by rfl) rfl rfl ?_
 simp only [Act.put, pu]
 refine pw_nil ?_
 clear hr1
 (repeat ((fail_if_success with_reducible refine rg ?_); go_step))
 refine wp_region_pw ?_
 refine pw_mv (by rfl) rfl rfl ?_
 simp only [Act.put, pu]
 refine pw_mv (by rfl) rfl rfl ?_
 simp only [Act.put, pu]
 refine pw_callE (by rfl) 9 _ _ rfl Tryz.func9 (by kernel_rfl) #[.pointer (some ⟨g, 0, none⟩), .string ⟨(s).toArray⟩, .bool false] rfl (hp2 _ g gr gf ⟨rG, rR, rF⟩) ?_
 rintro _ z7002 ⟨gC, rfl, nC, rC, hb⟩
 refine ⟨_, rfl, ?_⟩
 simp only [Act.put, pu]
 have d7xC := Nat.lt_of_lt_of_le r7.lt nC
 have dPxC := Nat.lt_of_lt_of_le rP.lt nC
 have dGxC := Nat.lt_of_lt_of_le rG.lt nC
 have dRxC := Nat.lt_of_lt_of_le rR.lt nC
 have dFxC := Nat.lt_of_lt_of_le rF.lt nC
 have bC := Nat.le_trans sb.size nC
 clear nC
 have k := Kept.ofBelow hb
 clear hb
 replace r7 := k.row r7 (by simp <;> omega)
 replace rP := k.row rP (by simp <;> omega)
 replace rG := k.row rG (by simp <;> omega)
 replace rR := k.row rR (by simp <;> omega)
 replace rF := k.row rF (by simp <;> omega)
 replace sb := sb.trans (k.below w.heap.size sb.size (by simp <;> omega))
 clear k
 refine pw_mv (by rfl) rfl rfl ?_
 simp only [Act.put, pu]
 refine pw_ext (by rfl) rfl rfl rfl ?_
 simp only [Act.put, pu]
 refine pw_ext (by rfl) rfl rfl rfl ?_
 simp only [Act.put, pu]
 refine pw_as (by rfl) rfl rfl ?_
 simp only [Act.put, pu]
 refine pw_as (by rfl) rfl rfl ?_
 simp only [Act.put, pu]
 refine pw_nil ?_
 clear hp2
 (repeat ((fail_if_success with_reducible refine rg ?_); go_step))
 refine wp_region_pw ?_
 refine pw_loadm (by rfl) 28 _ rfl _ 0 rfl r7.r _ (part_all _) _ Tryz.underlying28 rfl size_pa ?_
 simp only [Act.put, pu]
 refine pw_callE (by rfl) 10 _ _ rfl Tryz.func10 (by kernel_rfl) #[.agg (paC (some ⟨gP, 0, none⟩) N1 N1 G3), .string ⟨([] : List UInt8).toArray⟩, .bool false] rfl (hr2 _ gP rP) ?_
 rintro _ z8001 ⟨vY, rfl, hY, hb⟩
 refine ⟨_, rfl, ?_⟩
 simp only [Act.put, pu]
 have ehYx7 := hY.low r7.lt
 have ehYxP := hY.low rP.lt
 have ehYxG := hY.low rG.lt
 have ehYxR := hY.low rR.lt
 have ehYxF := hY.low rF.lt
 have ehYxC := hY.low rC.lt
 have k := Kept.ofBelow hb
 clear hb
 replace r7 := k.row r7 (by simp <;> omega)
 replace rP := k.row rP (by simp <;> omega)
 replace rG := k.row rG (by simp <;> omega)
 replace rR := k.row rR (by simp <;> omega)
 replace rF := k.row rF (by simp <;> omega)
 replace rC := k.row rC (by simp <;> omega)
 replace sb := sb.trans (k.below w.heap.size sb.size (by simp <;> omega))
 clear k
 refine pw_mv (by rfl) rfl rfl ?_
 simp only [Act.put, pu]
 refine pw_ext (by rfl) rfl rfl rfl ?_
 simp only [Act.put, pu]
 refine pw_ext (by rfl) rfl rfl rfl ?_
 simp only [Act.put, pu]
 refine pw_as (by rfl) rfl rfl ?_
 simp only [Act.put, pu]
 refine pw_as (by rfl) rfl rfl ?_
 simp only [Act.put, pu]
 refine pw_nil ?_
 clear hr2
 obtain ⟨ay, cy, rfl⟩ := own_shape hY
 obtain ⟨_, gy, cury, hny⟩ := ownN_nats hY (fun i _ => hF2 i)
 have hnc := nats_row rC (fun i _ => hF2 i)
 clear hY rC
 have hG : GrpAt _ g gr gf PP QQ GG := ⟨rG, rR, rF⟩
 (repeat ((fail_if_success with_reducible refine rg ?_); go_step))
 refine wp_region_qw (by kernel_rfl) (by kernel_rfl) ?_
 refine qw_move (by rfl) rfl rfl ?_
 simp only [Act.put, pu]
 refine qw_value (by rfl) (.bool true) ((exec_eql_k .i64 _ _ _ _ rfl 0 0 rfl rfl true rfl)) ?_
 simp only [Act.put, pu]
 refine qw_move (by rfl) rfl rfl ?_
 simp only [Act.put, pu]
 refine qw_move (by rfl) rfl rfl ?_
 simp only [Act.put, pu]
 refine qw_move (by rfl) rfl rfl ?_
 simp only [Act.put, pu]
 refine qw_callK (by rfl) 11 _ _ rfl Tryz.func11 (by kernel_rfl) #[.slice none 0 0, .slice none 0 0] rfl _ (fun w' hb => rsame_yes 0 0 0 none none (fun _ => 0) 0 0 0 0 #[] #[] 0 0 w' (by decide) ⟨.inl rfl, fun i hi => absurd hi (Nat.not_lt_zero _)⟩ ⟨.inl rfl, fun i hi => absurd hi (Nat.not_lt_zero _)⟩) ?_
 simp only [Act.put, pu]
 refine qw_pick true (v := .bool true) (by rfl) rfl rfl rfl ?_
 simp only [Act.put, pu]
 refine qw_move (by rfl) rfl rfl ?_
 simp only [Act.put, pu]
 refine qw_move (by rfl) rfl rfl ?_
 simp only [Act.put, pu]
 refine qw_move (by rfl) rfl rfl ?_
 simp only [Act.put, pu]
 refine qw_value (by rfl) (.bool true) ((exec_eql_k .i64 _ _ _ _ rfl 6 6 rfl rfl true rfl)) ?_
 simp only [Act.put, pu]
 refine qw_pick true (v := .bool true) (by rfl) rfl rfl rfl ?_
 simp only [Act.put, pu]
 refine qw_move (by rfl) rfl rfl ?_
 simp only [Act.put, pu]
 refine qw_move (by rfl) rfl rfl ?_
 simp only [Act.put, pu]
 refine qw_move (by rfl) rfl rfl ?_
 simp only [Act.put, pu]
 refine qw_callK (by rfl) 11 _ _ rfl Tryz.func11 (by kernel_rfl) #[.slice (some ⟨gC, 0, none⟩) k k, .slice ay k cy] rfl _ (fun w' hb => rsame_yes k k cy _ ay F2 gC 0 gy 0 _ _ _ _ w' (by omega) (hnc.below hb) (hny.below hb)) ?_
 simp only [Act.put, pu]
 refine qw_pick true (v := .bool true) (by rfl) rfl rfl rfl ?_
 simp only [Act.put, pu]
 refine qw_move (by rfl) rfl rfl ?_
 simp only [Act.put, pu]
 refine qw_move (by rfl) rfl rfl ?_
 simp only [Act.put, pu]
 refine qw_move (by rfl) rfl rfl ?_
 simp only [Act.put, pu]
 refine qw_value (by rfl) (.bool true) ((exec_eql_k .i64 _ _ _ _ rfl 0 0 rfl rfl true rfl)) ?_
 simp only [Act.put, pu]
 refine qw_pick true (v := .bool true) (by rfl) rfl rfl rfl ?_
 simp only [Act.put, pu]
 refine qw_move (by rfl) rfl rfl ?_
 simp only [Act.put, pu]
 refine qw_move (by rfl) rfl rfl ?_
 simp only [Act.put, pu]
 refine qw_move (by rfl) rfl rfl ?_
 simp only [Act.put, pu]
 refine qw_callK (by rfl) 12 _ _ rfl Tryz.func12 (by kernel_rfl) #[.pointer (some ⟨g, 0, none⟩), .int .i64 x] rfl _ (fun w' hb => hct w' g gr gf (hG.below hb) x) ?_
 simp only [Act.put, pu]
 refine qw_loadm (by rfl) 28 _ rfl _ (0) rfl r7 (paC (some ⟨gP, 0, none⟩) N1 N1 G3) (part_all _) _ Tryz.underlying28 rfl size_pa ?_
 simp only [Act.put, pu]
 refine qw_move (by rfl) rfl rfl ?_
 simp only [Act.put, pu]
 refine qw_callK (by rfl) 13 _ _ rfl Tryz.func13 (by kernel_rfl) #[.agg (paC (some ⟨gP, 0, none⟩) N1 N1 G3), .int .i64 x] rfl _ (fun w' hb => hrc w' gP (rP.belowAll hb) x) ?_
 simp only [Act.put, pu]
 refine qw_value (by rfl) (.bool true) ((exec_eql_k .i64 _ _ _ _ rfl (ckN z x) (ckN z x) rfl rfl true (decide_eq_true rfl))) ?_
 simp only [Act.put, pu]
 refine qw_pick true (v := .bool true) (by rfl) rfl rfl rfl ?_
 simp only [Act.put, pu]
 refine qw_move (by rfl) rfl rfl ?_
 simp only [Act.put, pu]
 refine qw_move (by rfl) rfl rfl ?_
 simp only [Act.put, pu]
 refine qw_value (by rfl) (.bool true) ((exec_neq_k .i64 _ _ _ _ rfl 6 0 rfl rfl true rfl)) ?_
 simp only [Act.put, pu]
 refine qw_move (by rfl) rfl rfl ?_
 simp only [Act.put, pu]
 refine qw_skip (by rfl) ?_
 simp only [Act.put, pu]
 refine qw_skip (by rfl) ?_
 simp only [Act.put, pu]
 refine qw_skip (by rfl) ?_
 simp only [Act.put, pu]
 refine qw_skip (by rfl) ?_
 simp only [Act.put, pu]
 refine qw_skip (by rfl) ?_
 simp only [Act.put, pu]
 refine qw_skip (by rfl) ?_
 simp only [Act.put, pu]
 refine qw_skip (by rfl) ?_
 simp only [Act.put, pu]
 refine qw_pick true (v := .bool true) (by rfl) rfl rfl rfl ?_
 simp only [Act.put, pu]
 refine qw_pick true (v := .bool true) (by rfl) rfl rfl rfl ?_
 simp only [Act.put, pu]
 refine qw_move (by rfl) rfl rfl ?_
 simp only [Act.put, pu]
 refine qw_call (by rfl) 6 _ _ rfl Tryz.func6 (by kernel_rfl) #[] rfl _ haw ?_
 simp only [Act.put, pu]
 refine qw_pick true (v := .bool true) (by rfl) rfl rfl rfl ?_
 simp only [Act.put, pu]
 refine qw_asg (by rfl) rfl rfl ?_
 simp only [Act.put, pu]
 refine qw_nil ?_
 intro w9 hqb
 replace sb := below_on sb (Nat.le_refl _) hqb
 clear hqb
 go_wp2
 go_ret
 exact ⟨rfl, sb⟩
set_option maxRecDepth 100000 in
set_option maxHeartbeats 2000000 in
theorem core2 (a0 x : Int) (s : List UInt8) (N1 G3 GG PP QQ z m k : Nat) (F1 F2 : Nat → Nat) (LK : Array Value) (w : World) (hs : ¬ 256 < s.length) (hm : m ≤ 1000) (hk : k ≤ 1000) (hF1 : ∀ i, F1 i < 2 ^ 256) (hF2 : ∀ i, F2 i < 2 ^ 256) (hcn : ckN z (s.length : Int) = (m : Int))
  (hpa : ∀ w', Calls Tryz.prog 7 #[.int .i64 a0] w' fun e w2 => ∃ g, e = .returned (.agg (paC (some ⟨g, 0, none⟩) N1 N1 G3)) ∧ w'.heap.size ≤ g ∧ Row w2 g LK 81 ∧ Below w'.heap.size w' w2)
  (hnw : ∀ w' x, Row w' x LK 81 → Calls Tryz.prog 8 #[.agg (paC (some ⟨x, 0, none⟩) N1 N1 G3)] w' fun e w2 => ∃ g gr gf, e = .returned (.tuple #[.pointer (some ⟨g, 0, none⟩), .int .i64 0]) ∧ GrpAt w2 g gr gf PP QQ GG ∧ Below w'.heap.size w' w2)
  (hp1 : ∀ w' g gr gf, GrpAt w' g gr gf PP QQ GG → Calls Tryz.prog 9 #[.pointer (some ⟨g, 0, none⟩), .string ⟨(s).toArray⟩, .bool true] w' fun e w2 => ∃ g, e = .returned (.tuple #[.slice (some ⟨g, 0, none⟩) m m, .int .i64 0]) ∧ w'.heap.size ≤ g ∧ Row w2 g (nsC m F1) 26 ∧ Below w'.heap.size w' w2)
  (hr1 : ∀ w' x, Row w' x LK 81 → Calls Tryz.prog 10 #[.agg (paC (some ⟨x, 0, none⟩) N1 N1 G3), .string ⟨(s).toArray⟩, .bool true] w' fun e w2 => ∃ vl, e = .returned (.tuple #[vl, .int .i64 0]) ∧ OwnN w2 w'.heap.size vl m F1 ∧ Below w'.heap.size w' w2)
  (hp2 : ∀ w' g gr gf, GrpAt w' g gr gf PP QQ GG → Calls Tryz.prog 9 #[.pointer (some ⟨g, 0, none⟩), .string ⟨(s).toArray⟩, .bool false] w' fun e w2 => ∃ g, e = .returned (.tuple #[.slice (some ⟨g, 0, none⟩) k k, .int .i64 0]) ∧ w'.heap.size ≤ g ∧ Row w2 g (nsC k F2) 26 ∧ Below w'.heap.size w' w2)
  (hr2 : ∀ w' x, Row w' x LK 81 → Calls Tryz.prog 10 #[.agg (paC (some ⟨x, 0, none⟩) N1 N1 G3), .string ⟨([] : List UInt8).toArray⟩, .bool false] w' fun e w2 => ∃ vl, e = .returned (.tuple #[vl, .int .i64 0]) ∧ OwnN w2 w'.heap.size vl k F2 ∧ Below w'.heap.size w' w2)
  (hct : ∀ w' g gr gf, GrpAt w' g gr gf PP QQ GG → ∀ y, Calls Tryz.prog 12 #[.pointer (some ⟨g, 0, none⟩), .int .i64 y] w' fun e w2 => e = .returned (.int .i64 (ckN z y)) ∧ Below w'.heap.size w' w2)
  (hrc : ∀ w' x, Row w' x LK 81 → ∀ y, Calls Tryz.prog 13 #[.agg (paC (some ⟨x, 0, none⟩) N1 N1 G3), .int .i64 y] w' fun e w2 => e = .returned (.int .i64 (ckN z y)) ∧ Below w'.heap.size w' w2) :
  Calls Tryz.prog 3 #[.int .i64 a0, .string ⟨(s).toArray⟩, .int .i64 x] w fun e w' => e = .returned (.bool true) ∧ Below w.heap.size w w' := by
 have haw := awake11_any
 go_enter Tryz.func3, Tryz.ntmps3
 have sb := sbmk w
 (repeat ((fail_if_success with_reducible refine rg ?_); go_step))
 refine wp_region_pw ?_
 refine pw_value (by rfl) (.bool false) (fun _ => rfl) ?_
 simp only [Act.put, pu]
 refine pw_nil ?_
 (repeat ((fail_if_success with_reducible refine rg ?_); go_step))
 refine wp_region_pw ?_
 refine pw_mv (by rfl) rfl rfl ?_
 simp only [Act.put, pu]
 refine pw_value (by rfl) (.int .i64 s.length) (y_lenS _ _ rfl s rfl Tryz.underlying9) ?_
 simp only [Act.put, pu]
 refine pw_value (by rfl) (.bool false) (exec_gt_i _ _ _ _ rfl s.length 256 rfl rfl false (decide_eq_false (by omega))) ?_
 simp only [Act.put, pu]
 refine pw_nil ?_
 (repeat ((fail_if_success with_reducible refine rg ?_); go_step))
 refine wp_region_pw ?_
 refine pw_mv (by rfl) rfl rfl ?_
 simp only [Act.put, pu]
 refine pw_callE (by rfl) 7 _ _ rfl Tryz.func7 (by kernel_rfl) #[.int .i64 a0] rfl (hpa _) ?_
 rintro _ z3001 ⟨gP, rfl, nP, rP, hb⟩
 refine ⟨_, rfl, ?_⟩
 simp only [Act.put, pu]
 have bP := Nat.le_trans sb.size nP
 clear nP
 have k := Kept.ofBelow hb
 clear hb
 replace sb := sb.trans (k.below w.heap.size sb.size (by simp <;> omega))
 clear k
 refine pw_new (by rfl) 28 rfl _ zero_pa ?_
 intro g7 z3002 n0 r7 k
 simp only [Act.put, pu]
 have dPx7 := Nat.lt_of_lt_of_le rP.lt n0
 have b7 := Nat.le_trans sb.size n0
 clear n0
 replace rP := k.row rP (by simp <;> omega)
 replace sb := sb.trans (k.below w.heap.size sb.size (by simp <;> omega))
 clear k
 refine pw_put (by rfl) 28 _ _ rfl _ rfl r7 (paC (some ⟨gP, 0, none⟩) N1 N1 G3) rfl (by exact size_pa) (by rfl) (pa_one _ _ _ _) ?_
 clear r7
 intro z3003 r7 k
 simp only [Act.put]
 replace rP := k.row rP (by simp <;> omega)
 replace sb := sb.trans (k.below w.heap.size sb.size (by simp <;> omega))
 clear k
 refine pw_nil ?_
 clear hpa
 (repeat ((fail_if_success with_reducible refine rg ?_); go_step))
 refine wp_region_pw ?_
 refine pw_loadm (by rfl) 28 _ rfl _ 0 rfl r7.r _ (part_all _) _ Tryz.underlying28 rfl size_pa ?_
 simp only [Act.put, pu]
 refine pw_callE (by rfl) 8 _ _ rfl Tryz.func8 (by kernel_rfl) #[.agg (paC (some ⟨gP, 0, none⟩) N1 N1 G3)] rfl (hnw _ gP rP) ?_
 rintro _ z4001 ⟨g, gr, gf, rfl, ⟨rG, rR, rF⟩, hb⟩
 refine ⟨_, rfl, ?_⟩
 simp only [Act.put, pu]
 have k := Kept.ofBelow hb
 clear hb
 replace r7 := k.row r7 (by simp <;> omega)
 replace rP := k.row rP (by simp <;> omega)
 replace sb := sb.trans (k.below w.heap.size sb.size (by simp <;> omega))
 clear k
 refine pw_mv (by rfl) rfl rfl ?_
 simp only [Act.put, pu]
 refine pw_ext (by rfl) rfl rfl rfl ?_
 simp only [Act.put, pu]
 refine pw_ext (by rfl) rfl rfl rfl ?_
 simp only [Act.put, pu]
 refine pw_as (by rfl) rfl rfl ?_
 simp only [Act.put, pu]
 refine pw_as (by rfl) rfl rfl ?_
 simp only [Act.put, pu]
 refine pw_nil ?_
 clear hnw
 (repeat ((fail_if_success with_reducible refine rg ?_); go_step))
 refine wp_region_pw ?_
 refine pw_mv (by rfl) rfl rfl ?_
 simp only [Act.put, pu]
 refine pw_mv (by rfl) rfl rfl ?_
 simp only [Act.put, pu]
 refine pw_callE (by rfl) 9 _ _ rfl Tryz.func9 (by kernel_rfl) #[.pointer (some ⟨g, 0, none⟩), .string ⟨(s).toArray⟩, .bool true] rfl (hp1 _ g gr gf ⟨rG, rR, rF⟩) ?_
 rintro _ z5002 ⟨gA, rfl, nA, rA, hb⟩
 refine ⟨_, rfl, ?_⟩
 simp only [Act.put, pu]
 have d7xA := Nat.lt_of_lt_of_le r7.lt nA
 have dPxA := Nat.lt_of_lt_of_le rP.lt nA
 have dGxA := Nat.lt_of_lt_of_le rG.lt nA
 have dRxA := Nat.lt_of_lt_of_le rR.lt nA
 have dFxA := Nat.lt_of_lt_of_le rF.lt nA
 have bA := Nat.le_trans sb.size nA
 clear nA
 have k := Kept.ofBelow hb
 clear hb
 replace r7 := k.row r7 (by simp <;> omega)
 replace rP := k.row rP (by simp <;> omega)
 replace rG := k.row rG (by simp <;> omega)
 replace rR := k.row rR (by simp <;> omega)
 replace rF := k.row rF (by simp <;> omega)
 replace sb := sb.trans (k.below w.heap.size sb.size (by simp <;> omega))
 clear k
 refine pw_mv (by rfl) rfl rfl ?_
 simp only [Act.put, pu]
 refine pw_ext (by rfl) rfl rfl rfl ?_
 simp only [Act.put, pu]
 refine pw_ext (by rfl) rfl rfl rfl ?_
 simp only [Act.put, pu]
 refine pw_as (by rfl) rfl rfl ?_
 simp only [Act.put, pu]
 refine pw_as (by rfl) rfl rfl ?_
 simp only [Act.put, pu]
 refine pw_nil ?_
 clear hp1
 (repeat ((fail_if_success with_reducible refine rg ?_); go_step))
 refine wp_region_pw ?_
 refine pw_loadm (by rfl) 28 _ rfl _ 0 rfl r7.r _ (part_all _) _ Tryz.underlying28 rfl size_pa ?_
 simp only [Act.put, pu]
 refine pw_mv (by rfl) rfl rfl ?_
 simp only [Act.put, pu]
 refine pw_callE (by rfl) 10 _ _ rfl Tryz.func10 (by kernel_rfl) #[.agg (paC (some ⟨gP, 0, none⟩) N1 N1 G3), .string ⟨(s).toArray⟩, .bool true] rfl (hr1 _ gP rP) ?_
 rintro _ z6002 ⟨vX, rfl, hX, hb⟩
 refine ⟨_, rfl, ?_⟩
 simp only [Act.put, pu]
 have ehXx7 := hX.low r7.lt
 have ehXxP := hX.low rP.lt
 have ehXxG := hX.low rG.lt
 have ehXxR := hX.low rR.lt
 have ehXxF := hX.low rF.lt
 have ehXxA := hX.low rA.lt
 have k := Kept.ofBelow hb
 clear hb
 replace r7 := k.row r7 (by simp <;> omega)
 replace rP := k.row rP (by simp <;> omega)
 replace rG := k.row rG (by simp <;> omega)
 replace rR := k.row rR (by simp <;> omega)
 replace rF := k.row rF (by simp <;> omega)
 replace rA := k.row rA (by simp <;> omega)
 replace sb := sb.trans (k.below w.heap.size sb.size (by simp <;> omega))
 clear k
 refine pw_mv (by rfl) rfl rfl ?_
 simp only [Act.put, pu]
 refine pw_ext (by rfl) rfl rfl rfl ?_
 simp only [Act.put, pu]
 refine pw_ext (by rfl) rfl rfl rfl ?_
 simp only [Act.put, pu]
 refine pw_as (by rfl) rfl rfl ?_
 simp only [Act.put, pu]
 refine pw_as (by rfl) rfl rfl ?_
 simp only [Act.put, pu]
 refine pw_nil ?_
 clear hr1
 obtain ⟨ax, cx, rfl⟩ := own_shape hX
 obtain ⟨_, gx, curx, hnx⟩ := ownN_nats hX (fun i _ => hF1 i)
 have hna := nats_row rA (fun i _ => hF1 i)
 clear hX rA
 (repeat ((fail_if_success with_reducible refine rg ?_); go_step))
 refine wp_region_pw ?_
 refine pw_mv (by rfl) rfl rfl ?_
 simp only [Act.put, pu]
 refine pw_mv (by rfl) rfl rfl ?_
 simp only [Act.put, pu]
 refine pw_callE (by rfl) 9 _ _ rfl Tryz.func9 (by kernel_rfl) #[.pointer (some ⟨g, 0, none⟩), .string ⟨(s).toArray⟩, .bool false] rfl (hp2 _ g gr gf ⟨rG, rR, rF⟩) ?_
 rintro _ z7002 ⟨gC, rfl, nC, rC, hb⟩
 refine ⟨_, rfl, ?_⟩
 simp only [Act.put, pu]
 have d7xC := Nat.lt_of_lt_of_le r7.lt nC
 have dPxC := Nat.lt_of_lt_of_le rP.lt nC
 have dGxC := Nat.lt_of_lt_of_le rG.lt nC
 have dRxC := Nat.lt_of_lt_of_le rR.lt nC
 have dFxC := Nat.lt_of_lt_of_le rF.lt nC
 have bC := Nat.le_trans sb.size nC
 clear nC
 have k := Kept.ofBelow hb
 clear hb
 replace r7 := k.row r7 (by simp <;> omega)
 replace rP := k.row rP (by simp <;> omega)
 replace rG := k.row rG (by simp <;> omega)
 replace rR := k.row rR (by simp <;> omega)
 replace rF := k.row rF (by simp <;> omega)
 replace hna := hna.below k.nil
 replace hnx := hnx.below k.nil
 replace sb := sb.trans (k.below w.heap.size sb.size (by simp <;> omega))
 clear k
 refine pw_mv (by rfl) rfl rfl ?_
 simp only [Act.put, pu]
 refine pw_ext (by rfl) rfl rfl rfl ?_
 simp only [Act.put, pu]
 refine pw_ext (by rfl) rfl rfl rfl ?_
 simp only [Act.put, pu]
 refine pw_as (by rfl) rfl rfl ?_
 simp only [Act.put, pu]
 refine pw_as (by rfl) rfl rfl ?_
 simp only [Act.put, pu]
 refine pw_nil ?_
 clear hp2
 (repeat ((fail_if_success with_reducible refine rg ?_); go_step))
 refine wp_region_pw ?_
 refine pw_loadm (by rfl) 28 _ rfl _ 0 rfl r7.r _ (part_all _) _ Tryz.underlying28 rfl size_pa ?_
 simp only [Act.put, pu]
 refine pw_callE (by rfl) 10 _ _ rfl Tryz.func10 (by kernel_rfl) #[.agg (paC (some ⟨gP, 0, none⟩) N1 N1 G3), .string ⟨([] : List UInt8).toArray⟩, .bool false] rfl (hr2 _ gP rP) ?_
 rintro _ z8001 ⟨vY, rfl, hY, hb⟩
 refine ⟨_, rfl, ?_⟩
 simp only [Act.put, pu]
 have ehYx7 := hY.low r7.lt
 have ehYxP := hY.low rP.lt
 have ehYxG := hY.low rG.lt
 have ehYxR := hY.low rR.lt
 have ehYxF := hY.low rF.lt
 have ehYxC := hY.low rC.lt
 have k := Kept.ofBelow hb
 clear hb
 replace r7 := k.row r7 (by simp <;> omega)
 replace rP := k.row rP (by simp <;> omega)
 replace rG := k.row rG (by simp <;> omega)
 replace rR := k.row rR (by simp <;> omega)
 replace rF := k.row rF (by simp <;> omega)
 replace hna := hna.below k.nil
 replace hnx := hnx.below k.nil
 replace rC := k.row rC (by simp <;> omega)
 replace sb := sb.trans (k.below w.heap.size sb.size (by simp <;> omega))
 clear k
 refine pw_mv (by rfl) rfl rfl ?_
 simp only [Act.put, pu]
 refine pw_ext (by rfl) rfl rfl rfl ?_
 simp only [Act.put, pu]
 refine pw_ext (by rfl) rfl rfl rfl ?_
 simp only [Act.put, pu]
 refine pw_as (by rfl) rfl rfl ?_
 simp only [Act.put, pu]
 refine pw_as (by rfl) rfl rfl ?_
 simp only [Act.put, pu]
 refine pw_nil ?_
 clear hr2
 obtain ⟨ay, cy, rfl⟩ := own_shape hY
 obtain ⟨_, gy, cury, hny⟩ := ownN_nats hY (fun i _ => hF2 i)
 have hnc := nats_row rC (fun i _ => hF2 i)
 clear hY rC
 have hG : GrpAt _ g gr gf PP QQ GG := ⟨rG, rR, rF⟩
 (repeat ((fail_if_success with_reducible refine rg ?_); go_step))
 refine wp_region_qw (by kernel_rfl) (by kernel_rfl) ?_
 refine qw_move (by rfl) rfl rfl ?_
 simp only [Act.put, pu]
 refine qw_value (by rfl) (.bool true) ((exec_eql_k .i64 _ _ _ _ rfl 0 0 rfl rfl true rfl)) ?_
 simp only [Act.put, pu]
 refine qw_move (by rfl) rfl rfl ?_
 simp only [Act.put, pu]
 refine qw_move (by rfl) rfl rfl ?_
 simp only [Act.put, pu]
 refine qw_move (by rfl) rfl rfl ?_
 simp only [Act.put, pu]
 refine qw_callK (by rfl) 11 _ _ rfl Tryz.func11 (by kernel_rfl) #[.slice (some ⟨gA, 0, none⟩) m m, .slice ax m cx] rfl _ (fun w' hb => rsame_yes m m cx _ ax F1 gA 0 gx 0 _ _ _ _ w' (by omega) (hna.below hb) (hnx.below hb)) ?_
 simp only [Act.put, pu]
 refine qw_pick true (v := .bool true) (by rfl) rfl rfl rfl ?_
 simp only [Act.put, pu]
 refine qw_move (by rfl) rfl rfl ?_
 simp only [Act.put, pu]
 refine qw_move (by rfl) rfl rfl ?_
 simp only [Act.put, pu]
 refine qw_move (by rfl) rfl rfl ?_
 simp only [Act.put, pu]
 refine qw_value (by rfl) (.bool true) ((exec_eql_k .i64 _ _ _ _ rfl 0 0 rfl rfl true rfl)) ?_
 simp only [Act.put, pu]
 refine qw_pick true (v := .bool true) (by rfl) rfl rfl rfl ?_
 simp only [Act.put, pu]
 refine qw_move (by rfl) rfl rfl ?_
 simp only [Act.put, pu]
 refine qw_move (by rfl) rfl rfl ?_
 simp only [Act.put, pu]
 refine qw_move (by rfl) rfl rfl ?_
 simp only [Act.put, pu]
 refine qw_callK (by rfl) 11 _ _ rfl Tryz.func11 (by kernel_rfl) #[.slice (some ⟨gC, 0, none⟩) k k, .slice ay k cy] rfl _ (fun w' hb => rsame_yes k k cy _ ay F2 gC 0 gy 0 _ _ _ _ w' (by omega) (hnc.below hb) (hny.below hb)) ?_
 simp only [Act.put, pu]
 refine qw_pick true (v := .bool true) (by rfl) rfl rfl rfl ?_
 simp only [Act.put, pu]
 refine qw_move (by rfl) rfl rfl ?_
 simp only [Act.put, pu]
 refine qw_move (by rfl) rfl rfl ?_
 simp only [Act.put, pu]
 refine qw_move (by rfl) rfl rfl ?_
 simp only [Act.put, pu]
 refine qw_value (by rfl) (.bool true) ((exec_eql_k .i64 _ _ _ _ rfl 0 0 rfl rfl true rfl)) ?_
 simp only [Act.put, pu]
 refine qw_pick true (v := .bool true) (by rfl) rfl rfl rfl ?_
 simp only [Act.put, pu]
 refine qw_move (by rfl) rfl rfl ?_
 simp only [Act.put, pu]
 refine qw_move (by rfl) rfl rfl ?_
 simp only [Act.put, pu]
 refine qw_move (by rfl) rfl rfl ?_
 simp only [Act.put, pu]
 refine qw_callK (by rfl) 12 _ _ rfl Tryz.func12 (by kernel_rfl) #[.pointer (some ⟨g, 0, none⟩), .int .i64 x] rfl _ (fun w' hb => hct w' g gr gf (hG.below hb) x) ?_
 simp only [Act.put, pu]
 refine qw_loadm (by rfl) 28 _ rfl _ (0) rfl r7 (paC (some ⟨gP, 0, none⟩) N1 N1 G3) (part_all _) _ Tryz.underlying28 rfl size_pa ?_
 simp only [Act.put, pu]
 refine qw_move (by rfl) rfl rfl ?_
 simp only [Act.put, pu]
 refine qw_callK (by rfl) 13 _ _ rfl Tryz.func13 (by kernel_rfl) #[.agg (paC (some ⟨gP, 0, none⟩) N1 N1 G3), .int .i64 x] rfl _ (fun w' hb => hrc w' gP (rP.belowAll hb) x) ?_
 simp only [Act.put, pu]
 refine qw_value (by rfl) (.bool true) ((exec_eql_k .i64 _ _ _ _ rfl (ckN z x) (ckN z x) rfl rfl true (decide_eq_true rfl))) ?_
 simp only [Act.put, pu]
 refine qw_pick true (v := .bool true) (by rfl) rfl rfl rfl ?_
 simp only [Act.put, pu]
 refine qw_move (by rfl) rfl rfl ?_
 simp only [Act.put, pu]
 refine qw_move (by rfl) rfl rfl ?_
 simp only [Act.put, pu]
 refine qw_value (by rfl) (.bool false) ((exec_neq_k .i64 _ _ _ _ rfl 0 0 rfl rfl false rfl)) ?_
 simp only [Act.put, pu]
 refine qw_move (by rfl) rfl rfl ?_
 simp only [Act.put, pu]
 refine qw_move (by rfl) rfl rfl ?_
 simp only [Act.put, pu]
 refine qw_move (by rfl) rfl rfl ?_
 simp only [Act.put, pu]
 refine qw_value (by rfl) (.int .i64 s.length) ((y_lenS _ _ rfl s rfl Tryz.underlying9)) ?_
 simp only [Act.put, pu]
 refine qw_callK (by rfl) 12 _ _ rfl Tryz.func12 (by kernel_rfl) #[.pointer (some ⟨g, 0, none⟩), .int .i64 (s.length : Nat)] rfl _ (fun w' hb => hct w' g gr gf (hG.below hb) (s.length : Nat)) ?_
 simp only [Act.put, pu]
 refine qw_move (by rfl) rfl rfl ?_
 simp only [Act.put, pu]
 refine qw_value (by rfl) (.int .i64 m) ((exec_len_s 34 _ rfl (some ⟨gA, 0, none⟩) m m rfl sl_natsX)) ?_
 simp only [Act.put, pu]
 refine qw_value (by rfl) (.bool true) ((exec_eql_k .i64 _ _ _ _ rfl (ckN z (s.length : Int)) m rfl rfl true (decide_eq_true hcn))) ?_
 simp only [Act.put, pu]
 refine qw_pick false (v := .bool true) (by rfl) rfl rfl rfl ?_
 simp only [Act.put, pu]
 refine qw_pick true (v := .bool true) (by rfl) rfl rfl rfl ?_
 simp only [Act.put, pu]
 refine qw_move (by rfl) rfl rfl ?_
 simp only [Act.put, pu]
 refine qw_call (by rfl) 6 _ _ rfl Tryz.func6 (by kernel_rfl) #[] rfl _ haw ?_
 simp only [Act.put, pu]
 refine qw_pick true (v := .bool true) (by rfl) rfl rfl rfl ?_
 simp only [Act.put, pu]
 refine qw_asg (by rfl) rfl rfl ?_
 simp only [Act.put, pu]
 refine qw_nil ?_
 intro w9 hqb
 replace sb := below_on sb (Nat.le_refl _) hqb
 clear hqb
 go_wp2
 go_ret
 exact ⟨rfl, sb⟩
theorem walk (a0 x : Int) (s : List UInt8) (w : World) :
  Calls Tryz.prog 3 #[.int .i64 a0, .string ⟨(s).toArray⟩, .int .i64 x] w fun e w' => e = .returned (.bool true) ∧ Below w.heap.size w w' := by
 by_cases hs : 256 < s.length
 ·exact core0 a0 x s w hs
 obtain ⟨his, hlt, hG3, h2, hn9, hlk⟩ := pk_gr (ly8 a0 % 3)
 obtain ⟨hsz, hz, hz2, hzQ⟩ := pk_size (ly8 a0 % 3)
 have hpa := params_any a0
 rw [hlk] at hpa
 have hnw : ∀ w' x, Row w' x (lksC (pk (ly8 a0 % 3) 3 3 5) (lN (pk (ly8 a0 % 3) leL otL grL)) twoA) 81 → _ := fun w' x r => gnew_yes _ (pk (ly8 a0 % 3) 3 3 5) (some ⟨x, 0, none⟩) (pk (ly8 a0 % 3) leG otG grG) _ _ x 0 _ _ w' hn9 hG3 (lks_links r hlt) his
 have hsr : ∀ w' x, Row w' x (lksC (pk (ly8 a0 % 3) 3 3 5) (lN (pk (ly8 a0 % 3) leL otL grL)) twoA) 81 → _ := fun w' x r => rSize_any (pk (ly8 a0 % 3) 3 3 5) (pk (ly8 a0 % 3) 3 3 5) (some ⟨x, 0, none⟩) (pk (ly8 a0 % 3) leG otG grG) _ _ x 0 _ _ w' h2 hn9 (lks_links r hlt)
 have hQ := hlt (pk (ly8 a0 % 3) 3 3 5 - 2) (by omega)
 rw [hsz] at hsr
 clear hlk his hlt
 generalize lN (pk (ly8 a0 % 3) leL otL grL) (pk (ly8 a0 % 3) 3 3 5 - 1) = PP at *
 generalize lN (pk (ly8 a0 % 3) leL otL grL) (pk (ly8 a0 % 3) 3 3 5 - 2) = QQ at *
 generalize lksC (pk (ly8 a0 % 3) 3 3 5) (lN (pk (ly8 a0 % 3) leL otL grL)) twoA = LK at *
 generalize pk (ly8 a0 % 3) 3 3 14 = z at *
 generalize pk (ly8 a0 % 3) 3 3 5 = N1 at *
 generalize pk (ly8 a0 % 3) leG otG grG = G3 at *
 have hkb : pN (ckL s false).length z ≤ 1000 := Nat.le_trans (pN_le hz) (by show 1 ≤ 1000; decide)
 have hp2 := fun w' g gr gf (h : GrpAt w' g gr gf PP QQ G3) => put_ok (some ⟨g, 0, none⟩) z s false w' hz hz2 (fun e => by cases e) (h.szz hQ hsz)
 have hr2 : ∀ w' x, Row w' x LK 81 → _ := fun w' x r => rput_any (some ⟨x, 0, none⟩) N1 N1 G3 z [] false w' hz hz2 (fun e => by cases e) (fun w2 h2 => hsr w2 x (r.belowAll h2))
 have hct := fun w' g gr gf (h : GrpAt w' g gr gf PP QQ G3) (y : Int) => ckCount_any (some ⟨g, 0, none⟩) z y w' hz hz2 (h.szz hQ hsz)
 have hrc : ∀ w' x, Row w' x LK 81 → ∀ y : Int, _ := fun w' x r y => rCount_any (some ⟨x, 0, none⟩) N1 N1 G3 z y w' hz hz2 (fun w2 h2 => hsr w2 x (r.belowAll h2))
 by_cases h24 : 24 < s.length
 ·exact core1 a0 x s N1 G3 G3 PP QQ z 0 (pN (ckL s false).length z) (fun _ => 0) (ckF (ckL s false) z) LK w hs (by decide) hkb (fun _ => by decide) (fun i => ckF_256 _ _ hz2) hpa hnw
   (fun w' g gr gf h => put_big (some ⟨g, 0, none⟩) z s w' hz h24 (h.szz hQ hsz))
   (fun w' x r => rput_big (some ⟨x, 0, none⟩) N1 N1 G3 s w' h24) hp2 hr2 hct hrc
 ·have hlen : (ckL s true).length = s.length + 1 := rfl
  have hmb : pN (ckL s true).length z ≤ 1000 := Nat.le_trans (pN_le hz) (by omega)
  have hcn : ckN z (s.length : Int) = ((pN (ckL s true).length z : Nat) : Int) := by
   unfold ckN
   rw [if_pos (by omega), Int.toNat_natCast, hlen]
  exact core2 a0 x s N1 G3 G3 PP QQ z (pN (ckL s true).length z) (pN (ckL s false).length z) (ckF (ckL s true) z) (ckF (ckL s false) z) LK w hs hmb hkb (fun i => ckF_256 _ _ hz2) (fun i => ckF_256 _ _ hz2) hcn hpa hnw
   (fun w' g gr gf h => put_ok (some ⟨g, 0, none⟩) z s true w' hz hz2 (fun _ => by omega) (h.szz hQ hsz))
   (fun w' x r => rput_any (some ⟨x, 0, none⟩) N1 N1 G3 z s true w' hz hz2 (fun _ => by omega) (fun w2 h2 => hsr w2 x (r.belowAll h2))) hp2 hr2 hct hrc
set_option maxRecDepth 100000 in
theorem lifted (os : Os) (started : os.Started) (H : Type) (enc : TypeId × Value → H) :
  ReturnsInHanded {} Tryz.checked os 3 .any (fun w args => (Rows.chunkPutsSpec.pre enc Tryz.prog Tryz.f3 [] false w args ∧ laidMetH Tryz.prog lk w) ∧ sizedMet enc Tryz.prog Tryz.f3 (OpenSpec.ofChange Rows.chunkPutsSpec) false w args)
   (Rows.chunkPutsSpec.post enc Tryz.prog Tryz.f3 false true false false) := by
 refine returnsInHanded_of_change_and (C := Tryz.checked) (X := fun w _ => laidMetH Tryz.prog lk w) (fun _ _ _ hh h => h.of_heap hh) own started (by kernel_rfl) Tryz.func3
  (ChangeSpec.witness_shaped (enc := enc) (C := Tryz.checked) (os := os) (X := fun w _ => laidMetH Tryz.prog lk w) false (World.laidAll Tryz.prog os lk) #[.int .i64 0, .string ⟨#[]⟩, .int .i64 0] 8 (World.laidAll_os _ _ _) (lk_shaped os _) (by kernel_rfl) (by kernel_rfl) (by kernel_rfl) (lk_met os _)) ?_
 intro W base args ds gs before hval0 hW _ _ hL _
 have hval : ∀ (j : Nat) t v, Tryz.f3.params[j]? = some t → args[j]? = some v → Value.okWide Tryz.prog W .any base t v := hval0
 have hW' := hW
 obtain ⟨p, q, hA0, hV, rfl, hfz, hnd⟩ := hW
 have hA : DataW.TrodAll enc Tryz.prog W 0 (fun _ => true) true Tryz.f3.params.toList args.toList ds p := hA0
 rw [Tryz.params3] at hA hval
 obtain ⟨v0, vs0, d0, ds0, p0, q0, hargs, rfl, rfl, h0, r0⟩ := trodAll_cons hA
 obtain ⟨v1, vs1, d1, ds1, p1, q1, rfl, rfl, rfl, h1, r1⟩ := trodAll_cons r0
 obtain ⟨v2, vs2, d2, ds2, p2, q2, rfl, rfl, rfl, h2, r2⟩ := trodAll_cons r1
 obtain ⟨rfl, rfl, rfl⟩ := trodAll_nil r2
 obtain rfl : args = #[v0, v1, v2] := by cases args; simp_all
 obtain ⟨rfl, rfl⟩ := trodVars_none hV
 have k0 := h0
 have lt0 := lt_of_trod h0
 obtain ⟨a0, rfl, rfl, rfl, w0⟩ := open_int Tryz.underlying3 (hval 0 3 v0 rfl rfl) h0
 have k1 := h1
 have lt1 := lt_of_trod h1
 obtain ⟨⟨⟨s1⟩⟩, rfl, rfl, rfl, w1⟩ := open_string Tryz.underlying9 (hval 1 9 v1 rfl rfl) h1
 have k2 := h2
 have lt2 := lt_of_trod h2
 obtain ⟨a2, rfl, rfl, rfl, w2⟩ := open_int Tryz.underlying3 (hval 2 3 v2 rfl rfl) h2
 clear hA0 hval0
 refine (walk a0 a2 s1 W).mono fun e W' ⟨he, bel⟩ => ?_
 subst he
 exact ⟨_, rfl, _, _, _, [], _, [], hW', trodAll_mk1 (shut_bool Tryz.underlying4 _), (trodAll_cons_mk (Below.trod laidOut (by kernel_rfl) (of_decide_eq_true (by kernel_rfl)) k0 bel lt0) (trodAll_cons_mk (Below.trod laidOut (by kernel_rfl) (of_decide_eq_true (by kernel_rfl)) k1 bel lt1) (trodAll_cons_mk (Below.trod laidOut (by kernel_rfl) (of_decide_eq_true (by kernel_rfl)) k2 bel lt2) trodAll_mk0))), rfl, bel.frame _, fun h => by cases h⟩
theorem over : Rows.chunkPutsRow.holds Tryz.pinned (OpenSpec.ofChange Rows.chunkPutsSpec) :=
 OpenClaim.holds_of_wide 3 Tryz.f3 rfl rfl rfl rfl rfl rfl rfl ⟨rfl, rfl, rfl, rfl, rfl⟩ rfl rfl rfl rfl rfl (by kernel_rfl) Tryz.func3 (by kernel_rfl)
  (of_decide_eq_true (by kernel_rfl)) (by unfold Func.isWrapper; first | (rw [if_pos (by decide +kernel)]; kernel_rfl) | (rw [if_neg (by decide +kernel)]; exact ⟨rfl, rfl⟩))
  (fun os started H enc _ => lifted os started H enc)
theorem card : Claim7.holds Tryz.pinned (.plain (OpenSpec.ofChange Rows.chunkPutsSpec)) Rows.chunkPutsCard :=
 Claim7.holds_tied_plain_at .later [] [.data, .pinned] true (true, "fb71ec877aa5d0a01abb10ab77a2e721b5dff07206276bf18777fa8edd522a24") false
  over (fun _ h => by cases h) (by kernel_rfl) (fun _ h => by cases h) chunkPuts_row_tie rfl ⟨rfl, rfl⟩ (by kernel_rfl) rfl
  (fun f fn hf hfn => by
   obtain rfl : f = 3 := Option.some.inj ((show Tryz.prog.funcNamed "sacristy/sacristylaw11.ChunkPuts" = some 3 by kernel_rfl).symm.trans hf) |>.symm
   obtain rfl : fn = Tryz.f3 := (Option.some.inj (Tryz.func3.symm.trans hfn)).symm
   exact ⟨by kernel_rfl, fun j t ht => by
    rw [Tryz.params3] at ht
    have hm : t ∈ [3, 9, 3] := by simpa using Array.mem_of_getElem? ht
    have hall : ([3, 9, 3].all fun u => !Tryz.prog.wantsStandIn u) = true := by kernel_rfl
    exact (show Tryz.prog.wantsStandIn t = false by simpa using List.all_eq_true.1 hall t hm)⟩)
  (by kernel_rfl)
end chunkPutsP
/-- for every number, text and count: in one of the three groups the numbers of a value of up to 2^8 bytes, or of none, or that it is too long, are the document's, and how many they are; no condition. -/
theorem chunkPuts_holds : Rows.ChunkPutsCardSaid := chunkPutsP.card
end Go.Proofs.YtdemabfpcepnfaaGreatDoor
