/- The document's Of, Exp, Mul, In and Multi of layer 9. -/
import Derived.Test.YtplhgenmcphccaaFA
import Derived.Test.YtplhgenmcphccaaQFun
import Derived.Test.YtplhgenmcphccaaMPow
namespace Go.Proofs.Ytplhgenmcphccaa
open Go.RowKit
/-- The cells of a small group's numbers. -/
def smC (P Q G : Int) : Array Value := #[.int .i64 P, .int .i64 Q, .int .i64 G]
theorem sm_one (P Q G : Int) : (smC P Q G).all (·.oneCell') = true := by simp [smC, Value.oneCell']
theorem info_sm : (Try.prog.info? 34).map (fun i => (i.zero, i.size)) = some (some (.agg (smC 0 0 0)), 3) := by kernel_rfl
theorem zero_sm (w : World) : (zeroValue 34).run Try.prog w = .ok (.agg (smC 0 0 0)) w := (zero_of_info info_sm).1 w
theorem size_sm : (Try.prog.info? 34).map (·.size) = some 3 := (zero_of_info info_sm).2
theorem built_sm (P Q G : Int) : Try.prog.built 34 [(0, .int .i64 P), (1, .int .i64 Q), (2, .int .i64 G)] = some (smC P Q G) := by
 unfold smC
 kernel_rfl
set_option maxRecDepth 100000 in
set_option maxHeartbeats 2000000 in
theorem rof9_core (ab : Option Addr) (n c P Q G : Nat) (w : World)
  (hrp : ∀ w', Below w.heap.size w w' → Calls Try.prog 38 #[.agg (paC ab n c G)] w' fun e w2 => e = .returned (.agg (natC P)) ∧ Below w'.heap.size w' w2)
  (hrq : ∀ w', Below w.heap.size w w' → Calls Try.prog 12 #[.agg (paC ab n c G)] w' fun e w2 => e = .returned (.agg (natC Q)) ∧ Below w'.heap.size w' w2)
  (hlp : ∀ w', Calls Try.prog 37 #[.agg (natC P)] w' fun e w2 => e = .returned (.tuple #[.int .i64 (P : Nat), .bool true]) ∧ Below w'.heap.size w' w2) (hlq : ∀ w', Calls Try.prog 37 #[.agg (natC Q)] w' fun e w2 => e = .returned (.tuple #[.int .i64 (Q : Nat), .bool true]) ∧ Below w'.heap.size w' w2) (hlg : ∀ w', Calls Try.prog 37 #[.agg (natC G)] w' fun e w2 => e = .returned (.tuple #[.int .i64 (G : Nat), .bool true]) ∧ Below w'.heap.size w' w2) :
  Calls Try.prog 9 #[.agg (paC ab n c G)] w fun e w' => e = .returned (.agg (smC P Q G)) ∧ Below w.heap.size w w' := by
 go_enter Try.func9, Try.ntmps9
 (repeat ((fail_if_success with_reducible refine rg ?_); go_step))
 refine wp_region_pw ?_
 refine pw_boxr (by rfl) 27 _ rfl (_) rfl ?_
 intro g1 z0 n0 r1 k
 simp only [Act.put, pu]
 have b1 : w.heap.size ≤ g1 := n0
 clear n0
 have sb := k.below w.heap.size (Nat.le_refl _) (by simp)
 clear k
 refine pw_new (by rfl) 34 rfl _ zero_sm ?_
 intro g2 z1 n0 r2 k
 simp only [Act.put, pu]
 have d1x2 := Nat.lt_of_lt_of_le r1.lt n0
 have b2 := Nat.le_trans sb.size n0
 clear n0
 replace r1 := k.row r1 (by simp <;> omega)
 replace sb := sb.trans (k.below w.heap.size sb.size (by simp <;> omega))
 clear k
 refine pw_nil ?_
 (repeat ((fail_if_success with_reducible refine rg ?_); go_step))
 refine wp_region_pw ?_
 refine pw_loadm (by rfl) 27 _ rfl _ 0 rfl r1.r _ (part_all _) _ Try.underlying27 rfl size_pa ?_
 simp only [Act.put, pu]
 refine pw_callB (by rfl) 38 _ _ rfl Try.func38 (by kernel_rfl) #[.agg (paC ab n c G)] rfl _ (hrp _ sb) ?_
 intro z1001 k
 simp only [Act.put, pu]
 replace r1 := k.row r1 (by simp <;> omega)
 replace r2 := k.row r2 (by simp <;> omega)
 replace sb := sb.trans (k.below w.heap.size sb.size (by simp <;> omega))
 clear k
 refine pw_callB (by rfl) 37 _ _ rfl Try.func37 (by kernel_rfl) #[.agg (natC P)] rfl _ (hlp _) ?_
 intro z1002 k
 simp only [Act.put, pu]
 replace r1 := k.row r1 (by simp <;> omega)
 replace r2 := k.row r2 (by simp <;> omega)
 replace sb := sb.trans (k.below w.heap.size sb.size (by simp <;> omega))
 clear k
 refine pw_mv (by rfl) rfl rfl ?_
 simp only [Act.put, pu]
 refine pw_ext (by rfl) rfl rfl rfl ?_
 simp only [Act.put, pu]
 refine pw_ext (by rfl) rfl rfl rfl ?_
 simp only [Act.put, pu]
 refine pw_as (by rfl) rfl rfl ?_
 simp only [Act.put, pu]
 refine pw_as (by rfl) rfl rfl ?_
 simp only [Act.put, pu]
 refine pw_nil ?_
 (repeat ((fail_if_success with_reducible refine rg ?_); go_step))
 refine wp_region_pw ?_
 refine pw_loadm (by rfl) 27 _ rfl _ 0 rfl r1.r _ (part_all _) _ Try.underlying27 rfl size_pa ?_
 simp only [Act.put, pu]
 refine pw_callB (by rfl) 12 _ _ rfl Try.func12 (by kernel_rfl) #[.agg (paC ab n c G)] rfl _ (hrq _ sb) ?_
 intro z2001 k
 simp only [Act.put, pu]
 replace r1 := k.row r1 (by simp <;> omega)
 replace r2 := k.row r2 (by simp <;> omega)
 replace sb := sb.trans (k.below w.heap.size sb.size (by simp <;> omega))
 clear k
 refine pw_callB (by rfl) 37 _ _ rfl Try.func37 (by kernel_rfl) #[.agg (natC Q)] rfl _ (hlq _) ?_
 intro z2002 k
 simp only [Act.put, pu]
 replace r1 := k.row r1 (by simp <;> omega)
 replace r2 := k.row r2 (by simp <;> omega)
 replace sb := sb.trans (k.below w.heap.size sb.size (by simp <;> omega))
 clear k
 refine pw_mv (by rfl) rfl rfl ?_
 simp only [Act.put, pu]
 refine pw_ext (by rfl) rfl rfl rfl ?_
 simp only [Act.put, pu]
 refine pw_ext (by rfl) rfl rfl rfl ?_
 simp only [Act.put, pu]
 refine pw_as (by rfl) rfl rfl ?_
 simp only [Act.put, pu]
 refine pw_as (by rfl) rfl rfl ?_
 simp only [Act.put, pu]
 refine pw_nil ?_
 (repeat ((fail_if_success with_reducible refine rg ?_); go_step))
 refine wp_region_pw ?_
 refine pw_value (by rfl) (.pointer (some ⟨g1, 1, none⟩)) (exec_field 27 _ 1 rfl g1 0 rfl _ Try.underlying27 _ rfl 3 Try.sizeOf24) ?_
 simp only [Act.put, pu]
 refine pw_loadm (by rfl) 24 _ rfl _ (1) rfl r1.r (natC G) (pa_g _ _ _ _) _ Try.underlying24 rfl size_nat ?_
 simp only [Act.put, pu]
 refine pw_callB (by rfl) 37 _ _ rfl Try.func37 (by kernel_rfl) #[.agg (natC G)] rfl _ (hlg _) ?_
 intro z3002 k
 simp only [Act.put, pu]
 replace r1 := k.row r1 (by simp <;> omega)
 replace r2 := k.row r2 (by simp <;> omega)
 replace sb := sb.trans (k.below w.heap.size sb.size (by simp <;> omega))
 clear k
 refine pw_mv (by rfl) rfl rfl ?_
 simp only [Act.put, pu]
 refine pw_ext (by rfl) rfl rfl rfl ?_
 simp only [Act.put, pu]
 refine pw_ext (by rfl) rfl rfl rfl ?_
 simp only [Act.put, pu]
 refine pw_as (by rfl) rfl rfl ?_
 simp only [Act.put, pu]
 refine pw_as (by rfl) rfl rfl ?_
 simp only [Act.put, pu]
 refine pw_nil ?_
 (repeat ((fail_if_success with_reducible refine rg ?_); go_step))
 refine wp_region_pw ?_
 refine pw_mv (by rfl) rfl rfl ?_
 simp only [Act.put, pu]
 refine pw_mv (by rfl) rfl rfl ?_
 simp only [Act.put, pu]
 refine pw_mv (by rfl) rfl rfl ?_
 simp only [Act.put, pu]
 refine pw_value (by rfl) (.agg (smC P Q G)) (exec_buildv _ _ rfl [(0, .int .i64 P), (1, .int .i64 Q), (2, .int .i64 G)] rfl _ (built_sm _ _ _)) ?_
 simp only [Act.put, pu]
 refine pw_put (by rfl) 34 _ _ rfl _ rfl r2 (smC P Q G) rfl (by exact size_sm) (by rfl) (sm_one _ _ _) ?_
 clear r2
 intro z4004 r2 k
 simp only [Act.put]
 replace sb := sb.trans (k.below w.heap.size sb.size (by simp <;> omega))
 clear k
 refine pw_nil ?_
 go_wp2
 exact ret_rowd rfl _ rfl r2 _ Try.underlying34 (by exact size_sm) rfl ⟨rfl, sb⟩
theorem rlow_63 (A : Nat) (w : World) (h : A < 9223372036854775808) :
  Calls Try.prog 37 #[.agg (natC A)] w fun e w' => e = .returned (.tuple #[.int .i64 (A : Nat), .bool true]) ∧ Below w.heap.size w w' := by
 have := rlow_any A w (by omega)
 rw [show lowI A = ((A : Nat) : Int) from if_pos h, show lowB A = true from decide_eq_true h] at this
 exact this
theorem rof9_any (x : Nat) (N : Nat → Nat) (A : Nat → Int) (G : Nat) (w : World) (r : Row w x (lksC 3 N A) 74) (hlt : ∀ i, i < 3 → N i < 2 ^ 256) (hP : N (3 - 1) < 9223372036854775808) (hQ : N (3 - 2) < 9223372036854775808) (hG : G < 9223372036854775808) :
  Calls Try.prog 9 #[.agg (paC (some ⟨x, 0, none⟩) 3 3 G)] w fun e w' => e = .returned (.agg (smC (N (3 - 1) : Nat) (N (3 - 2) : Nat) (G : Nat))) ∧ Below w.heap.size w w' :=
 rof9_core _ 3 3 _ _ G w (fun w' hb => rP_any 3 3 (some ⟨x, 0, none⟩) G _ _ x 0 _ _ w' (by decide) (by decide) (lks_links (r.belowAll hb) hlt)) (fun w' hb => rQ_any 3 3 (some ⟨x, 0, none⟩) G _ _ x 0 _ _ w' (by decide) (by decide) (lks_links (r.belowAll hb) hlt))
  (fun w' => rlow_63 _ w' hP) (fun w' => rlow_63 _ w' hQ) fun w' => rlow_63 _ w' hG
set_option maxRecDepth 100000 in
set_option maxHeartbeats 2000000 in
theorem rexp9_any (X E P : Nat) (Q G : Int) (w : World) (hE : E < 2 ^ 256) (h0 : 0 < P) (hP : P < 4611686018427387904) :
  Calls Try.prog 19 #[.agg (smC (P : Nat) Q G), .int .i64 (X : Nat), .agg (natC E)] w fun e w' => e = .returned (.int .i64 (X ^ E % P : Nat)) ∧ Below w.heap.size w w' := by
 have hpw := fun w' => rpower_any X E P w' hE h0 hP
 clear hE h0 hP
 generalize X ^ E % P = Y at *
 go_enter Try.func19, Try.ntmps19
 (repeat ((fail_if_success with_reducible refine rg ?_); go_step))
 refine wp_region_pw ?_
 refine pw_boxr (by rfl) 34 _ rfl (_) rfl ?_
 intro g3 z0 n0 r3 k
 simp only [Act.put, pu]
 have b3 : w.heap.size ≤ g3 := n0
 clear n0
 have sb := k.below w.heap.size (Nat.le_refl _) (by simp)
 clear k
 refine pw_boxr (by rfl) 24 _ rfl (_) rfl ?_
 intro g5 z1 n0 r5 k
 simp only [Act.put, pu]
 have d3x5 := Nat.lt_of_lt_of_le r3.lt n0
 have b5 := Nat.le_trans sb.size n0
 clear n0
 replace r3 := k.row r3 (by simp <;> omega)
 replace sb := sb.trans (k.below w.heap.size sb.size (by simp <;> omega))
 clear k
 refine pw_value (by rfl) (.int .i64 0) (fun _ => rfl) ?_
 simp only [Act.put, pu]
 refine pw_nil ?_
 (repeat ((fail_if_success with_reducible refine rg ?_); go_step))
 refine wp_region_pw ?_
 refine pw_mv (by rfl) rfl rfl ?_
 simp only [Act.put, pu]
 refine pw_loadm (by rfl) 24 _ rfl _ 0 rfl r5.r _ (part_all _) _ Try.underlying24 rfl size_nat ?_
 simp only [Act.put, pu]
 refine pw_value (by rfl) (.pointer (some ⟨g3, 0, none⟩)) (exec_field 34 _ 0 rfl g3 0 rfl _ Try.underlying34 _ rfl 0 Try.sizeOf3) ?_
 simp only [Act.put, pu]
 refine pw_loadk (by rfl) 3 _ rfl _ (0) rfl r3.r (.int .i64 (P : Nat)) rfl Try.isAgg3 ?_
 simp only [Act.put, pu]
 refine pw_callB (by rfl) 50 _ _ rfl Try.func50 (by kernel_rfl) #[.int .i64 (X : Nat), .agg (natC E), .int .i64 (P : Nat)] rfl _ (hpw _) ?_
 intro z1004 k
 simp only [Act.put, pu]
 replace r3 := k.row r3 (by simp <;> omega)
 replace r5 := k.row r5 (by simp <;> omega)
 replace sb := sb.trans (k.below w.heap.size sb.size (by simp <;> omega))
 clear k
 refine pw_as (by rfl) rfl rfl ?_
 simp only [Act.put, pu]
 refine pw_nil ?_
 go_wp2
 go_ret
 exact ⟨rfl, sb⟩
set_option maxRecDepth 100000 in
set_option maxHeartbeats 2000000 in
theorem rmul9_any (X Y P : Nat) (Q G : Int) (w : World) (h0 : 0 < P) (hP : P < 4611686018427387904) :
  Calls Try.prog 17 #[.agg (smC (P : Nat) Q G), .int .i64 (X : Nat), .int .i64 (Y : Nat)] w fun e w' => e = .returned (.int .i64 (X * Y % P : Nat)) ∧ Below w.heap.size w w' := by
 have hti := fun w' => rtimes_any X Y P w' h0 hP
 clear h0 hP
 generalize X * Y % P = Z at *
 go_enter Try.func17, Try.ntmps17
 (repeat ((fail_if_success with_reducible refine rg ?_); go_step))
 refine wp_region_pw ?_
 refine pw_boxr (by rfl) 34 _ rfl (_) rfl ?_
 intro g3 z0 n0 r3 k
 simp only [Act.put, pu]
 have b3 : w.heap.size ≤ g3 := n0
 clear n0
 have sb := k.below w.heap.size (Nat.le_refl _) (by simp)
 clear k
 refine pw_value (by rfl) (.int .i64 0) (fun _ => rfl) ?_
 simp only [Act.put, pu]
 refine pw_nil ?_
 (repeat ((fail_if_success with_reducible refine rg ?_); go_step))
 refine wp_region_pw ?_
 refine pw_mv (by rfl) rfl rfl ?_
 simp only [Act.put, pu]
 refine pw_mv (by rfl) rfl rfl ?_
 simp only [Act.put, pu]
 refine pw_value (by rfl) (.pointer (some ⟨g3, 0, none⟩)) (exec_field 34 _ 0 rfl g3 0 rfl _ Try.underlying34 _ rfl 0 Try.sizeOf3) ?_
 simp only [Act.put, pu]
 refine pw_loadk (by rfl) 3 _ rfl _ (0) rfl r3.r (.int .i64 (P : Nat)) rfl Try.isAgg3 ?_
 simp only [Act.put, pu]
 refine pw_callB (by rfl) 48 _ _ rfl Try.func48 (by kernel_rfl) #[.int .i64 (X : Nat), .int .i64 (Y : Nat), .int .i64 (P : Nat)] rfl _ (hti _) ?_
 intro z1004 k
 simp only [Act.put, pu]
 replace r3 := k.row r3 (by simp <;> omega)
 replace sb := sb.trans (k.below w.heap.size sb.size (by simp <;> omega))
 clear k
 refine pw_as (by rfl) rfl rfl ?_
 simp only [Act.put, pu]
 refine pw_nil ?_
 go_wp2
 go_ret
 exact ⟨rfl, sb⟩
set_option maxRecDepth 100000 in
set_option maxHeartbeats 2000000 in
theorem rin9_a (A P Q : Nat) (G : Int) (w : World) (hlo : ∀ w', Calls Try.prog 37 #[.agg (natC A)] w' fun e w2 => e = .returned (.tuple #[.int .i64 0, .bool false]) ∧ Below w'.heap.size w' w2) :
  Calls Try.prog 15 #[.agg (smC (P : Nat) (Q : Nat) G), .agg (natC A)] w fun e w' => e = .returned (.bool false) ∧ Below w.heap.size w w' := by
 go_enter Try.func15, Try.ntmps15
 (repeat ((fail_if_success with_reducible refine rg ?_); go_step))
 refine wp_region_pw ?_
 refine pw_boxr (by rfl) 34 _ rfl (_) rfl ?_
 intro g2 z0 n0 r2 k
 simp only [Act.put, pu]
 have b2 : w.heap.size ≤ g2 := n0
 clear n0
 have sb := k.below w.heap.size (Nat.le_refl _) (by simp)
 clear k
 refine pw_boxr (by rfl) 24 _ rfl (_) rfl ?_
 intro g3 z1 n0 r3 k
 simp only [Act.put, pu]
 have d2x3 := Nat.lt_of_lt_of_le r2.lt n0
 have b3 := Nat.le_trans sb.size n0
 clear n0
 replace r2 := k.row r2 (by simp <;> omega)
 replace sb := sb.trans (k.below w.heap.size sb.size (by simp <;> omega))
 clear k
 refine pw_value (by rfl) (.bool false) (fun _ => rfl) ?_
 simp only [Act.put, pu]
 refine pw_nil ?_
 (repeat ((fail_if_success with_reducible refine rg ?_); go_step))
 refine wp_region_pw ?_
 refine pw_loadm (by rfl) 24 _ rfl _ 0 rfl r3.r _ (part_all _) _ Try.underlying24 rfl size_nat ?_
 simp only [Act.put, pu]
 refine pw_callB (by rfl) 37 _ _ rfl Try.func37 (by kernel_rfl) #[.agg (natC A)] rfl _ (hlo _) ?_
 intro z1001 k
 simp only [Act.put, pu]
 replace r2 := k.row r2 (by simp <;> omega)
 replace r3 := k.row r3 (by simp <;> omega)
 replace sb := sb.trans (k.below w.heap.size sb.size (by simp <;> omega))
 clear k
 refine pw_mv (by rfl) rfl rfl ?_
 simp only [Act.put, pu]
 refine pw_ext (by rfl) rfl rfl rfl ?_
 simp only [Act.put, pu]
 refine pw_ext (by rfl) rfl rfl rfl ?_
 simp only [Act.put, pu]
 refine pw_as (by rfl) rfl rfl ?_
 simp only [Act.put, pu]
 refine pw_as (by rfl) rfl rfl ?_
 simp only [Act.put, pu]
 refine pw_nil ?_
 (repeat ((fail_if_success with_reducible refine rg ?_); go_step))
 refine wp_region_qw (by kernel_rfl) (by kernel_rfl) ?_
 refine qw_move (by rfl) rfl rfl ?_
 simp only [Act.put, pu]
 refine qw_move (by rfl) rfl rfl ?_
 simp only [Act.put, pu]
 refine qw_skip (by rfl) ?_
 simp only [Act.put, pu]
 refine qw_skip (by rfl) ?_
 simp only [Act.put, pu]
 refine qw_pick false (v := .bool false) (by rfl) rfl rfl rfl ?_
 simp only [Act.put, pu]
 refine qw_move (by rfl) rfl rfl ?_
 simp only [Act.put, pu]
 refine qw_skip (by rfl) ?_
 simp only [Act.put, pu]
 refine qw_skip (by rfl) ?_
 simp only [Act.put, pu]
 refine qw_skip (by rfl) ?_
 simp only [Act.put, pu]
 refine qw_skip (by rfl) ?_
 simp only [Act.put, pu]
 refine qw_pick false (v := .bool false) (by rfl) rfl rfl rfl ?_
 simp only [Act.put, pu]
 refine qw_move (by rfl) rfl rfl ?_
 simp only [Act.put, pu]
 refine qw_skip (by rfl) ?_
 simp only [Act.put, pu]
 refine qw_skip (by rfl) ?_
 simp only [Act.put, pu]
 refine qw_skip (by rfl) ?_
 simp only [Act.put, pu]
 refine qw_skip (by rfl) ?_
 simp only [Act.put, pu]
 refine qw_skip (by rfl) ?_
 simp only [Act.put, pu]
 refine qw_skip (by rfl) ?_
 simp only [Act.put, pu]
 refine qw_skip (by rfl) ?_
 simp only [Act.put, pu]
 refine qw_pick false (v := .bool false) (by rfl) rfl rfl rfl ?_
 simp only [Act.put, pu]
 refine qw_asg (by rfl) rfl rfl ?_
 simp only [Act.put, pu]
 refine qw_nil ?_
 intro w3 hqb
 replace sb := below_on sb (Nat.le_refl _) hqb
 clear hqb
 go_wp2
 go_ret
 exact ⟨rfl, sb⟩
set_option maxRecDepth 100000 in
set_option maxHeartbeats 2000000 in
theorem rin9_b (P Q : Nat) (G : Int) (w : World) (hlo : ∀ w', Calls Try.prog 37 #[.agg (natC 0)] w' fun e w2 => e = .returned (.tuple #[.int .i64 0, .bool true]) ∧ Below w'.heap.size w' w2) :
  Calls Try.prog 15 #[.agg (smC (P : Nat) (Q : Nat) G), .agg (natC 0)] w fun e w' => e = .returned (.bool false) ∧ Below w.heap.size w w' := by
 go_enter Try.func15, Try.ntmps15
 (repeat ((fail_if_success with_reducible refine rg ?_); go_step))
 refine wp_region_pw ?_
 refine pw_boxr (by rfl) 34 _ rfl (_) rfl ?_
 intro g2 z0 n0 r2 k
 simp only [Act.put, pu]
 have b2 : w.heap.size ≤ g2 := n0
 clear n0
 have sb := k.below w.heap.size (Nat.le_refl _) (by simp)
 clear k
 refine pw_boxr (by rfl) 24 _ rfl (_) rfl ?_
 intro g3 z1 n0 r3 k
 simp only [Act.put, pu]
 have d2x3 := Nat.lt_of_lt_of_le r2.lt n0
 have b3 := Nat.le_trans sb.size n0
 clear n0
 replace r2 := k.row r2 (by simp <;> omega)
 replace sb := sb.trans (k.below w.heap.size sb.size (by simp <;> omega))
 clear k
 refine pw_value (by rfl) (.bool false) (fun _ => rfl) ?_
 simp only [Act.put, pu]
 refine pw_nil ?_
 (repeat ((fail_if_success with_reducible refine rg ?_); go_step))
 refine wp_region_pw ?_
 refine pw_loadm (by rfl) 24 _ rfl _ 0 rfl r3.r _ (part_all _) _ Try.underlying24 rfl size_nat ?_
 simp only [Act.put, pu]
 refine pw_callB (by rfl) 37 _ _ rfl Try.func37 (by kernel_rfl) #[.agg (natC 0)] rfl _ (hlo _) ?_
 intro z1001 k
 simp only [Act.put, pu]
 replace r2 := k.row r2 (by simp <;> omega)
 replace r3 := k.row r3 (by simp <;> omega)
 replace sb := sb.trans (k.below w.heap.size sb.size (by simp <;> omega))
 clear k
 refine pw_mv (by rfl) rfl rfl ?_
 simp only [Act.put, pu]
 refine pw_ext (by rfl) rfl rfl rfl ?_
 simp only [Act.put, pu]
 refine pw_ext (by rfl) rfl rfl rfl ?_
 simp only [Act.put, pu]
 refine pw_as (by rfl) rfl rfl ?_
 simp only [Act.put, pu]
 refine pw_as (by rfl) rfl rfl ?_
 simp only [Act.put, pu]
 refine pw_nil ?_
 (repeat ((fail_if_success with_reducible refine rg ?_); go_step))
 refine wp_region_qw (by kernel_rfl) (by kernel_rfl) ?_
 refine qw_move (by rfl) rfl rfl ?_
 simp only [Act.put, pu]
 refine qw_move (by rfl) rfl rfl ?_
 simp only [Act.put, pu]
 refine qw_move (by rfl) rfl rfl ?_
 simp only [Act.put, pu]
 refine qw_value (by rfl) (.bool false) (exec_gt_i _ _ _ _ rfl 0 0 rfl rfl false rfl) ?_
 simp only [Act.put, pu]
 refine qw_pick true (v := .bool false) (by rfl) rfl rfl rfl ?_
 simp only [Act.put, pu]
 refine qw_move (by rfl) rfl rfl ?_
 simp only [Act.put, pu]
 refine qw_skip (by rfl) ?_
 simp only [Act.put, pu]
 refine qw_skip (by rfl) ?_
 simp only [Act.put, pu]
 refine qw_skip (by rfl) ?_
 simp only [Act.put, pu]
 refine qw_skip (by rfl) ?_
 simp only [Act.put, pu]
 refine qw_pick false (v := .bool false) (by rfl) rfl rfl rfl ?_
 simp only [Act.put, pu]
 refine qw_move (by rfl) rfl rfl ?_
 simp only [Act.put, pu]
 refine qw_skip (by rfl) ?_
 simp only [Act.put, pu]
 refine qw_skip (by rfl) ?_
 simp only [Act.put, pu]
 refine qw_skip (by rfl) ?_
 simp only [Act.put, pu]
 refine qw_skip (by rfl) ?_
 simp only [Act.put, pu]
 refine qw_skip (by rfl) ?_
 simp only [Act.put, pu]
 refine qw_skip (by rfl) ?_
 simp only [Act.put, pu]
 refine qw_skip (by rfl) ?_
 simp only [Act.put, pu]
 refine qw_pick false (v := .bool false) (by rfl) rfl rfl rfl ?_
 simp only [Act.put, pu]
 refine qw_asg (by rfl) rfl rfl ?_
 simp only [Act.put, pu]
 refine qw_nil ?_
 intro w3 hqb
 replace sb := below_on sb (Nat.le_refl _) hqb
 clear hqb
 go_wp2
 go_ret
 exact ⟨rfl, sb⟩
set_option maxRecDepth 100000 in
set_option maxHeartbeats 2000000 in
theorem rin9_c (A P Q : Nat) (G : Int) (w : World) (h0 : 0 < A) (hl : ¬ A < P) (hlo : ∀ w', Calls Try.prog 37 #[.agg (natC A)] w' fun e w2 => e = .returned (.tuple #[.int .i64 (A : Nat), .bool true]) ∧ Below w'.heap.size w' w2) :
  Calls Try.prog 15 #[.agg (smC (P : Nat) (Q : Nat) G), .agg (natC A)] w fun e w' => e = .returned (.bool false) ∧ Below w.heap.size w w' := by
 go_enter Try.func15, Try.ntmps15
 (repeat ((fail_if_success with_reducible refine rg ?_); go_step))
 refine wp_region_pw ?_
 refine pw_boxr (by rfl) 34 _ rfl (_) rfl ?_
 intro g2 z0 n0 r2 k
 simp only [Act.put, pu]
 have b2 : w.heap.size ≤ g2 := n0
 clear n0
 have sb := k.below w.heap.size (Nat.le_refl _) (by simp)
 clear k
 refine pw_boxr (by rfl) 24 _ rfl (_) rfl ?_
 intro g3 z1 n0 r3 k
 simp only [Act.put, pu]
 have d2x3 := Nat.lt_of_lt_of_le r2.lt n0
 have b3 := Nat.le_trans sb.size n0
 clear n0
 replace r2 := k.row r2 (by simp <;> omega)
 replace sb := sb.trans (k.below w.heap.size sb.size (by simp <;> omega))
 clear k
 refine pw_value (by rfl) (.bool false) (fun _ => rfl) ?_
 simp only [Act.put, pu]
 refine pw_nil ?_
 (repeat ((fail_if_success with_reducible refine rg ?_); go_step))
 refine wp_region_pw ?_
 refine pw_loadm (by rfl) 24 _ rfl _ 0 rfl r3.r _ (part_all _) _ Try.underlying24 rfl size_nat ?_
 simp only [Act.put, pu]
 refine pw_callB (by rfl) 37 _ _ rfl Try.func37 (by kernel_rfl) #[.agg (natC A)] rfl _ (hlo _) ?_
 intro z1001 k
 simp only [Act.put, pu]
 replace r2 := k.row r2 (by simp <;> omega)
 replace r3 := k.row r3 (by simp <;> omega)
 replace sb := sb.trans (k.below w.heap.size sb.size (by simp <;> omega))
 clear k
 refine pw_mv (by rfl) rfl rfl ?_
 simp only [Act.put, pu]
 refine pw_ext (by rfl) rfl rfl rfl ?_
 simp only [Act.put, pu]
 refine pw_ext (by rfl) rfl rfl rfl ?_
 simp only [Act.put, pu]
 refine pw_as (by rfl) rfl rfl ?_
 simp only [Act.put, pu]
 refine pw_as (by rfl) rfl rfl ?_
 simp only [Act.put, pu]
 refine pw_nil ?_
 (repeat ((fail_if_success with_reducible refine rg ?_); go_step))
 refine wp_region_qw (by kernel_rfl) (by kernel_rfl) ?_
 refine qw_move (by rfl) rfl rfl ?_
 simp only [Act.put, pu]
 refine qw_move (by rfl) rfl rfl ?_
 simp only [Act.put, pu]
 refine qw_move (by rfl) rfl rfl ?_
 simp only [Act.put, pu]
 refine qw_value (by rfl) (.bool true) (exec_gt_i _ _ _ _ rfl (A : Nat) 0 rfl rfl true (decide_eq_true (by omega))) ?_
 simp only [Act.put, pu]
 refine qw_pick true (v := .bool true) (by rfl) rfl rfl rfl ?_
 simp only [Act.put, pu]
 refine qw_move (by rfl) rfl rfl ?_
 simp only [Act.put, pu]
 refine qw_move (by rfl) rfl rfl ?_
 simp only [Act.put, pu]
 refine qw_value (by rfl) (.pointer (some ⟨g2, 0, none⟩)) (exec_field 34 _ 0 rfl g2 0 rfl _ Try.underlying34 _ rfl 0 Try.sizeOf3) ?_
 simp only [Act.put, pu]
 refine qw_loadc (by rfl) 3 _ rfl _ (0) rfl r2 (.int .i64 (P : Nat)) rfl Try.isAgg3 ?_
 simp only [Act.put, pu]
 refine qw_value (by rfl) (.bool false) (exec_lt_b _ _ _ _ rfl (A : Nat) (P : Nat) rfl rfl false (decide_eq_false (by omega))) ?_
 simp only [Act.put, pu]
 refine qw_pick true (v := .bool false) (by rfl) rfl rfl rfl ?_
 simp only [Act.put, pu]
 refine qw_move (by rfl) rfl rfl ?_
 simp only [Act.put, pu]
 refine qw_skip (by rfl) ?_
 simp only [Act.put, pu]
 refine qw_skip (by rfl) ?_
 simp only [Act.put, pu]
 refine qw_skip (by rfl) ?_
 simp only [Act.put, pu]
 refine qw_skip (by rfl) ?_
 simp only [Act.put, pu]
 refine qw_skip (by rfl) ?_
 simp only [Act.put, pu]
 refine qw_skip (by rfl) ?_
 simp only [Act.put, pu]
 refine qw_skip (by rfl) ?_
 simp only [Act.put, pu]
 refine qw_pick false (v := .bool false) (by rfl) rfl rfl rfl ?_
 simp only [Act.put, pu]
 refine qw_asg (by rfl) rfl rfl ?_
 simp only [Act.put, pu]
 refine qw_nil ?_
 intro w3 hqb
 replace sb := below_on sb (Nat.le_refl _) hqb
 clear hqb
 go_wp2
 go_ret
 exact ⟨rfl, sb⟩
set_option maxRecDepth 100000 in
set_option maxHeartbeats 2000000 in
theorem rin9_d (A P Q Y : Nat) (G : Int) (B : Bool) (w : World) (h0 : 0 < A) (hl : A < P) (hB : decide ((Y : Int) = 1) = B) (hlo : ∀ w', Calls Try.prog 37 #[.agg (natC A)] w' fun e w2 => e = .returned (.tuple #[.int .i64 (A : Nat), .bool true]) ∧ Below w'.heap.size w' w2)
  (hin : ∀ w', Calls Try.prog 40 #[.int .i64 (Q : Nat)] w' fun e w2 => e = .returned (.agg (natC Q)) ∧ Below w'.heap.size w' w2)
  (hex : ∀ w', Calls Try.prog 19 #[.agg (smC (P : Nat) (Q : Nat) G), .int .i64 (A : Nat), .agg (natC Q)] w' fun e w2 => e = .returned (.int .i64 (Y : Nat)) ∧ Below w'.heap.size w' w2) :
  Calls Try.prog 15 #[.agg (smC (P : Nat) (Q : Nat) G), .agg (natC A)] w fun e w' => e = .returned (.bool B) ∧ Below w.heap.size w w' := by
 go_enter Try.func15, Try.ntmps15
 (repeat ((fail_if_success with_reducible refine rg ?_); go_step))
 refine wp_region_pw ?_
 refine pw_boxr (by rfl) 34 _ rfl (_) rfl ?_
 intro g2 z0 n0 r2 k
 simp only [Act.put, pu]
 have b2 : w.heap.size ≤ g2 := n0
 clear n0
 have sb := k.below w.heap.size (Nat.le_refl _) (by simp)
 clear k
 refine pw_boxr (by rfl) 24 _ rfl (_) rfl ?_
 intro g3 z1 n0 r3 k
 simp only [Act.put, pu]
 have d2x3 := Nat.lt_of_lt_of_le r2.lt n0
 have b3 := Nat.le_trans sb.size n0
 clear n0
 replace r2 := k.row r2 (by simp <;> omega)
 replace sb := sb.trans (k.below w.heap.size sb.size (by simp <;> omega))
 clear k
 refine pw_value (by rfl) (.bool false) (fun _ => rfl) ?_
 simp only [Act.put, pu]
 refine pw_nil ?_
 (repeat ((fail_if_success with_reducible refine rg ?_); go_step))
 refine wp_region_pw ?_
 refine pw_loadm (by rfl) 24 _ rfl _ 0 rfl r3.r _ (part_all _) _ Try.underlying24 rfl size_nat ?_
 simp only [Act.put, pu]
 refine pw_callB (by rfl) 37 _ _ rfl Try.func37 (by kernel_rfl) #[.agg (natC A)] rfl _ (hlo _) ?_
 intro z1001 k
 simp only [Act.put, pu]
 replace r2 := k.row r2 (by simp <;> omega)
 replace r3 := k.row r3 (by simp <;> omega)
 replace sb := sb.trans (k.below w.heap.size sb.size (by simp <;> omega))
 clear k
 refine pw_mv (by rfl) rfl rfl ?_
 simp only [Act.put, pu]
 refine pw_ext (by rfl) rfl rfl rfl ?_
 simp only [Act.put, pu]
 refine pw_ext (by rfl) rfl rfl rfl ?_
 simp only [Act.put, pu]
 refine pw_as (by rfl) rfl rfl ?_
 simp only [Act.put, pu]
 refine pw_as (by rfl) rfl rfl ?_
 simp only [Act.put, pu]
 refine pw_nil ?_
 (repeat ((fail_if_success with_reducible refine rg ?_); go_step))
 refine wp_region_qw (by kernel_rfl) (by kernel_rfl) ?_
 refine qw_move (by rfl) rfl rfl ?_
 simp only [Act.put, pu]
 refine qw_move (by rfl) rfl rfl ?_
 simp only [Act.put, pu]
 refine qw_move (by rfl) rfl rfl ?_
 simp only [Act.put, pu]
 refine qw_value (by rfl) (.bool true) (exec_gt_i _ _ _ _ rfl (A : Nat) 0 rfl rfl true (decide_eq_true (by omega))) ?_
 simp only [Act.put, pu]
 refine qw_pick true (v := .bool true) (by rfl) rfl rfl rfl ?_
 simp only [Act.put, pu]
 refine qw_move (by rfl) rfl rfl ?_
 simp only [Act.put, pu]
 refine qw_move (by rfl) rfl rfl ?_
 simp only [Act.put, pu]
 refine qw_value (by rfl) (.pointer (some ⟨g2, 0, none⟩)) (exec_field 34 _ 0 rfl g2 0 rfl _ Try.underlying34 _ rfl 0 Try.sizeOf3) ?_
 simp only [Act.put, pu]
 refine qw_loadc (by rfl) 3 _ rfl _ (0) rfl r2 (.int .i64 (P : Nat)) rfl Try.isAgg3 ?_
 simp only [Act.put, pu]
 refine qw_value (by rfl) (.bool true) (exec_lt_b _ _ _ _ rfl (A : Nat) (P : Nat) rfl rfl true (decide_eq_true (by omega))) ?_
 simp only [Act.put, pu]
 refine qw_pick true (v := .bool true) (by rfl) rfl rfl rfl ?_
 simp only [Act.put, pu]
 refine qw_move (by rfl) rfl rfl ?_
 simp only [Act.put, pu]
 refine qw_loadm (by rfl) 34 _ rfl _ (0) rfl r2 (smC (P : Nat) (Q : Nat) G) (part_all _) _ Try.underlying34 rfl size_sm ?_
 simp only [Act.put, pu]
 refine qw_move (by rfl) rfl rfl ?_
 simp only [Act.put, pu]
 refine qw_value (by rfl) (.pointer (some ⟨g2, 1, none⟩)) (exec_field 34 _ 1 rfl g2 0 rfl _ Try.underlying34 _ rfl 0 Try.sizeOf3) ?_
 simp only [Act.put, pu]
 refine qw_loadc (by rfl) 3 _ rfl _ (1) rfl r2 (.int .i64 (Q : Nat)) rfl Try.isAgg3 ?_
 simp only [Act.put, pu]
 refine qw_call (by rfl) 40 _ _ rfl Try.func40 (by kernel_rfl) #[.int .i64 (Q : Nat)] rfl _ hin ?_
 simp only [Act.put, pu]
 refine qw_call (by rfl) 19 _ _ rfl Try.func19 (by kernel_rfl) #[.agg (smC (P : Nat) (Q : Nat) G), .int .i64 (A : Nat), .agg (natC Q)] rfl _ hex ?_
 simp only [Act.put, pu]
 refine qw_value (by rfl) (.bool B) (exec_eql_k .i64 _ _ _ _ rfl (Y : Nat) 1 rfl rfl B hB) ?_
 simp only [Act.put, pu]
 refine qw_pick true (v := .bool B) (by rfl) rfl rfl rfl ?_
 simp only [Act.put, pu]
 refine qw_asg (by rfl) rfl rfl ?_
 simp only [Act.put, pu]
 refine qw_nil ?_
 intro w3 hqb
 replace sb := below_on sb (Nat.le_refl _) hqb
 clear hqb
 go_wp2
 go_ret
 exact ⟨rfl, sb⟩
theorem rin9_any (A P Q : Nat) (G : Int) (w : World) (hA : A < 2 ^ 256) (h2 : 2 ≤ P) (hP : P < 4611686018427387904) (h0 : 0 < Q) (hQ : Q < 9223372036854775808) :
  Calls Try.prog 15 #[.agg (smC (P : Nat) (Q : Nat) G), .agg (natC A)] w fun e w' => e = .returned (.bool (memN P Q A)) ∧ Below w.heap.size w w' := by
 by_cases h63 : A < 9223372036854775808
 ·have hlo := fun w' => rlow_63 A w' h63
  rcases Nat.eq_zero_or_pos A with rfl | hp
  ·rw [show memN P Q 0 = false by unfold memN; rw [Nat.zero_pow h0, Nat.zero_mod]; simp]
   exact rin9_b P Q G w hlo
  ·unfold memN
   by_cases hl : A < P
   ·rw [decide_eq_true hl, Bool.true_and]
    refine rin9_d A P Q (A ^ Q % P) G _ w hp hl (decide_eq_decide.2 (by omega)) hlo (fun w' => ?_) fun w' => rexp9_any A Q P _ G w' (by omega) (by omega) hP
    have := rint_any (Q : Int) w' (by omega)
    rw [Int.toNat_natCast] at this
    exact this
   ·rw [decide_eq_false hl, Bool.false_and]
    exact rin9_c A P Q G w hp hl hlo
 ·have hlo := fun w' => rlow_any A w' hA
  rw [show lowI A = 0 from if_neg h63, show lowB A = false from decide_eq_false h63] at hlo
  unfold memN
  rw [decide_eq_false (by omega), Bool.false_and]
  exact rin9_a A P Q G w hlo
theorem prd_0 (f : Nat → Nat) (P : Nat) (h : 2 ≤ P) : prd f 0 % P = 1 := Nat.mod_eq_of_lt h
theorem prd_on (f : Nat → Nat) (i P a b : Nat) (h : f i = a ^ b) : prd f i % P * ((a % P) ^ b % P) % P = prd f (i + 1) % P := by
 rw [show prd f (i + 1) = prd f i * f i from rfl, h, ← Nat.pow_mod, ← Nat.mul_mod]
set_option maxRecDepth 100000 in
set_option maxHeartbeats 2000000 in
theorem rmulti_core (n P : Nat) (Q G : Int) (ca ce : Nat) (ab ae : Option Addr) (a' b' X T D : Nat → Nat) (gb ob ge oe : Nat) (bcs ecs : Array Value) (tb te : TypeId) (w : World) (hn12 : n < 4611686018427387904) (hD0 : D 0 = 1)
  (hna : NatsAt w ab n a' gb ob bcs tb) (hnb : NatsAt w ae n b' ge oe ecs te)
  (hbx : ∀ i, i < n → ∀ w', Calls Try.prog 10 #[.agg (natC (a' i)), .int .i64 (P : Nat)] w' fun e w2 => e = .returned (.int .i64 (X i : Nat)) ∧ Below w'.heap.size w' w2)
  (hex : ∀ i, i < n → ∀ w', Calls Try.prog 19 #[.agg (smC (P : Nat) Q G), .int .i64 (X i : Nat), .agg (natC (b' i))] w' fun e w2 => e = .returned (.int .i64 (T i : Nat)) ∧ Below w'.heap.size w' w2)
  (hmu : ∀ i, ∀ w', Calls Try.prog 17 #[.agg (smC (P : Nat) Q G), .int .i64 (D i : Nat), .int .i64 (T i : Nat)] w' fun e w2 => e = .returned (.int .i64 (D (i + 1) : Nat)) ∧ Below w'.heap.size w' w2) :
  Calls Try.prog 24 #[.agg (smC (P : Nat) Q G), .slice ab n ca, .slice ae n ce] w fun e w' => e = .returned (.int .i64 (D n : Nat)) ∧ Below w.heap.size w w' := by
 have HB : Hid (NatsAt w ab n a' gb ob bcs tb) := hna
 have HE : Hid (NatsAt w ae n b' ge oe ecs te) := hnb
 have HD : Hid (D 0 = 1) := hD0
 clear hna hnb hD0
 go_enter Try.func24, Try.ntmps24
 (repeat ((fail_if_success with_reducible refine rg ?_); go_step))
 refine wp_region_pw ?_
 refine pw_boxr (by rfl) 34 _ rfl (_) rfl ?_
 intro g3 z0 n0 r3 k
 simp only [Act.put, pu]
 have b3 : w.heap.size ≤ g3 := n0
 clear n0
 have sb := k.below w.heap.size (Nat.le_refl _) (by simp)
 clear k
 refine pw_value (by rfl) (.int .i64 0) (fun _ => rfl) ?_
 simp only [Act.put, pu]
 refine pw_nil ?_
 (repeat ((fail_if_success with_reducible refine rg ?_); go_step))
 refine wp_region_pw ?_
 refine pw_value (by rfl) (.int .i64 1) (fun _ => rfl) ?_
 simp only [Act.put, pu]
 refine pw_nil ?_
 (repeat ((fail_if_success with_reducible refine rg ?_); go_step))
 refine wp_region_pw ?_
 refine pw_value (by rfl) (.int .i64 0) (fun _ => rfl) ?_
 simp only [Act.put, pu]
 refine pw_nil ?_
 go_wp2_with fail
 go_loopg [7, 8] n (fun g s7 s8 wr => ∃ i : Nat, i + g = n ∧ s8 = .int .i64 i ∧ s7 = .int .i64 (D i : Nat) ∧ Row wr g3 (smC (P : Nat) Q G) 34 ∧ Below w.heap.size w wr)
 case atStart => exact ⟨0, by omega, rfl, by rw [HD.out]; rfl, r3, sb⟩
 case round =>
  clear r3 sb HD
  obtain ⟨i, hi, rfl, rfl, r3, sb⟩ := hrel
  cases gk with
  | zero =>
   obtain rfl : i = n := by omega
   clear hi hmu hex hbx
   (repeat ((fail_if_success with_reducible refine rg ?_); go_step))
   refine wp_region_pw ?_
   refine pw_mv (by rfl) rfl rfl ?_
   simp only [Act.put, pu]
   refine pw_mv (by rfl) rfl rfl ?_
   simp only [Act.put, pu]
   refine pw_value (by rfl) (.int .i64 i) (exec_len_s 49 _ rfl ab i ca rfl sl_nats) ?_
   simp only [Act.put, pu]
   refine pw_value (by rfl) (.bool false) (exec_lt_b _ _ _ _ rfl i i rfl rfl false (decide_eq_false (Int.lt_irrefl _))) ?_
   simp only [Act.put, pu]
   refine pw_mv (by rfl) rfl rfl ?_
   simp only [Act.put, pu]
   refine pw_skip (by rfl) ?_
   simp only [Act.put, pu]
   refine pw_skip (by rfl) ?_
   simp only [Act.put, pu]
   refine pw_skip (by rfl) ?_
   simp only [Act.put, pu]
   refine pw_skip (by rfl) ?_
   simp only [Act.put, pu]
   refine pw_pick (by rfl) false (v := .bool false) rfl rfl rfl ?_
   simp only [Act.put, pu]
   refine pw_nil ?_
   (repeat ((fail_if_success with_reducible refine rg ?_); go_step))
   refine wp_region_pw ?_
   refine pw_mv (by rfl) rfl rfl ?_
   simp only [Act.put, pu]
   refine pw_as (by rfl) rfl rfl ?_
   simp only [Act.put, pu]
   refine pw_nil ?_
   go_wp2
   go_ret
   exact ⟨rfl, sb⟩
  | succ g =>
   have hlt : i < n := by omega
   replace hbx := hbx i hlt
   replace hex := hex i hlt
   replace hmu := hmu i
   (repeat ((fail_if_success with_reducible refine rg ?_); go_step))
   refine wp_region_pw ?_
   refine pw_mv (by rfl) rfl rfl ?_
   simp only [Act.put, pu]
   refine pw_mv (by rfl) rfl rfl ?_
   simp only [Act.put, pu]
   refine pw_value (by rfl) (.int .i64 n) (exec_len_s 49 _ rfl ab n ca rfl sl_nats) ?_
   simp only [Act.put, pu]
   refine pw_value (by rfl) (.bool true) (exec_lt_b _ _ _ _ rfl i n rfl rfl true (decide_eq_true (by omega))) ?_
   simp only [Act.put, pu]
   refine pw_mv (by rfl) rfl rfl ?_
   simp only [Act.put, pu]
   refine pw_mv (by rfl) rfl rfl ?_
   simp only [Act.put, pu]
   refine pw_mv (by rfl) rfl rfl ?_
   simp only [Act.put, pu]
   refine pw_value (by rfl) (.int .i64 n) (exec_len_s 49 _ rfl ae n ce rfl sl_nats) ?_
   simp only [Act.put, pu]
   refine pw_value (by rfl) (.bool true) (exec_lt_b _ _ _ _ rfl i n rfl rfl true (decide_eq_true (by omega))) ?_
   simp only [Act.put, pu]
   refine pw_pick (by rfl) true (v := .bool true) rfl rfl rfl ?_
   simp only [Act.put, pu]
   refine pw_nil ?_
   obtain h0 | ⟨rfl, rB, hbt⟩ := (HB.out.below sb).at'
   ·omega
   obtain h0 | ⟨rfl, rE, het⟩ := (HE.out.below sb).at'
   ·omega
   (repeat ((fail_if_success with_reducible refine rg ?_); go_step))
   refine wp_region_qw (by kernel_rfl) (by kernel_rfl) ?_
   refine qw_loadm (by rfl) 34 _ rfl _ (0) rfl r3 (smC (P : Nat) Q G) (part_all _) _ Try.underlying34 rfl size_sm ?_
   simp only [Act.put, pu]
   refine qw_move (by rfl) rfl rfl ?_
   simp only [Act.put, pu]
   refine qw_loadm (by rfl) 34 _ rfl _ (0) rfl r3 (smC (P : Nat) Q G) (part_all _) _ Try.underlying34 rfl size_sm ?_
   simp only [Act.put, pu]
   refine qw_move (by rfl) rfl rfl ?_
   simp only [Act.put, pu]
   refine qw_move (by rfl) rfl rfl ?_
   simp only [Act.put, pu]
   refine qw_value (by rfl) (.pointer (some ⟨gb, ob + i * 4, none⟩)) (exec_index_s 49 _ _ rfl gb ob n ca rfl i rfl hlt _ Try.underlying49 4 size_nat4) ?_
   simp only [Act.put, pu]
   refine qw_loadmR (by rfl) 24 _ rfl _ ((ob + i * 4)) rfl rB (natC (a' i)) (hbt i hlt) _ Try.underlying24 rfl size_nat ?_
   simp only [Act.put, pu]
   refine qw_value (by rfl) (.pointer (some ⟨g3, 0, none⟩)) (exec_field 34 _ 0 rfl g3 0 rfl _ Try.underlying34 _ rfl 0 Try.sizeOf3) ?_
   simp only [Act.put, pu]
   refine qw_loadc (by rfl) 3 _ rfl _ (0) rfl r3 (.int .i64 (P : Nat)) rfl Try.isAgg3 ?_
   simp only [Act.put, pu]
   refine qw_call (by rfl) 10 _ _ rfl Try.func10 (by kernel_rfl) #[.agg (natC (a' i)), .int .i64 (P : Nat)] rfl _ hbx ?_
   simp only [Act.put, pu]
   refine qw_move (by rfl) rfl rfl ?_
   simp only [Act.put, pu]
   refine qw_move (by rfl) rfl rfl ?_
   simp only [Act.put, pu]
   refine qw_value (by rfl) (.pointer (some ⟨ge, oe + i * 4, none⟩)) (exec_index_s 49 _ _ rfl ge oe n ce rfl i rfl hlt _ Try.underlying49 4 size_nat4) ?_
   simp only [Act.put, pu]
   refine qw_loadmR (by rfl) 24 _ rfl _ ((oe + i * 4)) rfl rE (natC (b' i)) (het i hlt) _ Try.underlying24 rfl size_nat ?_
   simp only [Act.put, pu]
   refine qw_call (by rfl) 19 _ _ rfl Try.func19 (by kernel_rfl) #[.agg (smC (P : Nat) Q G), .int .i64 (X i : Nat), .agg (natC (b' i))] rfl _ hex ?_
   simp only [Act.put, pu]
   refine qw_call (by rfl) 17 _ _ rfl Try.func17 (by kernel_rfl) #[.agg (smC (P : Nat) Q G), .int .i64 (D i : Nat), .int .i64 (T i : Nat)] rfl _ hmu ?_
   simp only [Act.put, pu]
   refine qw_asg (by rfl) rfl rfl ?_
   simp only [Act.put, pu]
   refine qw_nil ?_
   intro w8 hqb
   replace r3 := r3.belowAll hqb
   replace sb := below_on sb (Nat.le_refl _) hqb
   clear hqb
   (repeat ((fail_if_success with_reducible refine rg ?_); go_step))
   refine wp_region_pw ?_
   refine pw_mv (by rfl) rfl rfl ?_
   simp only [Act.put, pu]
   refine pw_value (by rfl) (.int .i64 ((i + 1 : Nat) : Int)) (exec_add_in _ _ _ _ rfl i 1 rfl rfl (by omega)) ?_
   simp only [Act.put, pu]
   refine pw_as (by rfl) rfl rfl ?_
   simp only [Act.put, pu]
   refine pw_nil ?_
   go_wp2
   go_roundg g
   case measure => omega
   case rel => exact ⟨i + 1, by omega, rfl, rfl, r3, sb⟩
theorem rmulti_any (n P : Nat) (Q G : Int) (ca ce : Nat) (ab ae : Option Addr) (a' b' : Nat → Nat) (gb ob ge oe : Nat) (bcs ecs : Array Value) (tb te : TypeId) (w : World) (hn : n < 4611686018427387904) (h2 : 2 ≤ P) (hP : P < 4611686018427387904)
  (hna : NatsAt w ab n a' gb ob bcs tb) (hnb : NatsAt w ae n b' ge oe ecs te) :
  Calls Try.prog 24 #[.agg (smC (P : Nat) Q G), .slice ab n ca, .slice ae n ce] w fun e w' => e = .returned (.int .i64 (prd (fun i => a' i ^ b' i) n % P : Nat)) ∧ Below w.heap.size w w' := by
 refine rmulti_core n P Q G ca ce ab ae a' b' (fun i => a' i % P) (fun i => (a' i % P) ^ b' i % P) (fun i => prd (fun i => a' i ^ b' i) i % P) gb ob ge oe bcs ecs tb te w hn (prd_0 _ P h2) hna hnb (fun i hi w' => rby_any _ P w' (hna.lt i hi) (by omega) hP) (fun i hi w' => rexp9_any _ _ P Q G w' (hnb.lt i hi) (by omega) hP) fun i w' => ?_
 have := rmul9_any (prd (fun i => a' i ^ b' i) i % P) ((a' i % P) ^ b' i % P) P Q G w' (by omega) hP
 rw [prd_on (fun i => a' i ^ b' i) i P (a' i) (b' i) rfl] at this
 exact this
set_option maxRecDepth 100000 in
set_option maxHeartbeats 2000000 in
theorem of9_any (n : Nat) (w : World) (h : (n : Int) < 9223372036854775808) :
  Calls Try.prog 13 #[.int .i64 n] w fun e w' => e = .returned (.agg (natC n)) ∧ Below w.heap.size w w' := by
 have hin := fun w' => rint_any (n : Int) w' h
 rw [Int.toNat_natCast] at hin
 clear h
 go_enter Try.func13, Try.ntmps13
 (repeat ((fail_if_success with_reducible refine rg ?_); go_step))
 refine wp_region_pw ?_
 refine pw_new (by rfl) 24 rfl _ zero_nat ?_
 intro g2 z0 n0 r2 k
 simp only [Act.put, pu]
 have b2 : w.heap.size ≤ g2 := n0
 clear n0
 have sb := k.below w.heap.size (Nat.le_refl _) (by simp)
 clear k
 refine pw_nil ?_
 (repeat ((fail_if_success with_reducible refine rg ?_); go_step))
 refine wp_region_pw ?_
 refine pw_mv (by rfl) rfl rfl ?_
 simp only [Act.put, pu]
 refine pw_callB (by rfl) 40 _ _ rfl Try.func40 (by kernel_rfl) #[.int .i64 n] rfl _ (hin _) ?_
 intro z1001 k
 simp only [Act.put, pu]
 replace r2 := k.row r2 (by simp <;> omega)
 replace sb := sb.trans (k.below w.heap.size sb.size (by simp <;> omega))
 clear k
 refine pw_put (by rfl) 24 _ _ rfl _ rfl r2 (natC n) rfl (by exact size_nat) (by simp only [natC_size]) (natC_one _) ?_
 clear r2
 intro z1002 r2 k
 simp only [Act.put]
 replace sb := sb.trans (k.below w.heap.size sb.size (by simp <;> omega))
 clear k
 refine pw_nil ?_
 go_wp2
 exact ret_row rfl _ rfl r2 4 _ Try.underlying24 (by exact size_nat) rfl ⟨rfl, sb⟩
theorem pk2_p (b : Bool) : lN (pk2 b otL leL) (3 - 1) < 4611686018427387904 ∧ pk2 b otG leG < 4611686018427387904 := by
 cases b <;> decide
end Go.Proofs.Ytplhgenmcphccaa
