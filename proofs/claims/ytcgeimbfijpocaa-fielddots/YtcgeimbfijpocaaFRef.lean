/- The document's numbers of layer 8: By, Add, Sub, Mul, Inv; its Pick. -/
import Derived.Test.YtcgeimbfijpocaaGRefL
import Derived.Test.YtcgeimbfijpocaaMPow
import Derived.Test.YtcgeimbfijpocaaGO
import Derived.Test.YtcgeimbfijpocaaFMath
import Derived.Test.YtcgeimbfijpocaaGAwake
namespace Go.Proofs.Ytcgeimbfijpocaa
open Go.RowKit
set_option maxRecDepth 100000 in
set_option maxHeartbeats 2000000 in
theorem rby_core (A QN X : Nat) (q : Int) (w : World)
  (hin : ∀ w', Calls Try.prog 37 #[.int .i64 q] w' fun e w2 => e = .returned (.agg (natC QN)) ∧ Below w'.heap.size w' w2)
  (hrm : ∀ w', Calls Try.prog 36 #[.agg (natC A), .agg (natC 0), .agg (natC QN)] w' fun e w2 => e = .returned (.tuple #[.agg (natC X), .int .i64 0]) ∧ Below w'.heap.size w' w2)
  (hlo : ∀ w', Calls Try.prog 9 #[.agg (natC X)] w' fun e w2 => e = .returned (.tuple #[.int .i64 (X : Nat), .bool true]) ∧ Below w'.heap.size w' w2) :
  Calls Try.prog 11 #[.agg (natC A), .int .i64 q] w fun e w' => e = .returned (.int .i64 (X : Nat)) ∧ Below w.heap.size w w' := by
 go_enter Try.func11, Try.ntmps11
 (repeat ((fail_if_success with_reducible refine rg ?_); go_step))
 refine wp_region_pw ?_
 refine pw_boxr (by rfl) 24 _ rfl (_) rfl ?_
 intro g2 z0 n0 r2 k
 simp only [Act.put, pu]
 have b2 : w.heap.size ≤ g2 := n0
 clear n0
 have sb := k.below w.heap.size (Nat.le_refl _) (by simp)
 clear k
 refine pw_value (by rfl) (.int .i64 0) (fun _ => rfl) ?_
 simp only [Act.put, pu]
 refine pw_nil ?_
 (repeat ((fail_if_success with_reducible refine rg ?_); go_step))
 apply wp_region_mix (by kernel_rfl) [] [_, _, _, _, _, _, _, _, _, _, _] trivial List.nodup_nil
 ·intro p
  refine mx_load 24 _ rfl _ rfl r2 (by simp <;> omega) 4 _ Try.underlying24 size_nat ?_
  simp only [Act.put, pu]
  refine mx_val (.agg (natC 0)) (exec_build0 _ rfl _ built_nat) ?_
  simp only [Act.put, pu]
  refine mx_move rfl rfl ?_
  simp only [Act.put, pu]
  refine mx_call 37 _ _ rfl Try.func37 (by kernel_rfl) #[.int .i64 q] rfl _ hin ?_
  simp only [Act.put, pu]
  refine mx_call 36 _ _ rfl Try.func36 (by kernel_rfl) #[.agg (natC A), .agg (natC 0), .agg (natC QN)] rfl _ hrm ?_
  simp only [Act.put, pu]
  refine mx_move rfl rfl ?_
  simp only [Act.put, pu]
  refine mx_ext rfl rfl rfl ?_
  simp only [Act.put, pu]
  refine mx_ext rfl rfl rfl ?_
  simp only [Act.put, pu]
  refine mx_new 24 rfl _ zero_nat ?_
  simp only [Act.put, pu]
  refine mx_put 17 24 _ _ rfl rfl rfl (natC X) rfl (by exact size_nat) (by simp only [natC_size]) (natC_one _) ?_
  simp only [Act.put]
  refine mx_asg rfl rfl ?_
  simp only [Act.put, pu]
  refine mx_end ?_
  intro w2 hkw hrw hnew hdis
  have n5 := hnew 8 rfl
  have zr5 : Row w2 (p 8) (natC X) 24 := hrw 17 (24, natC X) rfl
  have b5 := Nat.le_trans sb.size n5
  replace sb := sb.trans (hkw.below w.heap.size sb.size (by simp <;> omega))
  clear hkw hrw hnew hdis n5
  generalize p 8 = g5 at *
  have r5 := zr5
  clear zr5
  (repeat ((fail_if_success with_reducible refine rg ?_); go_step))
  refine wp_region_pw ?_
  refine pw_loadm (by rfl) 24 _ rfl _ 0 rfl r5.r _ (part_all _) _ Try.underlying24 rfl size_nat ?_
  simp only [Act.put, pu]
  refine pw_callB (by rfl) 9 _ _ rfl Try.func9 (by kernel_rfl) #[.agg (natC X)] rfl _ (hlo _) ?_
  intro z2001 k
  simp only [Act.put, pu]
  replace r5 := k.row r5 (by simp <;> omega)
  replace sb := sb.trans (k.below w.heap.size sb.size (by simp <;> omega))
  clear k
  refine pw_mv (by rfl) rfl rfl ?_
  simp only [Act.put, pu]
  refine pw_ext (by rfl) rfl rfl rfl ?_
  simp only [Act.put, pu]
  refine pw_ext (by rfl) rfl rfl rfl ?_
  simp only [Act.put, pu]
  refine pw_as (by rfl) rfl rfl ?_
  simp only [Act.put, pu]
  refine pw_as (by rfl) rfl rfl ?_
  simp only [Act.put, pu]
  refine pw_nil ?_
  (repeat ((fail_if_success with_reducible refine rg ?_); go_step))
  refine wp_region_pw ?_
  refine pw_mv (by rfl) rfl rfl ?_
  simp only [Act.put, pu]
  refine pw_as (by rfl) rfl rfl ?_
  simp only [Act.put, pu]
  refine pw_nil ?_
  go_wp2
  go_ret
  exact ⟨rfl, sb⟩
 ·kernel_rfl
/-- A natural by q. -/
theorem rby_any (A q : Nat) (w : World) (hA : A < 2 ^ 256) (h0 : 0 < q) (hq : q < 4611686018427387904) :
  Calls Try.prog 11 #[.agg (natC A), .int .i64 (q : Nat)] w fun e w' => e = .returned (.int .i64 (A % q : Nat)) ∧ Below w.heap.size w w' := by
 have hX := Nat.mod_lt A h0
 refine rby_core A q (A % q) q w (fun w' => ?_) (fun w' => ?_) fun w' => ?_
 ·have := rint_any (q : Int) w' (by omega)
  rw [Int.toNat_natCast] at this
  exact this
 ·have := rrem_any A 0 q w' hA (by decide) (by omega)
  rw [show modZ (0 * 2 ^ 256 + A) q = A % q by unfold modZ; rw [if_neg (by omega), Nat.zero_mul, Nat.zero_add], show errI q = 0 by unfold errI; rw [if_neg (by omega)]] at this
  exact this
 ·have := rlow_any (A % q) w' (by omega)
  rw [show lowI (A % q) = ((A % q : Nat) : Int) from if_pos (by omega), show lowB (A % q) = true from decide_eq_true (by omega)] at this
  exact this
set_option maxRecDepth 100000 in
set_option maxHeartbeats 2000000 in
theorem radd8_any (x y q : Nat) (w : World) (h0 : 0 < q) (hx : x < 4611686018427387904) (hy : y < 4611686018427387904) :
  Calls Try.prog 16 #[.int .i64 (x : Nat), .int .i64 (y : Nat), .int .i64 (q : Nat)] w fun e w' => e = .returned (.int .i64 ((x + y) % q : Nat)) ∧ Below w.heap.size w w' := by
 go_enter Try.func16, Try.ntmps16
 have sb := Below.refl w.heap.size w
 (repeat ((fail_if_success with_reducible refine rg ?_); go_step))
 refine wp_region_pw ?_
 refine pw_value (by rfl) (.int .i64 0) (fun _ => rfl) ?_
 simp only [Act.put, pu]
 refine pw_nil ?_
 (repeat ((fail_if_success with_reducible refine rg ?_); go_step))
 refine wp_region_pw ?_
 refine pw_mv (by rfl) rfl rfl ?_
 simp only [Act.put, pu]
 refine pw_mv (by rfl) rfl rfl ?_
 simp only [Act.put, pu]
 refine pw_value (by rfl) (.int .i64 ((x + y : Nat) : Int)) (exec_add_in _ _ _ _ rfl x y rfl rfl (by omega)) ?_
 simp only [Act.put, pu]
 refine pw_mv (by rfl) rfl rfl ?_
 simp only [Act.put, pu]
 refine pw_value (by rfl) (.int .i64 (((x + y) % q : Nat) : Int)) (exec_rem_i _ _ _ _ rfl (x + y) q rfl rfl h0) ?_
 simp only [Act.put, pu]
 refine pw_as (by rfl) rfl rfl ?_
 simp only [Act.put, pu]
 refine pw_nil ?_
 go_wp2
 go_ret
 exact ⟨rfl, sb⟩
set_option maxRecDepth 100000 in
set_option maxHeartbeats 2000000 in
theorem rsub8_any (x y q : Nat) (w : World) (h0 : 0 < q) (hx : x < q) (hy : y < q) (hq : q < 4611686018427387904) :
  Calls Try.prog 18 #[.int .i64 (x : Nat), .int .i64 (y : Nat), .int .i64 (q : Nat)] w fun e w' => e = .returned (.int .i64 (sbN x y q : Nat)) ∧ Below w.heap.size w w' := by
 have hs : (x + q - y) % q = sbN x y q := sb_of x y q hx hy
 generalize sbN x y q = S at *
 go_enter Try.func18, Try.ntmps18
 have sb := Below.refl w.heap.size w
 (repeat ((fail_if_success with_reducible refine rg ?_); go_step))
 refine wp_region_pw ?_
 refine pw_value (by rfl) (.int .i64 0) (fun _ => rfl) ?_
 simp only [Act.put, pu]
 refine pw_nil ?_
 (repeat ((fail_if_success with_reducible refine rg ?_); go_step))
 refine wp_region_pw ?_
 refine pw_mv (by rfl) rfl rfl ?_
 simp only [Act.put, pu]
 refine pw_mv (by rfl) rfl rfl ?_
 simp only [Act.put, pu]
 refine pw_value (by rfl) (.int .i64 ((x + q : Nat) : Int)) (exec_add_in _ _ _ _ rfl x q rfl rfl (by omega)) ?_
 simp only [Act.put, pu]
 refine pw_mv (by rfl) rfl rfl ?_
 simp only [Act.put, pu]
 refine pw_value (by rfl) (.int .i64 ((x + q - y : Nat) : Int)) (exec_sub_in _ _ _ _ rfl (x + q) y rfl rfl (by omega) (by omega)) ?_
 simp only [Act.put, pu]
 refine pw_mv (by rfl) rfl rfl ?_
 simp only [Act.put, pu]
 refine pw_value (by rfl) (.int .i64 (S : Nat)) (fun w' => (exec_rem_i _ _ _ _ rfl (x + q - y) q rfl rfl h0 w').trans (by rw [hs])) ?_
 simp only [Act.put, pu]
 refine pw_as (by rfl) rfl rfl ?_
 simp only [Act.put, pu]
 refine pw_nil ?_
 go_wp2
 go_ret
 exact ⟨rfl, sb⟩
set_option maxRecDepth 100000 in
set_option maxHeartbeats 2000000 in
theorem rmul8_any (x y q : Nat) (w : World) (h0 : 0 < q) (hq : q < 4611686018427387904) :
  Calls Try.prog 20 #[.int .i64 (x : Nat), .int .i64 (y : Nat), .int .i64 (q : Nat)] w fun e w' => e = .returned (.int .i64 (x * y % q : Nat)) ∧ Below w.heap.size w w' := by
 have hti := fun w' => rtimes_any x y q w' h0 hq
 generalize x * y % q = T at *
 clear h0 hq
 go_enter Try.func20, Try.ntmps20
 have sb := Below.refl w.heap.size w
 (repeat ((fail_if_success with_reducible refine rg ?_); go_step))
 refine wp_region_pw ?_
 refine pw_value (by rfl) (.int .i64 0) (fun _ => rfl) ?_
 simp only [Act.put, pu]
 refine pw_nil ?_
 (repeat ((fail_if_success with_reducible refine rg ?_); go_step))
 refine wp_region_pw ?_
 refine pw_mv (by rfl) rfl rfl ?_
 simp only [Act.put, pu]
 refine pw_mv (by rfl) rfl rfl ?_
 simp only [Act.put, pu]
 refine pw_mv (by rfl) rfl rfl ?_
 simp only [Act.put, pu]
 refine pw_callB (by rfl) 44 _ _ rfl Try.func44 (by kernel_rfl) #[.int .i64 (x : Nat), .int .i64 (y : Nat), .int .i64 (q : Nat)] rfl _ (hti _) ?_
 intro z1003 k
 simp only [Act.put, pu]
 replace sb := sb.trans (k.below w.heap.size sb.size (by simp <;> omega))
 clear k
 refine pw_as (by rfl) rfl rfl ?_
 simp only [Act.put, pu]
 refine pw_nil ?_
 go_wp2
 go_ret
 exact ⟨rfl, sb⟩
set_option maxRecDepth 100000 in
set_option maxHeartbeats 2000000 in
theorem rinv8_zero (q : Nat) (w : World) :
  Calls Try.prog 22 #[.int .i64 ((0 : Nat) : Int), .int .i64 (q : Nat)] w fun e w' => e = .returned (.int .i64 ((0 : Nat) : Int)) ∧ Below w.heap.size w w' := by
 go_enter Try.func22, Try.ntmps22
 have sb := Below.refl w.heap.size w
 (repeat ((fail_if_success with_reducible refine rg ?_); go_step))
 refine wp_region_pw ?_
 refine pw_value (by rfl) (.int .i64 0) (fun _ => rfl) ?_
 simp only [Act.put, pu]
 refine pw_nil ?_
 (repeat ((fail_if_success with_reducible refine rg ?_); go_step))
 refine wp_region_pw ?_
 refine pw_mv (by rfl) rfl rfl ?_
 simp only [Act.put, pu]
 refine pw_value (by rfl) (.bool true) (exec_eql_k .i64 _ _ _ _ rfl ((0 : Nat) : Int) 0 rfl rfl true rfl) ?_
 simp only [Act.put, pu]
 refine pw_nil ?_
 (repeat ((fail_if_success with_reducible refine rg ?_); go_step))
 refine wp_region_pw ?_
 refine pw_value (by rfl) (.int .i64 0) (fun _ => rfl) ?_
 simp only [Act.put, pu]
 refine pw_nil ?_
 go_wp2
 go_ret
 exact ⟨rfl, sb⟩
set_option maxRecDepth 100000 in
set_option maxHeartbeats 2000000 in
theorem rinv8_more (x q : Nat) (w : World) (hx : x ≠ 0) (h2 : 2 ≤ q) (hq : q < 4611686018427387904) :
  Calls Try.prog 22 #[.int .i64 (x : Nat), .int .i64 (q : Nat)] w fun e w' => e = .returned (.int .i64 (x ^ (q - 2) % q : Nat)) ∧ Below w.heap.size w w' := by
 have hin := fun w' => rint_any ((q - 2 : Nat) : Int) w' (by omega)
 rw [Int.toNat_natCast] at hin
 have hpo := fun w' => rpower_any x (q - 2) q w' (by omega) (by omega) hq
 generalize x ^ (q - 2) % q = T at *
 go_enter Try.func22, Try.ntmps22
 have sb := Below.refl w.heap.size w
 (repeat ((fail_if_success with_reducible refine rg ?_); go_step))
 refine wp_region_pw ?_
 refine pw_value (by rfl) (.int .i64 0) (fun _ => rfl) ?_
 simp only [Act.put, pu]
 refine pw_nil ?_
 (repeat ((fail_if_success with_reducible refine rg ?_); go_step))
 refine wp_region_pw ?_
 refine pw_mv (by rfl) rfl rfl ?_
 simp only [Act.put, pu]
 refine pw_value (by rfl) (.bool false) (exec_eql_k .i64 _ _ _ _ rfl (x : Nat) 0 rfl rfl false (decide_eq_false (by omega))) ?_
 simp only [Act.put, pu]
 refine pw_nil ?_
 (repeat ((fail_if_success with_reducible refine rg ?_); go_step))
 refine wp_region_pw ?_
 refine pw_mv (by rfl) rfl rfl ?_
 simp only [Act.put, pu]
 refine pw_mv (by rfl) rfl rfl ?_
 simp only [Act.put, pu]
 refine pw_value (by rfl) (.int .i64 ((q - 2 : Nat) : Int)) (exec_sub_in _ _ _ _ rfl q 2 rfl rfl h2 (by omega)) ?_
 simp only [Act.put, pu]
 refine pw_callB (by rfl) 37 _ _ rfl Try.func37 (by kernel_rfl) #[.int .i64 ((q - 2 : Nat) : Int)] rfl _ (hin _) ?_
 intro z3003 k
 simp only [Act.put, pu]
 replace sb := sb.trans (k.below w.heap.size sb.size (by simp <;> omega))
 clear k
 refine pw_mv (by rfl) rfl rfl ?_
 simp only [Act.put, pu]
 refine pw_callB (by rfl) 46 _ _ rfl Try.func46 (by kernel_rfl) #[.int .i64 (x : Nat), .agg (natC (q - 2)), .int .i64 (q : Nat)] rfl _ (hpo _) ?_
 intro z3005 k
 simp only [Act.put, pu]
 replace sb := sb.trans (k.below w.heap.size sb.size (by simp <;> omega))
 clear k
 refine pw_as (by rfl) rfl rfl ?_
 simp only [Act.put, pu]
 refine pw_nil ?_
 go_wp2
 go_ret
 exact ⟨rfl, sb⟩
theorem rinv8_any (x q : Nat) (w : World) (h2 : 2 ≤ q) (hq : q < 4611686018427387904) :
  Calls Try.prog 22 #[.int .i64 (x : Nat), .int .i64 (q : Nat)] w fun e w' => e = .returned (.int .i64 (ivN x q : Nat)) ∧ Below w.heap.size w w' := by
 unfold ivN
 by_cases h : x = 0
 ·subst h
  exact rinv8_zero q w
 ·rw [if_neg h]
  exact rinv8_more x q w h h2 hq
/-- One of the two small groups. -/
def pk2 {α : Type} (b : Bool) (x y : α) : α := if b = true then x else y
set_option maxRecDepth 100000 in
set_option maxHeartbeats 2000000 in
theorem rpick_1 (a0 z : Int) (w : World) (hz : bits .and .i64 a0 1 = z) (h : decide (z = 1) = true) :
  Calls Try.prog 7 #[.int .i64 a0] w fun e w' => ∃ g, e = .returned (.agg (paC (some ⟨g, 0, none⟩) 3 3 otG)) ∧ w.heap.size ≤ g ∧ Row w' g (lksC 3 (lN otL) twoA) 69 ∧ Below w.heap.size w w' := by
 go_enter Try.func7, Try.ntmps7
 (repeat ((fail_if_success with_reducible refine rg ?_); go_step))
 refine wp_region_pw ?_
 refine pw_new (by rfl) 27 rfl _ zero_pa ?_
 intro g2 z0 n0 r2 k
 simp only [Act.put, pu]
 have b2 : w.heap.size ≤ g2 := n0
 clear n0
 have sb := k.below w.heap.size (Nat.le_refl _) (by simp)
 clear k
 refine pw_nil ?_
 (repeat ((fail_if_success with_reducible refine rg ?_); go_step))
 refine wp_region_pw ?_
 refine pw_mv (by rfl) rfl rfl ?_
 simp only [Act.put, pu]
 refine pw_value (by rfl) (.int .i64 z) (fun w' => (exec_bits_i .and _ _ _ _ (.inl rfl) rfl a0 1 rfl rfl w').trans (by rw [hz])) ?_
 simp only [Act.put, pu]
 refine pw_value (by rfl) (.bool true) (exec_eql_k .i64 _ _ _ _ rfl z 1 rfl rfl true h) ?_
 simp only [Act.put, pu]
 refine pw_nil ?_
 (repeat ((fail_if_success with_reducible refine rg ?_); go_step))
 refine wp_region_pw ?_
 refine pw_callE (by rfl) 26 _ _ rfl Try.func26 (by kernel_rfl) #[] rfl (rother_any _) ?_
 rintro _ z2000 ⟨gL, rfl, nL, rL, hb⟩
 refine ⟨_, rfl, ?_⟩
 simp only [Act.put, pu]
 have d2xL := Nat.lt_of_lt_of_le r2.lt nL
 have bL := Nat.le_trans sb.size nL
 clear nL
 have k := Kept.ofBelow hb
 clear hb
 replace r2 := k.row r2 (by simp <;> omega)
 replace sb := sb.trans (k.below w.heap.size sb.size (by simp <;> omega))
 clear k
 refine pw_put (by rfl) 27 _ _ rfl _ rfl r2 (paC (some ⟨gL, 0, none⟩) 3 3 otG) rfl (by exact size_pa) (by rfl) (pa_one _ _ _ _) ?_
 clear r2
 intro z2001 r2 k
 simp only [Act.put]
 replace rL := k.row rL (by simp <;> omega)
 replace sb := sb.trans (k.below w.heap.size sb.size (by simp <;> omega))
 clear k
 refine pw_nil ?_
 go_wp2
 exact ret_rowd rfl _ rfl r2 _ Try.underlying27 (by exact size_pa) rfl ⟨gL, rfl, bL, rL, sb⟩
set_option maxRecDepth 100000 in
set_option maxHeartbeats 2000000 in
theorem rpick_0 (a0 z : Int) (w : World) (hz : bits .and .i64 a0 1 = z) (h : decide (z = 1) = false) :
  Calls Try.prog 7 #[.int .i64 a0] w fun e w' => ∃ g, e = .returned (.agg (paC (some ⟨g, 0, none⟩) 3 3 leG)) ∧ w.heap.size ≤ g ∧ Row w' g (lksC 3 (lN leL) twoA) 69 ∧ Below w.heap.size w w' := by
 go_enter Try.func7, Try.ntmps7
 (repeat ((fail_if_success with_reducible refine rg ?_); go_step))
 refine wp_region_pw ?_
 refine pw_new (by rfl) 27 rfl _ zero_pa ?_
 intro g2 z0 n0 r2 k
 simp only [Act.put, pu]
 have b2 : w.heap.size ≤ g2 := n0
 clear n0
 have sb := k.below w.heap.size (Nat.le_refl _) (by simp)
 clear k
 refine pw_nil ?_
 (repeat ((fail_if_success with_reducible refine rg ?_); go_step))
 refine wp_region_pw ?_
 refine pw_mv (by rfl) rfl rfl ?_
 simp only [Act.put, pu]
 refine pw_value (by rfl) (.int .i64 z) (fun w' => (exec_bits_i .and _ _ _ _ (.inl rfl) rfl a0 1 rfl rfl w').trans (by rw [hz])) ?_
 simp only [Act.put, pu]
 refine pw_value (by rfl) (.bool false) (exec_eql_k .i64 _ _ _ _ rfl z 1 rfl rfl false h) ?_
 simp only [Act.put, pu]
 refine pw_nil ?_
 (repeat ((fail_if_success with_reducible refine rg ?_); go_step))
 refine wp_region_pw ?_
 refine pw_callE (by rfl) 25 _ _ rfl Try.func25 (by kernel_rfl) #[] rfl (rleast_any _) ?_
 rintro _ z3000 ⟨gL, rfl, nL, rL, hb⟩
 refine ⟨_, rfl, ?_⟩
 simp only [Act.put, pu]
 have d2xL := Nat.lt_of_lt_of_le r2.lt nL
 have bL := Nat.le_trans sb.size nL
 clear nL
 have k := Kept.ofBelow hb
 clear hb
 replace r2 := k.row r2 (by simp <;> omega)
 replace sb := sb.trans (k.below w.heap.size sb.size (by simp <;> omega))
 clear k
 refine pw_put (by rfl) 27 _ _ rfl _ rfl r2 (paC (some ⟨gL, 0, none⟩) 3 3 leG) rfl (by exact size_pa) (by rfl) (pa_one _ _ _ _) ?_
 clear r2
 intro z3001 r2 k
 simp only [Act.put]
 replace rL := k.row rL (by simp <;> omega)
 replace sb := sb.trans (k.below w.heap.size sb.size (by simp <;> omega))
 clear k
 refine pw_nil ?_
 go_wp2
 exact ret_rowd rfl _ rfl r2 _ Try.underlying27 (by exact size_pa) rfl ⟨gL, rfl, bL, rL, sb⟩
/-- Whether the second of the two is picked. -/
def pkB (a0 : Int) : Bool := decide (bits .and .i64 a0 1 = 1)
theorem rpick_any (a0 : Int) (w : World) :
  Calls Try.prog 7 #[.int .i64 a0] w fun e w' => ∃ g, e = .returned (.agg (paC (some ⟨g, 0, none⟩) 3 3 (pk2 (pkB a0) otG leG))) ∧ w.heap.size ≤ g ∧ Row w' g (lksC 3 (lN (pk2 (pkB a0) otL leL)) twoA) 69 ∧ Below w.heap.size w w' := by
 cases h : pkB a0 with
 | true => exact rpick_1 a0 _ w rfl h
 | false => exact rpick_0 a0 _ w rfl h
theorem pk2_gr (b : Bool) : grN 3 (lN (pk2 b otL leL)) twoA (pk2 b otG leG) = true ∧ (∀ i, i < 3 → lN (pk2 b otL leL) i < 2 ^ 256) ∧ pk2 b otG leG < 2 ^ 256 ∧ lN (pk2 b otL leL) (3 - 2) < 4611686018427387904 := by
 cases b with
 | true => exact ⟨other_is, ot_lt, by decide, by decide⟩
 | false => exact ⟨least_is, le_lt, by decide, by decide⟩
end Go.Proofs.Ytcgeimbfijpocaa
