/- The small functions of package sha, and of the document's. -/
import Derived.Test.YtdanmnhknmepiaaDoorSLaw
namespace Go.Proofs.YtdanmnhknmepiaaDoor
open Go.RowKit
set_option linter.unusedVariables false
theorem rot_and (n : Nat) (h1 : 1 ≤ n) (h2 : n ≤ 31) : (18446744073709551616 - n) &&& 31 = 32 - n := by
 rw [show 31 = 2 ^ 5 - 1 from rfl, Nat.and_two_pow_sub_one_eq_mod]; omega
set_option maxRecDepth 100000 in
set_option maxHeartbeats 2000000 in
theorem rotl_any (x n : Nat) (w : World) (hx : x < 4294967296) (h1 : 1 ≤ n) (h2 : n ≤ 31) :
  Calls Tryd.prog 52 #[.int .u32 x, .int .i64 (-(n : Int))] w fun e w' => e = .returned (.int .u32 (rr x n : Nat)) ∧ Below w.heap.size w w' := by
 go_enter Tryd.func52, Tryd.ntmps52
 (repeat ((fail_if_success with_reducible refine rg ?_); go_step))
 apply wp_region_mixp [] [_] trivial List.nodup_nil
 ·intro p
  refine mx_val (.int .u32 0) (fun _ => rfl) ?_
  simp only [Act.put, pu]
  refine mx_end ?_
  intro w2 hkw hrw hnew hdis
  have sb := hkw.below w.heap.size (Nat.le_refl _) (by simp)
  clear hkw hrw hnew hdis
  (repeat ((fail_if_success with_reducible refine rg ?_); go_step))
  refine wp_region_qp ?_
  refine qw_move (by rfl) rfl rfl ?_
  simp only [Act.put, pu]
  refine qw_value (by rfl) (.int .u64 (18446744073709551616 - n : Nat)) (x_conv _ _ _ rfl .i64 .u64 Tryd.underlying3 Tryd.underlying72 (-(n : Int)) _ rfl (by rw [IntKind.wrap_u64]; omega)) ?_
  simp only [Act.put, pu]
  refine qw_value (by rfl) (.int .u64 (32 - n : Nat)) (x64_and _ _ _ _ rfl (18446744073709551616 - n) 31 _ rfl rfl (by omega) (by decide) (rot_and n h1 h2)) ?_
  simp only [Act.put, pu]
  refine qw_asg (by rfl) rfl rfl ?_
  simp only [Act.put, pu]
  refine qw_nil ?_
  intro w3 hqb
  replace sb := below_on sb (Nat.le_refl _) hqb
  clear hqb
  (repeat ((fail_if_success with_reducible refine rg ?_); go_step))
  refine wp_region_qp ?_
  refine qw_move (by rfl) rfl rfl ?_
  simp only [Act.put, pu]
  refine qw_move (by rfl) rfl rfl ?_
  simp only [Act.put, pu]
  refine qw_value (by rfl) (.int .u32 (x * 2 ^ (32 - n) % 4294967296 : Nat)) (x32_shl _ _ _ _ rfl x (32 - n) _ .u64 rfl rfl (by omega) rfl) ?_
  simp only [Act.put, pu]
  refine qw_move (by rfl) rfl rfl ?_
  simp only [Act.put, pu]
  refine qw_move (by rfl) rfl rfl ?_
  simp only [Act.put, pu]
  refine qw_value (by rfl) (.int .u64 (n : Nat)) ((fun w' => (x64_sub _ _ _ _ rfl 32 (32 - n) rfl rfl (by omega) (by decide) w').trans (by rw [show 32 - (32 - n) = n by omega]))) ?_
  simp only [Act.put, pu]
  refine qw_value (by rfl) (.int .u32 ((x) / 2 ^ n : Nat)) (x32_shr _ _ _ _ rfl (x) (n) .u64 rfl rfl (by omega)) ?_
  simp only [Act.put, pu]
  refine qw_value (by rfl) (.int .u32 (rr x n : Nat)) ((fun w' => (x32_or _ _ _ _ rfl (x * 2 ^ (32 - n) % 4294967296) (x / 2 ^ n) rfl rfl (mod32 _) (div32 hx) w').trans (by rw [Nat.or_comm]; rfl))) ?_
  simp only [Act.put, pu]
  refine qw_asg (by rfl) rfl rfl ?_
  simp only [Act.put, pu]
  refine qw_nil ?_
  intro w4 hqb
  replace sb := below_on sb (Nat.le_refl _) hqb
  clear hqb
  go_wp2
  go_ret
  exact ⟨rfl, sb⟩
 ·rfl
set_option maxRecDepth 100000 in
set_option maxHeartbeats 2000000 in
theorem rotr_any (x n : Nat) (w : World) (hx : x < 4294967296) (h1 : 1 ≤ n) (h2 : n ≤ 31) :
  Calls Tryd.prog 51 #[.int .u32 x, .int .i64 n] w fun e w' => e = .returned (.int .u32 (rr x n : Nat)) ∧ Below w.heap.size w w' := by
 go_enter Tryd.func51, Tryd.ntmps51
 (repeat ((fail_if_success with_reducible refine rg ?_); go_step))
 apply wp_region_mixp [] [_] trivial List.nodup_nil
 ·intro p
  refine mx_val (.int .u32 0) (fun _ => rfl) ?_
  simp only [Act.put, pu]
  refine mx_end ?_
  intro w2 hkw hrw hnew hdis
  have sb := hkw.below w.heap.size (Nat.le_refl _) (by simp)
  clear hkw hrw hnew hdis
  (repeat ((fail_if_success with_reducible refine rg ?_); go_step))
  refine wp_region_qp ?_
  refine qw_move (by rfl) rfl rfl ?_
  simp only [Act.put, pu]
  refine qw_move (by rfl) rfl rfl ?_
  simp only [Act.put, pu]
  refine qw_value (by rfl) (.int .i64 (-(n : Int))) (xi_neg _ _ rfl n rfl (by omega)) ?_
  simp only [Act.put, pu]
  refine qw_call (by rfl) 52 _ _ rfl Tryd.func52 (by kernel_rfl) #[.int .u32 x, .int .i64 (-(n : Int))] rfl _ (fun w' => rotl_any x n w' hx h1 h2) ?_
  simp only [Act.put, pu]
  refine qw_asg (by rfl) rfl rfl ?_
  simp only [Act.put, pu]
  refine qw_nil ?_
  intro w3 hqb
  replace sb := below_on sb (Nat.le_refl _) hqb
  clear hqb
  go_wp2
  go_ret
  exact ⟨rfl, sb⟩
 ·rfl
set_option maxRecDepth 100000 in
set_option maxHeartbeats 2000000 in
theorem sigma0_any (x : Nat) (w : World) (hx : x < 4294967296) :
  Calls Tryd.prog 50 #[.int .u32 x] w fun e w' => e = .returned (.int .u32 (ss0 x : Nat)) ∧ Below w.heap.size w w' := by
 go_enter Tryd.func50, Tryd.ntmps50
 (repeat ((fail_if_success with_reducible refine rg ?_); go_step))
 apply wp_region_mixp [] [_] trivial List.nodup_nil
 ·intro p
  refine mx_val (.int .u32 0) (fun _ => rfl) ?_
  simp only [Act.put, pu]
  refine mx_end ?_
  intro w2 hkw hrw hnew hdis
  have sb := hkw.below w.heap.size (Nat.le_refl _) (by simp)
  clear hkw hrw hnew hdis
  (repeat ((fail_if_success with_reducible refine rg ?_); go_step))
  refine wp_region_qp ?_
  refine qw_move (by rfl) rfl rfl ?_
  simp only [Act.put, pu]
  refine qw_call (by rfl) 51 _ _ rfl Tryd.func51 (by kernel_rfl) #[.int .u32 x, .int .i64 7] rfl _ (fun w' => rotr_any x 7 w' hx (by decide) (by decide)) ?_
  simp only [Act.put, pu]
  refine qw_move (by rfl) rfl rfl ?_
  simp only [Act.put, pu]
  refine qw_call (by rfl) 51 _ _ rfl Tryd.func51 (by kernel_rfl) #[.int .u32 x, .int .i64 18] rfl _ (fun w' => rotr_any x 18 w' hx (by decide) (by decide)) ?_
  simp only [Act.put, pu]
  refine qw_value (by rfl) (.int .u32 ((rr x 7) ^^^ (rr x 18) : Nat)) (x32_xor _ _ _ _ rfl (rr x 7) (rr x 18) rfl rfl (rr_lt 7 hx) (rr_lt 18 hx)) ?_
  simp only [Act.put, pu]
  refine qw_move (by rfl) rfl rfl ?_
  simp only [Act.put, pu]
  refine qw_value (by rfl) (.int .u32 ((x) / 2 ^ 3 : Nat)) (x32_shr _ _ _ _ rfl (x) (3) .u64 rfl rfl (by omega)) ?_
  simp only [Act.put, pu]
  refine qw_value (by rfl) (.int .u32 (((rr x 7) ^^^ (rr x 18)) ^^^ ((x) / 2 ^ 3) : Nat)) (x32_xor _ _ _ _ rfl ((rr x 7) ^^^ (rr x 18)) ((x) / 2 ^ 3) rfl rfl (xor32 (rr_lt 7 hx) (rr_lt 18 hx)) (div32 hx)) ?_
  simp only [Act.put, pu]
  refine qw_asg (by rfl) rfl rfl ?_
  simp only [Act.put, pu]
  refine qw_nil ?_
  intro w3 hqb
  replace sb := below_on sb (Nat.le_refl _) hqb
  clear hqb
  go_wp2
  go_ret
  exact ⟨rfl, sb⟩
 ·rfl
set_option maxRecDepth 100000 in
set_option maxHeartbeats 2000000 in
theorem sigma1_any (x : Nat) (w : World) (hx : x < 4294967296) :
  Calls Tryd.prog 49 #[.int .u32 x] w fun e w' => e = .returned (.int .u32 (ss1 x : Nat)) ∧ Below w.heap.size w w' := by
 go_enter Tryd.func49, Tryd.ntmps49
 (repeat ((fail_if_success with_reducible refine rg ?_); go_step))
 apply wp_region_mixp [] [_] trivial List.nodup_nil
 ·intro p
  refine mx_val (.int .u32 0) (fun _ => rfl) ?_
  simp only [Act.put, pu]
  refine mx_end ?_
  intro w2 hkw hrw hnew hdis
  have sb := hkw.below w.heap.size (Nat.le_refl _) (by simp)
  clear hkw hrw hnew hdis
  (repeat ((fail_if_success with_reducible refine rg ?_); go_step))
  refine wp_region_qp ?_
  refine qw_move (by rfl) rfl rfl ?_
  simp only [Act.put, pu]
  refine qw_call (by rfl) 51 _ _ rfl Tryd.func51 (by kernel_rfl) #[.int .u32 x, .int .i64 17] rfl _ (fun w' => rotr_any x 17 w' hx (by decide) (by decide)) ?_
  simp only [Act.put, pu]
  refine qw_move (by rfl) rfl rfl ?_
  simp only [Act.put, pu]
  refine qw_call (by rfl) 51 _ _ rfl Tryd.func51 (by kernel_rfl) #[.int .u32 x, .int .i64 19] rfl _ (fun w' => rotr_any x 19 w' hx (by decide) (by decide)) ?_
  simp only [Act.put, pu]
  refine qw_value (by rfl) (.int .u32 ((rr x 17) ^^^ (rr x 19) : Nat)) (x32_xor _ _ _ _ rfl (rr x 17) (rr x 19) rfl rfl (rr_lt 17 hx) (rr_lt 19 hx)) ?_
  simp only [Act.put, pu]
  refine qw_move (by rfl) rfl rfl ?_
  simp only [Act.put, pu]
  refine qw_value (by rfl) (.int .u32 ((x) / 2 ^ 10 : Nat)) (x32_shr _ _ _ _ rfl (x) (10) .u64 rfl rfl (by omega)) ?_
  simp only [Act.put, pu]
  refine qw_value (by rfl) (.int .u32 (((rr x 17) ^^^ (rr x 19)) ^^^ ((x) / 2 ^ 10) : Nat)) (x32_xor _ _ _ _ rfl ((rr x 17) ^^^ (rr x 19)) ((x) / 2 ^ 10) rfl rfl (xor32 (rr_lt 17 hx) (rr_lt 19 hx)) (div32 hx)) ?_
  simp only [Act.put, pu]
  refine qw_asg (by rfl) rfl rfl ?_
  simp only [Act.put, pu]
  refine qw_nil ?_
  intro w3 hqb
  replace sb := below_on sb (Nat.le_refl _) hqb
  clear hqb
  go_wp2
  go_ret
  exact ⟨rfl, sb⟩
 ·rfl
set_option maxRecDepth 100000 in
set_option maxHeartbeats 2000000 in
theorem big0_any (x : Nat) (w : World) (hx : x < 4294967296) :
  Calls Tryd.prog 44 #[.int .u32 x] w fun e w' => e = .returned (.int .u32 (bs0 x : Nat)) ∧ Below w.heap.size w w' := by
 go_enter Tryd.func44, Tryd.ntmps44
 (repeat ((fail_if_success with_reducible refine rg ?_); go_step))
 apply wp_region_mixp [] [_] trivial List.nodup_nil
 ·intro p
  refine mx_val (.int .u32 0) (fun _ => rfl) ?_
  simp only [Act.put, pu]
  refine mx_end ?_
  intro w2 hkw hrw hnew hdis
  have sb := hkw.below w.heap.size (Nat.le_refl _) (by simp)
  clear hkw hrw hnew hdis
  (repeat ((fail_if_success with_reducible refine rg ?_); go_step))
  refine wp_region_qp ?_
  refine qw_move (by rfl) rfl rfl ?_
  simp only [Act.put, pu]
  refine qw_call (by rfl) 51 _ _ rfl Tryd.func51 (by kernel_rfl) #[.int .u32 x, .int .i64 2] rfl _ (fun w' => rotr_any x 2 w' hx (by decide) (by decide)) ?_
  simp only [Act.put, pu]
  refine qw_move (by rfl) rfl rfl ?_
  simp only [Act.put, pu]
  refine qw_call (by rfl) 51 _ _ rfl Tryd.func51 (by kernel_rfl) #[.int .u32 x, .int .i64 13] rfl _ (fun w' => rotr_any x 13 w' hx (by decide) (by decide)) ?_
  simp only [Act.put, pu]
  refine qw_value (by rfl) (.int .u32 ((rr x 2) ^^^ (rr x 13) : Nat)) (x32_xor _ _ _ _ rfl (rr x 2) (rr x 13) rfl rfl (rr_lt 2 hx) (rr_lt 13 hx)) ?_
  simp only [Act.put, pu]
  refine qw_move (by rfl) rfl rfl ?_
  simp only [Act.put, pu]
  refine qw_call (by rfl) 51 _ _ rfl Tryd.func51 (by kernel_rfl) #[.int .u32 x, .int .i64 22] rfl _ (fun w' => rotr_any x 22 w' hx (by decide) (by decide)) ?_
  simp only [Act.put, pu]
  refine qw_value (by rfl) (.int .u32 (((rr x 2) ^^^ (rr x 13)) ^^^ (rr x 22) : Nat)) (x32_xor _ _ _ _ rfl ((rr x 2) ^^^ (rr x 13)) (rr x 22) rfl rfl (xor32 (rr_lt 2 hx) (rr_lt 13 hx)) (rr_lt 22 hx)) ?_
  simp only [Act.put, pu]
  refine qw_asg (by rfl) rfl rfl ?_
  simp only [Act.put, pu]
  refine qw_nil ?_
  intro w3 hqb
  replace sb := below_on sb (Nat.le_refl _) hqb
  clear hqb
  go_wp2
  go_ret
  exact ⟨rfl, sb⟩
 ·rfl
set_option maxRecDepth 100000 in
set_option maxHeartbeats 2000000 in
theorem big1_any (x : Nat) (w : World) (hx : x < 4294967296) :
  Calls Tryd.prog 42 #[.int .u32 x] w fun e w' => e = .returned (.int .u32 (bs1 x : Nat)) ∧ Below w.heap.size w w' := by
 go_enter Tryd.func42, Tryd.ntmps42
 (repeat ((fail_if_success with_reducible refine rg ?_); go_step))
 apply wp_region_mixp [] [_] trivial List.nodup_nil
 ·intro p
  refine mx_val (.int .u32 0) (fun _ => rfl) ?_
  simp only [Act.put, pu]
  refine mx_end ?_
  intro w2 hkw hrw hnew hdis
  have sb := hkw.below w.heap.size (Nat.le_refl _) (by simp)
  clear hkw hrw hnew hdis
  (repeat ((fail_if_success with_reducible refine rg ?_); go_step))
  refine wp_region_qp ?_
  refine qw_move (by rfl) rfl rfl ?_
  simp only [Act.put, pu]
  refine qw_call (by rfl) 51 _ _ rfl Tryd.func51 (by kernel_rfl) #[.int .u32 x, .int .i64 6] rfl _ (fun w' => rotr_any x 6 w' hx (by decide) (by decide)) ?_
  simp only [Act.put, pu]
  refine qw_move (by rfl) rfl rfl ?_
  simp only [Act.put, pu]
  refine qw_call (by rfl) 51 _ _ rfl Tryd.func51 (by kernel_rfl) #[.int .u32 x, .int .i64 11] rfl _ (fun w' => rotr_any x 11 w' hx (by decide) (by decide)) ?_
  simp only [Act.put, pu]
  refine qw_value (by rfl) (.int .u32 ((rr x 6) ^^^ (rr x 11) : Nat)) (x32_xor _ _ _ _ rfl (rr x 6) (rr x 11) rfl rfl (rr_lt 6 hx) (rr_lt 11 hx)) ?_
  simp only [Act.put, pu]
  refine qw_move (by rfl) rfl rfl ?_
  simp only [Act.put, pu]
  refine qw_call (by rfl) 51 _ _ rfl Tryd.func51 (by kernel_rfl) #[.int .u32 x, .int .i64 25] rfl _ (fun w' => rotr_any x 25 w' hx (by decide) (by decide)) ?_
  simp only [Act.put, pu]
  refine qw_value (by rfl) (.int .u32 (((rr x 6) ^^^ (rr x 11)) ^^^ (rr x 25) : Nat)) (x32_xor _ _ _ _ rfl ((rr x 6) ^^^ (rr x 11)) (rr x 25) rfl rfl (xor32 (rr_lt 6 hx) (rr_lt 11 hx)) (rr_lt 25 hx)) ?_
  simp only [Act.put, pu]
  refine qw_asg (by rfl) rfl rfl ?_
  simp only [Act.put, pu]
  refine qw_nil ?_
  intro w3 hqb
  replace sb := below_on sb (Nat.le_refl _) hqb
  clear hqb
  go_wp2
  go_ret
  exact ⟨rfl, sb⟩
 ·rfl
set_option maxRecDepth 100000 in
set_option maxHeartbeats 2000000 in
theorem choice_any (x y z : Nat) (w : World) (hx : x < 4294967296) (hy : y < 4294967296) (hz : z < 4294967296) :
  Calls Tryd.prog 43 #[.int .u32 x, .int .u32 y, .int .u32 z] w fun e w' => e = .returned (.int .u32 (chf x y z : Nat)) ∧ Below w.heap.size w w' := by
 go_enter Tryd.func43, Tryd.ntmps43
 (repeat ((fail_if_success with_reducible refine rg ?_); go_step))
 apply wp_region_mixp [] [_] trivial List.nodup_nil
 ·intro p
  refine mx_val (.int .u32 0) (fun _ => rfl) ?_
  simp only [Act.put, pu]
  refine mx_end ?_
  intro w2 hkw hrw hnew hdis
  have sb := hkw.below w.heap.size (Nat.le_refl _) (by simp)
  clear hkw hrw hnew hdis
  (repeat ((fail_if_success with_reducible refine rg ?_); go_step))
  refine wp_region_qp ?_
  refine qw_move (by rfl) rfl rfl ?_
  simp only [Act.put, pu]
  refine qw_move (by rfl) rfl rfl ?_
  simp only [Act.put, pu]
  refine qw_value (by rfl) (.int .u32 ((x) &&& (y) : Nat)) (x32_and _ _ _ _ rfl (x) (y) rfl rfl hx hy) ?_
  simp only [Act.put, pu]
  refine qw_move (by rfl) rfl rfl ?_
  simp only [Act.put, pu]
  refine qw_value (by rfl) (.int .u32 (4294967295 - (x) : Nat)) (x32_not _ _ rfl (x) rfl hx) ?_
  simp only [Act.put, pu]
  refine qw_move (by rfl) rfl rfl ?_
  simp only [Act.put, pu]
  refine qw_value (by rfl) (.int .u32 ((4294967295 - (x)) &&& (z) : Nat)) (x32_and _ _ _ _ rfl (4294967295 - (x)) (z) rfl rfl (by omega) hz) ?_
  simp only [Act.put, pu]
  refine qw_value (by rfl) (.int .u32 (((x) &&& (y)) ||| ((4294967295 - (x)) &&& (z)) : Nat)) (x32_or _ _ _ _ rfl ((x) &&& (y)) ((4294967295 - (x)) &&& (z)) rfl rfl (and32 hx) (and32 (by omega))) ?_
  simp only [Act.put, pu]
  refine qw_asg (by rfl) rfl rfl ?_
  simp only [Act.put, pu]
  refine qw_nil ?_
  intro w3 hqb
  replace sb := below_on sb (Nat.le_refl _) hqb
  clear hqb
  go_wp2
  go_ret
  exact ⟨by rw [← ch_or x y z hx]; rfl, sb⟩
 ·rfl
set_option maxRecDepth 100000 in
set_option maxHeartbeats 2000000 in
theorem major_any (x y z : Nat) (w : World) (hx : x < 4294967296) (hy : y < 4294967296) (hz : z < 4294967296) :
  Calls Tryd.prog 45 #[.int .u32 x, .int .u32 y, .int .u32 z] w fun e w' => e = .returned (.int .u32 (mjf x y z : Nat)) ∧ Below w.heap.size w w' := by
 go_enter Tryd.func45, Tryd.ntmps45
 (repeat ((fail_if_success with_reducible refine rg ?_); go_step))
 apply wp_region_mixp [] [_] trivial List.nodup_nil
 ·intro p
  refine mx_val (.int .u32 0) (fun _ => rfl) ?_
  simp only [Act.put, pu]
  refine mx_end ?_
  intro w2 hkw hrw hnew hdis
  have sb := hkw.below w.heap.size (Nat.le_refl _) (by simp)
  clear hkw hrw hnew hdis
  (repeat ((fail_if_success with_reducible refine rg ?_); go_step))
  refine wp_region_qp ?_
  refine qw_move (by rfl) rfl rfl ?_
  simp only [Act.put, pu]
  refine qw_move (by rfl) rfl rfl ?_
  simp only [Act.put, pu]
  refine qw_value (by rfl) (.int .u32 ((x) &&& (y) : Nat)) (x32_and _ _ _ _ rfl (x) (y) rfl rfl hx hy) ?_
  simp only [Act.put, pu]
  refine qw_move (by rfl) rfl rfl ?_
  simp only [Act.put, pu]
  refine qw_move (by rfl) rfl rfl ?_
  simp only [Act.put, pu]
  refine qw_value (by rfl) (.int .u32 ((x) &&& (z) : Nat)) (x32_and _ _ _ _ rfl (x) (z) rfl rfl hx hz) ?_
  simp only [Act.put, pu]
  refine qw_value (by rfl) (.int .u32 (((x) &&& (y)) ||| ((x) &&& (z)) : Nat)) (x32_or _ _ _ _ rfl ((x) &&& (y)) ((x) &&& (z)) rfl rfl (and32 hx) (and32 hx)) ?_
  simp only [Act.put, pu]
  refine qw_move (by rfl) rfl rfl ?_
  simp only [Act.put, pu]
  refine qw_move (by rfl) rfl rfl ?_
  simp only [Act.put, pu]
  refine qw_value (by rfl) (.int .u32 ((y) &&& (z) : Nat)) (x32_and _ _ _ _ rfl (y) (z) rfl rfl hy hz) ?_
  simp only [Act.put, pu]
  refine qw_value (by rfl) (.int .u32 ((((x) &&& (y)) ||| ((x) &&& (z))) ||| ((y) &&& (z)) : Nat)) (x32_or _ _ _ _ rfl (((x) &&& (y)) ||| ((x) &&& (z))) ((y) &&& (z)) rfl rfl (or32 (and32 hx) (and32 hx)) (and32 hy)) ?_
  simp only [Act.put, pu]
  refine qw_asg (by rfl) rfl rfl ?_
  simp only [Act.put, pu]
  refine qw_nil ?_
  intro w3 hqb
  replace sb := below_on sb (Nat.le_refl _) hqb
  clear hqb
  go_wp2
  go_ret
  exact ⟨by rw [← mj_or x y z]; rfl, sb⟩
 ·rfl
theorem rot_up (x n : Nat) (hx : x < 4294967296) (h1 : 2 ≤ n) (h2 : n ≤ 31) : x * 2 ^ (32 - n) < 4611686018427387904 := by
 have h3 : 2 ^ (32 - n) ≤ 2 ^ 30 := Nat.pow_le_pow_right (by omega) (by omega)
 have h4 : x * 2 ^ (32 - n) ≤ x * 2 ^ 30 := Nat.mul_le_mul_left x h3
 omega
theorem rot_or (x n : Nat) (hx : x < 4294967296) (h1 : 2 ≤ n) (h2 : n ≤ 31) : x / 2 ^ n ||| x * 2 ^ (32 - n) < 9223372036854775808 :=
 Nat.or_lt_two_pow (n := 63) (lt63 (div32 hx)) (Nat.lt_trans (rot_up x n hx h1 h2) (by decide))
set_option maxRecDepth 100000 in
set_option maxHeartbeats 2000000 in
theorem rrotr_any (x n : Nat) (w : World) (hx : x < 4294967296) (h1 : 2 ≤ n) (h2 : n ≤ 31) :
  Calls Tryd.prog 48 #[.int .i64 x, .int .i64 n] w fun e w' => e = .returned (.int .i64 (rr x n : Nat)) ∧ Below w.heap.size w w' := by
 go_enter Tryd.func48, Tryd.ntmps48
 (repeat ((fail_if_success with_reducible refine rg ?_); go_step))
 apply wp_region_mixp [] [_] trivial List.nodup_nil
 ·intro p
  refine mx_val (.int .i64 0) (fun _ => rfl) ?_
  simp only [Act.put, pu]
  refine mx_end ?_
  intro w2 hkw hrw hnew hdis
  have sb := hkw.below w.heap.size (Nat.le_refl _) (by simp)
  clear hkw hrw hnew hdis
  (repeat ((fail_if_success with_reducible refine rg ?_); go_step))
  refine wp_region_qw (by kernel_rfl) (by kernel_rfl) ?_
  refine qw_move (by rfl) rfl rfl ?_
  simp only [Act.put, pu]
  refine qw_move (by rfl) rfl rfl ?_
  simp only [Act.put, pu]
  refine qw_value (by rfl) (.int .i64 ((x) / 2 ^ n : Nat)) (xi_shr _ _ _ _ rfl (x) (n) .i64 rfl rfl (by omega)) ?_
  simp only [Act.put, pu]
  refine qw_move (by rfl) rfl rfl ?_
  simp only [Act.put, pu]
  refine qw_move (by rfl) rfl rfl ?_
  simp only [Act.put, pu]
  refine qw_value (by rfl) (.int .i64 (32 - n : Nat)) (xi_sub _ _ _ _ rfl (32) (n) rfl rfl (by omega) (by omega)) ?_
  simp only [Act.put, pu]
  refine qw_value (by rfl) (.int .i64 (x * 2 ^ (32 - n) : Nat)) (xi_shl _ _ _ _ rfl x (32 - n) .i64 rfl rfl (by omega) (Nat.lt_trans (rot_up x n hx h1 h2) (by decide))) ?_
  simp only [Act.put, pu]
  refine qw_value (by rfl) (.int .i64 (x / 2 ^ n ||| x * 2 ^ (32 - n) : Nat)) (xi_or _ _ _ _ rfl (x / 2 ^ n) (x * 2 ^ (32 - n)) rfl rfl (lt63 (div32 hx)) (Nat.lt_trans (rot_up x n hx h1 h2) (by decide))) ?_
  simp only [Act.put, pu]
  refine qw_value (by rfl) (.int .i64 (rr x n : Nat)) (xi_and _ _ _ _ rfl (x / 2 ^ n ||| x * 2 ^ (32 - n)) 4294967295 _ rfl rfl (rot_or x n hx h1 h2) (by decide) (rr_ref x n hx)) ?_
  simp only [Act.put, pu]
  refine qw_asg (by rfl) rfl rfl ?_
  simp only [Act.put, pu]
  refine qw_nil ?_
  intro w3 hqb
  replace sb := below_on sb (Nat.le_refl _) hqb
  clear hqb
  go_wp2
  go_ret
  exact ⟨rfl, sb⟩
 ·rfl
end Go.Proofs.YtdanmnhknmepiaaDoor
