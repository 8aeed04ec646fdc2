/- The document's step: of numbers below 2^31. -/
import Derived.Test.YtbmkebdfaokmhaaPutA
import Derived.Test.YtbmkebdfaokmhaaPStep
import Derived.Test.YtbmkebdfaokmhaaMRExp
namespace Go.Proofs.Ytbmkebdfaokmhaa
open Go.RowKit
theorem gcd_less (a b g : Nat) (h : b ≤ a) (h0 : 0 < b) (hp : a * b < 2 ^ (g + 1)) : b * (a % b) < 2 ^ g := by
 have h1 := Nat.mod_lt a h0
 have h2 : a % b + b ≤ a := by
  have := Nat.div_add_mod a b
  have hq : 1 ≤ a / b := Nat.div_pos h h0
  have : b * 1 ≤ b * (a / b) := Nat.mul_le_mul_left b hq
  omega
 have h3 : b * (a % b * 2) ≤ b * a := Nat.mul_le_mul_left b (by omega)
 rw [Nat.pow_succ] at hp
 rw [← Nat.mul_assoc, Nat.mul_comm b a] at h3
 omega
theorem gcd_end (a b : Nat) (h : 0 < a) (hp : a * b < 2 ^ 0) : b = 0 := by
 rcases Nat.eq_zero_or_pos b with h0 | h0
 ·exact h0
 ·have := Nat.mul_pos h h0
  omega
/-- Two numbers on the way to the greatest that goes into both, with so many turns left. -/
structure Euc (G g a b : Nat) : Prop where
 gcd : Nat.gcd a b = G
 lt : a * b < 2 ^ g
 way : (g = 64 ∧ a < b ∧ a * b < 4611686018427387904) ∨ (b ≤ a ∧ 0 < a)
 small : a < 2147483648 ∧ b < 2147483648
theorem Euc.next {G g a b : Nat} (h : Euc G (g + 1) a b) (hb : b ≠ 0) : Euc G g b (a % b) := by
 have hlt := Nat.mod_lt a (Nat.pos_of_ne_zero hb)
 refine ⟨?_, ?_, .inr ⟨Nat.le_of_lt hlt, Nat.pos_of_ne_zero hb⟩, h.small.2, by have := h.small.2; omega⟩
 ·rw [gcd_turn]; exact h.gcd
 ·rcases h.way with ⟨h1, h2, h3⟩ | ⟨h1, _⟩
  ·obtain rfl : g = 63 := by omega
   rw [Nat.mod_eq_of_lt h2, Nat.mul_comm]
   exact Nat.lt_trans h3 (by decide)
  ·exact gcd_less a b g h1 (Nat.pos_of_ne_zero hb) h.lt
theorem Euc.done {G g a : Nat} (h : Euc G g a 0) : a = G := by rw [← h.gcd, Nat.gcd_zero_right]
set_option maxRecDepth 100000 in
set_option maxHeartbeats 2000000 in
theorem rst_above (n f a : Nat) (w : World) (h : n < f) :
  Calls Try.prog 86 #[.int .i64 n, .int .i64 f, .int .i64 a] w fun e w' => e = .returned (.bool false) ∧ Below w.heap.size w w' := by
 go_enter Try.func86, Try.ntmps86
 (repeat ((fail_if_success with_reducible refine rg ?_); go_step))
 apply wp_region_mixp [] [_] trivial List.nodup_nil
 ·intro p
  refine mx_val (.bool false) (fun _ => rfl) ?_
  simp only [Act.put, pu]
  refine mx_end ?_
  intro w2 hkw hrw hnew hdis
  have sb := hkw.below w.heap.size (Nat.le_refl _) (by simp)
  clear hkw hrw hnew hdis
  (repeat ((fail_if_success with_reducible refine rg ?_); go_step))
  refine wp_region_qp ?_
  refine qw_move (by rfl) rfl rfl ?_
  simp only [Act.put, pu]
  refine qw_move (by rfl) rfl rfl ?_
  simp only [Act.put, pu]
  refine qw_value (by rfl) (.bool true) (exec_gt_i _ _ _ _ rfl f n rfl rfl true (decide_eq_true (by omega))) ?_
  simp only [Act.put, pu]
  refine qw_move (by rfl) rfl rfl ?_
  simp only [Act.put, pu]
  refine qw_skip (by rfl) ?_
  simp only [Act.put, pu]
  refine qw_skip (by rfl) ?_
  simp only [Act.put, pu]
  refine qw_skip (by rfl) ?_
  simp only [Act.put, pu]
  refine qw_skip (by rfl) ?_
  simp only [Act.put, pu]
  refine qw_skip (by rfl) ?_
  simp only [Act.put, pu]
  refine qw_pick true (v := .bool true) (by rfl) rfl rfl rfl ?_
  simp only [Act.put, pu]
  refine qw_move (by rfl) rfl rfl ?_
  simp only [Act.put, pu]
  refine qw_skip (by rfl) ?_
  simp only [Act.put, pu]
  refine qw_skip (by rfl) ?_
  simp only [Act.put, pu]
  refine qw_skip (by rfl) ?_
  simp only [Act.put, pu]
  refine qw_skip (by rfl) ?_
  simp only [Act.put, pu]
  refine qw_skip (by rfl) ?_
  simp only [Act.put, pu]
  refine qw_pick true (v := .bool true) (by rfl) rfl rfl rfl ?_
  simp only [Act.put, pu]
  refine qw_nil ?_
  intro w3 hqb
  replace sb := below_on sb (Nat.le_refl _) hqb
  clear hqb
  go_wp2
  go_ret
  exact ⟨rfl, sb⟩
 ·rfl
set_option maxRecDepth 100000 in
set_option maxHeartbeats 2000000 in
theorem rst_rest (n f a : Nat) (w : World) (hn : 1 ≤ n) (hn2 : n < 2147483648) (hf : 0 < f) (h : f ≤ n) (hr : (n - 1) % f ≠ 0) :
  Calls Try.prog 86 #[.int .i64 n, .int .i64 f, .int .i64 a] w fun e w' => e = .returned (.bool false) ∧ Below w.heap.size w w' := by
 go_enter Try.func86, Try.ntmps86
 (repeat ((fail_if_success with_reducible refine rg ?_); go_step))
 apply wp_region_mixp [] [_] trivial List.nodup_nil
 ·intro p
  refine mx_val (.bool false) (fun _ => rfl) ?_
  simp only [Act.put, pu]
  refine mx_end ?_
  intro w2 hkw hrw hnew hdis
  have sb := hkw.below w.heap.size (Nat.le_refl _) (by simp)
  clear hkw hrw hnew hdis
  (repeat ((fail_if_success with_reducible refine rg ?_); go_step))
  refine wp_region_qp ?_
  refine qw_move (by rfl) rfl rfl ?_
  simp only [Act.put, pu]
  refine qw_move (by rfl) rfl rfl ?_
  simp only [Act.put, pu]
  refine qw_value (by rfl) (.bool false) (exec_gt_i _ _ _ _ rfl f n rfl rfl false (decide_eq_false (by omega))) ?_
  simp only [Act.put, pu]
  refine qw_move (by rfl) rfl rfl ?_
  simp only [Act.put, pu]
  refine qw_move (by rfl) rfl rfl ?_
  simp only [Act.put, pu]
  refine qw_value (by rfl) (.int .i64 (n - 1 : Nat)) (exec_sub_in _ _ _ _ rfl n 1 rfl rfl (by omega) (by omega)) ?_
  simp only [Act.put, pu]
  refine qw_move (by rfl) rfl rfl ?_
  simp only [Act.put, pu]
  refine qw_value (by rfl) (.int .i64 ((n - 1) % f : Nat)) (exec_rem_i _ _ _ _ rfl (n - 1) f rfl rfl (by omega)) ?_
  simp only [Act.put, pu]
  refine qw_value (by rfl) (.bool true) (exec_neq_k .i64 _ _ _ _ rfl ((n - 1) % f : Nat) 0 rfl rfl true (by rw [decide_eq_false (by omega)]; rfl)) ?_
  simp only [Act.put, pu]
  refine qw_pick false (v := .bool true) (by rfl) rfl rfl rfl ?_
  simp only [Act.put, pu]
  refine qw_move (by rfl) rfl rfl ?_
  simp only [Act.put, pu]
  refine qw_skip (by rfl) ?_
  simp only [Act.put, pu]
  refine qw_skip (by rfl) ?_
  simp only [Act.put, pu]
  refine qw_skip (by rfl) ?_
  simp only [Act.put, pu]
  refine qw_skip (by rfl) ?_
  simp only [Act.put, pu]
  refine qw_skip (by rfl) ?_
  simp only [Act.put, pu]
  refine qw_pick true (v := .bool true) (by rfl) rfl rfl rfl ?_
  simp only [Act.put, pu]
  refine qw_nil ?_
  intro w3 hqb
  replace sb := below_on sb (Nat.le_refl _) hqb
  clear hqb
  go_wp2
  go_ret
  exact ⟨rfl, sb⟩
 ·rfl
set_option maxRecDepth 100000 in
set_option maxHeartbeats 2000000 in
theorem rst_low (n f a : Nat) (w : World) (D : Nat) (hD : f * f = D) (hDl : D < 9223372036854775808) (hn : 1 ≤ n) (hn2 : n < 2147483648) (hf : 0 < f) (h : f ≤ n) (hr : (n - 1) % f = 0) (hs : D ≤ n) :
  Calls Try.prog 86 #[.int .i64 n, .int .i64 f, .int .i64 a] w fun e w' => e = .returned (.bool false) ∧ Below w.heap.size w w' := by
 go_enter Try.func86, Try.ntmps86
 (repeat ((fail_if_success with_reducible refine rg ?_); go_step))
 apply wp_region_mixp [] [_] trivial List.nodup_nil
 ·intro p
  refine mx_val (.bool false) (fun _ => rfl) ?_
  simp only [Act.put, pu]
  refine mx_end ?_
  intro w2 hkw hrw hnew hdis
  have sb := hkw.below w.heap.size (Nat.le_refl _) (by simp)
  clear hkw hrw hnew hdis
  (repeat ((fail_if_success with_reducible refine rg ?_); go_step))
  refine wp_region_qp ?_
  refine qw_move (by rfl) rfl rfl ?_
  simp only [Act.put, pu]
  refine qw_move (by rfl) rfl rfl ?_
  simp only [Act.put, pu]
  refine qw_value (by rfl) (.bool false) (exec_gt_i _ _ _ _ rfl f n rfl rfl false (decide_eq_false (by omega))) ?_
  simp only [Act.put, pu]
  refine qw_move (by rfl) rfl rfl ?_
  simp only [Act.put, pu]
  refine qw_move (by rfl) rfl rfl ?_
  simp only [Act.put, pu]
  refine qw_value (by rfl) (.int .i64 (n - 1 : Nat)) (exec_sub_in _ _ _ _ rfl n 1 rfl rfl (by omega) (by omega)) ?_
  simp only [Act.put, pu]
  refine qw_move (by rfl) rfl rfl ?_
  simp only [Act.put, pu]
  refine qw_value (by rfl) (.int .i64 ((n - 1) % f : Nat)) (exec_rem_i _ _ _ _ rfl (n - 1) f rfl rfl (by omega)) ?_
  simp only [Act.put, pu]
  refine qw_value (by rfl) (.bool false) (exec_neq_k .i64 _ _ _ _ rfl ((n - 1) % f : Nat) 0 rfl rfl false (by rw [decide_eq_true (by omega)]; rfl)) ?_
  simp only [Act.put, pu]
  refine qw_pick false (v := .bool false) (by rfl) rfl rfl rfl ?_
  simp only [Act.put, pu]
  refine qw_move (by rfl) rfl rfl ?_
  simp only [Act.put, pu]
  refine qw_move (by rfl) rfl rfl ?_
  simp only [Act.put, pu]
  refine qw_move (by rfl) rfl rfl ?_
  simp only [Act.put, pu]
  refine qw_value (by rfl) (.int .i64 D) (exec_mul_in _ _ _ _ rfl f f D rfl rfl hD hDl) ?_
  simp only [Act.put, pu]
  refine qw_move (by rfl) rfl rfl ?_
  simp only [Act.put, pu]
  refine qw_value (by rfl) (.bool true) (exec_leq_i _ _ _ _ rfl D n rfl rfl true (decide_eq_true (by omega))) ?_
  simp only [Act.put, pu]
  refine qw_pick false (v := .bool true) (by rfl) rfl rfl rfl ?_
  simp only [Act.put, pu]
  refine qw_nil ?_
  intro w3 hqb
  replace sb := below_on sb (Nat.le_refl _) hqb
  clear hqb
  go_wp2
  go_ret
  exact ⟨rfl, sb⟩
 ·rfl
set_option maxRecDepth 100000 in
set_option maxHeartbeats 2000000 in
theorem rst_not (n f a : Nat) (w : World) (D K X Y : Nat) (hD : f * f = D) (hDl : D < 9223372036854775808) (hn : 2 ≤ n) (hn2 : n < 2147483648) (hf : 0 < f) (h : f ≤ n) (hr : (n - 1) % f = 0) (hs : ¬ D ≤ n) (hK : (n - 1) / f = K)
  (hik : ∀ w', Calls Try.prog 31 #[.int .i64 K] w' fun e w2 => e = .returned (.agg (natC K)) ∧ Below w'.heap.size w' w2)
  (hif : ∀ w', Calls Try.prog 31 #[.int .i64 f] w' fun e w2 => e = .returned (.agg (natC f)) ∧ Below w'.heap.size w' w2)
  (hp1 : ∀ w', Calls Try.prog 63 #[.int .i64 (a % n : Nat), .agg (natC K), .int .i64 n] w' fun e w2 => e = .returned (.int .i64 X) ∧ Below w'.heap.size w' w2)
  (hp2 : ∀ w', Calls Try.prog 63 #[.int .i64 X, .agg (natC f), .int .i64 n] w' fun e w2 => e = .returned (.int .i64 Y) ∧ Below w'.heap.size w' w2) (hy : Y ≠ 1) :
  Calls Try.prog 86 #[.int .i64 n, .int .i64 f, .int .i64 a] w fun e w' => e = .returned (.bool false) ∧ Below w.heap.size w w' := by
 go_enter Try.func86, Try.ntmps86
 (repeat ((fail_if_success with_reducible refine rg ?_); go_step))
 apply wp_region_mixp [] [_] trivial List.nodup_nil
 ·intro p
  refine mx_val (.bool false) (fun _ => rfl) ?_
  simp only [Act.put, pu]
  refine mx_end ?_
  intro w2 hkw hrw hnew hdis
  have sb := hkw.below w.heap.size (Nat.le_refl _) (by simp)
  clear hkw hrw hnew hdis
  (repeat ((fail_if_success with_reducible refine rg ?_); go_step))
  refine wp_region_qp ?_
  refine qw_move (by rfl) rfl rfl ?_
  simp only [Act.put, pu]
  refine qw_move (by rfl) rfl rfl ?_
  simp only [Act.put, pu]
  refine qw_value (by rfl) (.bool false) (exec_gt_i _ _ _ _ rfl f n rfl rfl false (decide_eq_false (by omega))) ?_
  simp only [Act.put, pu]
  refine qw_move (by rfl) rfl rfl ?_
  simp only [Act.put, pu]
  refine qw_move (by rfl) rfl rfl ?_
  simp only [Act.put, pu]
  refine qw_value (by rfl) (.int .i64 (n - 1 : Nat)) (exec_sub_in _ _ _ _ rfl n 1 rfl rfl (by omega) (by omega)) ?_
  simp only [Act.put, pu]
  refine qw_move (by rfl) rfl rfl ?_
  simp only [Act.put, pu]
  refine qw_value (by rfl) (.int .i64 ((n - 1) % f : Nat)) (exec_rem_i _ _ _ _ rfl (n - 1) f rfl rfl (by omega)) ?_
  simp only [Act.put, pu]
  refine qw_value (by rfl) (.bool false) (exec_neq_k .i64 _ _ _ _ rfl ((n - 1) % f : Nat) 0 rfl rfl false (by rw [decide_eq_true (by omega)]; rfl)) ?_
  simp only [Act.put, pu]
  refine qw_pick false (v := .bool false) (by rfl) rfl rfl rfl ?_
  simp only [Act.put, pu]
  refine qw_move (by rfl) rfl rfl ?_
  simp only [Act.put, pu]
  refine qw_move (by rfl) rfl rfl ?_
  simp only [Act.put, pu]
  refine qw_move (by rfl) rfl rfl ?_
  simp only [Act.put, pu]
  refine qw_value (by rfl) (.int .i64 D) (exec_mul_in _ _ _ _ rfl f f D rfl rfl hD hDl) ?_
  simp only [Act.put, pu]
  refine qw_move (by rfl) rfl rfl ?_
  simp only [Act.put, pu]
  refine qw_value (by rfl) (.bool false) (exec_leq_i _ _ _ _ rfl D n rfl rfl false (decide_eq_false (by omega))) ?_
  simp only [Act.put, pu]
  refine qw_pick false (v := .bool false) (by rfl) rfl rfl rfl ?_
  simp only [Act.put, pu]
  refine qw_nil ?_
  intro w3 hqb
  replace sb := below_on sb (Nat.le_refl _) hqb
  clear hqb
  (repeat ((fail_if_success with_reducible refine rg ?_); go_step))
  refine wp_region_qw (by kernel_rfl) (by kernel_rfl) ?_
  refine qw_move (by rfl) rfl rfl ?_
  simp only [Act.put, pu]
  refine qw_move (by rfl) rfl rfl ?_
  simp only [Act.put, pu]
  refine qw_value (by rfl) (.int .i64 (a % n : Nat)) (exec_rem_i _ _ _ _ rfl a n rfl rfl (by omega)) ?_
  simp only [Act.put, pu]
  refine qw_move (by rfl) rfl rfl ?_
  simp only [Act.put, pu]
  refine qw_value (by rfl) (.int .i64 (n - 1 : Nat)) (exec_sub_in _ _ _ _ rfl n 1 rfl rfl (by omega) (by omega)) ?_
  simp only [Act.put, pu]
  refine qw_move (by rfl) rfl rfl ?_
  simp only [Act.put, pu]
  refine qw_value (by rfl) (.int .i64 K) (fun w' => (exec_quo_i _ _ _ _ rfl (n - 1) f rfl rfl hf (by omega) w').trans (by rw [hK])) ?_
  simp only [Act.put, pu]
  refine qw_call (by rfl) 31 _ _ rfl Try.func31 (by kernel_rfl) #[.int .i64 K] rfl _ hik ?_
  simp only [Act.put, pu]
  refine qw_move (by rfl) rfl rfl ?_
  simp only [Act.put, pu]
  refine qw_call (by rfl) 63 _ _ rfl Try.func63 (by kernel_rfl) #[.int .i64 (a % n : Nat), .agg (natC K), .int .i64 n] rfl _ hp1 ?_
  simp only [Act.put, pu]
  refine qw_asg (by rfl) rfl rfl ?_
  simp only [Act.put, pu]
  refine qw_nil ?_
  intro w4 hqb
  replace sb := below_on sb (Nat.le_refl _) hqb
  clear hqb
  (repeat ((fail_if_success with_reducible refine rg ?_); go_step))
  refine wp_region_qp ?_
  refine qw_move (by rfl) rfl rfl ?_
  simp only [Act.put, pu]
  refine qw_move (by rfl) rfl rfl ?_
  simp only [Act.put, pu]
  refine qw_call (by rfl) 31 _ _ rfl Try.func31 (by kernel_rfl) #[.int .i64 f] rfl _ hif ?_
  simp only [Act.put, pu]
  refine qw_move (by rfl) rfl rfl ?_
  simp only [Act.put, pu]
  refine qw_call (by rfl) 63 _ _ rfl Try.func63 (by kernel_rfl) #[.int .i64 X, .agg (natC f), .int .i64 n] rfl _ hp2 ?_
  simp only [Act.put, pu]
  refine qw_value (by rfl) (.bool true) (exec_neq_k .i64 _ _ _ _ rfl Y 1 rfl rfl true (by rw [decide_eq_false (by omega)]; rfl)) ?_
  simp only [Act.put, pu]
  refine qw_nil ?_
  intro w5 hqb
  replace sb := below_on sb (Nat.le_refl _) hqb
  clear hqb
  go_wp2
  go_ret
  exact ⟨rfl, sb⟩
 ·rfl
set_option maxRecDepth 100000 in
set_option maxHeartbeats 2000000 in
theorem rst_yes (n f a G : Nat) (w : World) (D K X Y : Nat) (hD : f * f = D) (hDl : D < 9223372036854775808) (hn : 2 ≤ n) (hn2 : n < 2147483648) (hf : 0 < f) (h : f ≤ n) (hr : (n - 1) % f = 0) (hs : ¬ D ≤ n) (hK : (n - 1) / f = K)
  (hik : ∀ w', Calls Try.prog 31 #[.int .i64 K] w' fun e w2 => e = .returned (.agg (natC K)) ∧ Below w'.heap.size w' w2)
  (hif : ∀ w', Calls Try.prog 31 #[.int .i64 f] w' fun e w2 => e = .returned (.agg (natC f)) ∧ Below w'.heap.size w' w2)
  (hp1 : ∀ w', Calls Try.prog 63 #[.int .i64 (a % n : Nat), .agg (natC K), .int .i64 n] w' fun e w2 => e = .returned (.int .i64 X) ∧ Below w'.heap.size w' w2)
  (hp2 : ∀ w', Calls Try.prog 63 #[.int .i64 X, .agg (natC f), .int .i64 n] w' fun e w2 => e = .returned (.int .i64 Y) ∧ Below w'.heap.size w' w2) (hy : Y = 1) (hX : 1 ≤ X) (hXn : X < n) (hE : Euc G 64 (X - 1) n) :
  Calls Try.prog 86 #[.int .i64 n, .int .i64 f, .int .i64 a] w fun e w' => e = .returned (.bool (decide (G = 1))) ∧ Below w.heap.size w w' := by
 have hZ : (X + n - 1) % n = X - 1 := by
  rw [show X + n - 1 = X - 1 + n by omega, Nat.add_mod_right, Nat.mod_eq_of_lt (by omega)]
 go_enter Try.func86, Try.ntmps86
 (repeat ((fail_if_success with_reducible refine rg ?_); go_step))
 apply wp_region_mixp [] [_] trivial List.nodup_nil
 ·intro p
  refine mx_val (.bool false) (fun _ => rfl) ?_
  simp only [Act.put, pu]
  refine mx_end ?_
  intro w2 hkw hrw hnew hdis
  have sb := hkw.below w.heap.size (Nat.le_refl _) (by simp)
  clear hkw hrw hnew hdis
  (repeat ((fail_if_success with_reducible refine rg ?_); go_step))
  refine wp_region_qp ?_
  refine qw_move (by rfl) rfl rfl ?_
  simp only [Act.put, pu]
  refine qw_move (by rfl) rfl rfl ?_
  simp only [Act.put, pu]
  refine qw_value (by rfl) (.bool false) (exec_gt_i _ _ _ _ rfl f n rfl rfl false (decide_eq_false (by omega))) ?_
  simp only [Act.put, pu]
  refine qw_move (by rfl) rfl rfl ?_
  simp only [Act.put, pu]
  refine qw_move (by rfl) rfl rfl ?_
  simp only [Act.put, pu]
  refine qw_value (by rfl) (.int .i64 (n - 1 : Nat)) (exec_sub_in _ _ _ _ rfl n 1 rfl rfl (by omega) (by omega)) ?_
  simp only [Act.put, pu]
  refine qw_move (by rfl) rfl rfl ?_
  simp only [Act.put, pu]
  refine qw_value (by rfl) (.int .i64 ((n - 1) % f : Nat)) (exec_rem_i _ _ _ _ rfl (n - 1) f rfl rfl (by omega)) ?_
  simp only [Act.put, pu]
  refine qw_value (by rfl) (.bool false) (exec_neq_k .i64 _ _ _ _ rfl ((n - 1) % f : Nat) 0 rfl rfl false (by rw [decide_eq_true (by omega)]; rfl)) ?_
  simp only [Act.put, pu]
  refine qw_pick false (v := .bool false) (by rfl) rfl rfl rfl ?_
  simp only [Act.put, pu]
  refine qw_move (by rfl) rfl rfl ?_
  simp only [Act.put, pu]
  refine qw_move (by rfl) rfl rfl ?_
  simp only [Act.put, pu]
  refine qw_move (by rfl) rfl rfl ?_
  simp only [Act.put, pu]
  refine qw_value (by rfl) (.int .i64 D) (exec_mul_in _ _ _ _ rfl f f D rfl rfl hD hDl) ?_
  simp only [Act.put, pu]
  refine qw_move (by rfl) rfl rfl ?_
  simp only [Act.put, pu]
  refine qw_value (by rfl) (.bool false) (exec_leq_i _ _ _ _ rfl D n rfl rfl false (decide_eq_false (by omega))) ?_
  simp only [Act.put, pu]
  refine qw_pick false (v := .bool false) (by rfl) rfl rfl rfl ?_
  simp only [Act.put, pu]
  refine qw_nil ?_
  intro w3 hqb
  replace sb := below_on sb (Nat.le_refl _) hqb
  clear hqb
  (repeat ((fail_if_success with_reducible refine rg ?_); go_step))
  refine wp_region_qw (by kernel_rfl) (by kernel_rfl) ?_
  refine qw_move (by rfl) rfl rfl ?_
  simp only [Act.put, pu]
  refine qw_move (by rfl) rfl rfl ?_
  simp only [Act.put, pu]
  refine qw_value (by rfl) (.int .i64 (a % n : Nat)) (exec_rem_i _ _ _ _ rfl a n rfl rfl (by omega)) ?_
  simp only [Act.put, pu]
  refine qw_move (by rfl) rfl rfl ?_
  simp only [Act.put, pu]
  refine qw_value (by rfl) (.int .i64 (n - 1 : Nat)) (exec_sub_in _ _ _ _ rfl n 1 rfl rfl (by omega) (by omega)) ?_
  simp only [Act.put, pu]
  refine qw_move (by rfl) rfl rfl ?_
  simp only [Act.put, pu]
  refine qw_value (by rfl) (.int .i64 K) (fun w' => (exec_quo_i _ _ _ _ rfl (n - 1) f rfl rfl hf (by omega) w').trans (by rw [hK])) ?_
  simp only [Act.put, pu]
  refine qw_call (by rfl) 31 _ _ rfl Try.func31 (by kernel_rfl) #[.int .i64 K] rfl _ hik ?_
  simp only [Act.put, pu]
  refine qw_move (by rfl) rfl rfl ?_
  simp only [Act.put, pu]
  refine qw_call (by rfl) 63 _ _ rfl Try.func63 (by kernel_rfl) #[.int .i64 (a % n : Nat), .agg (natC K), .int .i64 n] rfl _ hp1 ?_
  simp only [Act.put, pu]
  refine qw_asg (by rfl) rfl rfl ?_
  simp only [Act.put, pu]
  refine qw_nil ?_
  intro w4 hqb
  replace sb := below_on sb (Nat.le_refl _) hqb
  clear hqb
  (repeat ((fail_if_success with_reducible refine rg ?_); go_step))
  refine wp_region_qp ?_
  refine qw_move (by rfl) rfl rfl ?_
  simp only [Act.put, pu]
  refine qw_move (by rfl) rfl rfl ?_
  simp only [Act.put, pu]
  refine qw_call (by rfl) 31 _ _ rfl Try.func31 (by kernel_rfl) #[.int .i64 f] rfl _ hif ?_
  simp only [Act.put, pu]
  refine qw_move (by rfl) rfl rfl ?_
  simp only [Act.put, pu]
  refine qw_call (by rfl) 63 _ _ rfl Try.func63 (by kernel_rfl) #[.int .i64 X, .agg (natC f), .int .i64 n] rfl _ hp2 ?_
  simp only [Act.put, pu]
  refine qw_value (by rfl) (.bool false) (exec_neq_k .i64 _ _ _ _ rfl Y 1 rfl rfl false (by rw [decide_eq_true (by omega)]; rfl)) ?_
  simp only [Act.put, pu]
  refine qw_nil ?_
  intro w5 hqb
  replace sb := below_on sb (Nat.le_refl _) hqb
  clear hqb
  clear hp1 hp2 hik hif hK hD hDl hr hs
  (repeat ((fail_if_success with_reducible refine rg ?_); go_step))
  apply wp_region_mixp [] [_, _, _, _, _, _, _, _, _] trivial List.nodup_nil
  ·intro p
   refine mx_move rfl rfl ?_
   simp only [Act.put, pu]
   refine mx_move rfl rfl ?_
   simp only [Act.put, pu]
   refine mx_val (.int .i64 ((X + n : Nat) : Int)) (exec_add_in _ _ _ _ rfl X n rfl rfl (by omega)) ?_
   simp only [Act.put, pu]
   refine mx_val (.int .i64 ((X + n - 1 : Nat) : Int)) (exec_sub_in _ _ _ _ rfl (X + n) 1 rfl rfl (by omega) (by omega)) ?_
   simp only [Act.put, pu]
   refine mx_move rfl rfl ?_
   simp only [Act.put, pu]
   refine mx_val (.int .i64 ((X - 1 : Nat) : Int)) (fun w' => (exec_rem_i _ _ _ _ rfl (X + n - 1) n rfl rfl (by omega) w').trans (by rw [hZ])) ?_
   simp only [Act.put, pu]
   refine mx_move rfl rfl ?_
   simp only [Act.put, pu]
   refine mx_asg rfl rfl ?_
   simp only [Act.put, pu]
   refine mx_asg rfl rfl ?_
   simp only [Act.put, pu]
   refine mx_end ?_
   intro w6 hkw hrw hnew hdis
   replace sb := sb.trans (hkw.below w.heap.size sb.size (by simp <;> omega))
   clear hkw hrw hnew hdis
   go_wp2_with fail
   go_loopg [8, 9, 10] 64 (fun g s8 s9 s10 wr => ∃ x y i : Nat, i + g = 64 ∧ s8 = .int .i64 x ∧ s9 = .int .i64 y ∧ s10 = .int .i64 i ∧ Euc G g x y ∧ Below w.heap.size w wr)
   case atStart => exact ⟨X - 1, n, 0, by omega, rfl, rfl, rfl, hE, sb⟩
   case round =>
    clear sb hE hX hXn hZ hy hn hn2 hf h
    obtain ⟨x, y, i, hi, rfl, rfl, rfl, hE, sb⟩ := hrel
    cases gk with
    | zero =>
     have hy0 : y = 0 := by
      rcases hE.way with h | h
      ·omega
      ·exact gcd_end x y h.2 hE.lt
     subst hy0
     have hx := hE.done
     subst hx
     clear hE
     (repeat ((fail_if_success with_reducible refine rg ?_); go_step))
     refine wp_region_qp ?_
     refine qw_move (by rfl) rfl rfl ?_
     simp only [Act.put, pu]
     refine qw_value (by rfl) (.bool false) (exec_lt_b _ _ _ _ rfl i 64 rfl rfl false (decide_eq_false (by omega))) ?_
     simp only [Act.put, pu]
     refine qw_move (by rfl) rfl rfl ?_
     simp only [Act.put, pu]
     refine qw_skip (by rfl) ?_
     simp only [Act.put, pu]
     refine qw_skip (by rfl) ?_
     simp only [Act.put, pu]
     refine qw_pick false (v := .bool false) (by rfl) rfl rfl rfl ?_
     simp only [Act.put, pu]
     refine qw_nil ?_
     intro w7 hqb
     replace sb := below_on sb (Nat.le_refl _) hqb
     clear hqb
     (repeat ((fail_if_success with_reducible refine rg ?_); go_step))
     apply wp_region_mixp [] [_, _, _] trivial List.nodup_nil
     ·intro p
      refine mx_move rfl rfl ?_
      simp only [Act.put, pu]
      refine mx_val (.bool (decide (x = 1))) (exec_eql_k .i64 _ _ _ _ rfl x 1 rfl rfl _ (decide_eq_decide.2 (by omega))) ?_
      simp only [Act.put, pu]
      refine mx_asg rfl rfl ?_
      simp only [Act.put, pu]
      refine mx_end ?_
      intro w8 hkw hrw hnew hdis
      replace sb := sb.trans (hkw.below w.heap.size sb.size (by simp <;> omega))
      clear hkw hrw hnew hdis
      go_wp2
      go_ret
      exact ⟨rfl, sb⟩
     ·rfl
    | succ g =>
     by_cases hy0 : y = 0
     ·subst hy0
      have hx := hE.done
      subst hx
      clear hE
      (repeat ((fail_if_success with_reducible refine rg ?_); go_step))
      refine wp_region_qp ?_
      refine qw_move (by rfl) rfl rfl ?_
      simp only [Act.put, pu]
      refine qw_value (by rfl) (.bool true) (exec_lt_b _ _ _ _ rfl i 64 rfl rfl true (decide_eq_true (by omega))) ?_
      simp only [Act.put, pu]
      refine qw_move (by rfl) rfl rfl ?_
      simp only [Act.put, pu]
      refine qw_move (by rfl) rfl rfl ?_
      simp only [Act.put, pu]
      refine qw_value (by rfl) (.bool false) (exec_neq_k .i64 _ _ _ _ rfl ((0 : Nat) : Int) 0 rfl rfl false rfl) ?_
      simp only [Act.put, pu]
      refine qw_pick true (v := .bool false) (by rfl) rfl rfl rfl ?_
      simp only [Act.put, pu]
      refine qw_nil ?_
      intro w7 hqb
      replace sb := below_on sb (Nat.le_refl _) hqb
      clear hqb
      (repeat ((fail_if_success with_reducible refine rg ?_); go_step))
      apply wp_region_mixp [] [_, _, _] trivial List.nodup_nil
      ·intro p
       refine mx_move rfl rfl ?_
       simp only [Act.put, pu]
       refine mx_val (.bool (decide (x = 1))) (exec_eql_k .i64 _ _ _ _ rfl x 1 rfl rfl _ (decide_eq_decide.2 (by omega))) ?_
       simp only [Act.put, pu]
       refine mx_asg rfl rfl ?_
       simp only [Act.put, pu]
       refine mx_end ?_
       intro w8 hkw hrw hnew hdis
       replace sb := sb.trans (hkw.below w.heap.size sb.size (by simp <;> omega))
       clear hkw hrw hnew hdis
       go_wp2
       go_ret
       exact ⟨rfl, sb⟩
      ·rfl
     ·have hE' := hE.next hy0
      clear hE
      (repeat ((fail_if_success with_reducible refine rg ?_); go_step))
      refine wp_region_qp ?_
      refine qw_move (by rfl) rfl rfl ?_
      simp only [Act.put, pu]
      refine qw_value (by rfl) (.bool true) (exec_lt_b _ _ _ _ rfl i 64 rfl rfl true (decide_eq_true (by omega))) ?_
      simp only [Act.put, pu]
      refine qw_move (by rfl) rfl rfl ?_
      simp only [Act.put, pu]
      refine qw_move (by rfl) rfl rfl ?_
      simp only [Act.put, pu]
      refine qw_value (by rfl) (.bool true) (exec_neq_k .i64 _ _ _ _ rfl y 0 rfl rfl true (by rw [decide_eq_false (by omega)]; rfl)) ?_
      simp only [Act.put, pu]
      refine qw_pick true (v := .bool true) (by rfl) rfl rfl rfl ?_
      simp only [Act.put, pu]
      refine qw_nil ?_
      intro w7 hqb
      replace sb := below_on sb (Nat.le_refl _) hqb
      clear hqb
      (repeat ((fail_if_success with_reducible refine rg ?_); go_step))
      refine wp_region_qw (by kernel_rfl) (by kernel_rfl) ?_
      refine qw_move (by rfl) rfl rfl ?_
      simp only [Act.put, pu]
      refine qw_move (by rfl) rfl rfl ?_
      simp only [Act.put, pu]
      refine qw_move (by rfl) rfl rfl ?_
      simp only [Act.put, pu]
      refine qw_value (by rfl) (.int .i64 (x % y : Nat)) (exec_rem_i _ _ _ _ rfl x y rfl rfl (by omega)) ?_
      simp only [Act.put, pu]
      refine qw_asg (by rfl) rfl rfl ?_
      simp only [Act.put, pu]
      refine qw_asg (by rfl) rfl rfl ?_
      simp only [Act.put, pu]
      refine qw_nil ?_
      intro w8 hqb
      replace sb := below_on sb (Nat.le_refl _) hqb
      clear hqb
      (repeat ((fail_if_success with_reducible refine rg ?_); go_step))
      apply wp_region_mixp [] [_, _, _] trivial List.nodup_nil
      ·intro p
       refine mx_move rfl rfl ?_
       simp only [Act.put, pu]
       refine mx_val (.int .i64 ((i + 1 : Nat) : Int)) (exec_add_in _ _ _ _ rfl i 1 rfl rfl (by omega)) ?_
       simp only [Act.put, pu]
       refine mx_asg rfl rfl ?_
       simp only [Act.put, pu]
       refine mx_end ?_
       intro w9 hkw hrw hnew hdis
       replace sb := sb.trans (hkw.below w.heap.size sb.size (by simp <;> omega))
       clear hkw hrw hnew hdis
       go_wp2
       go_roundg g
       case measure => omega
       case rel => exact ⟨y, x % y, i + 1, by omega, rfl, rfl, rfl, hE', sb⟩
      ·rfl
  ·rfl
 ·rfl
/-- What step tells of any, behind the tests of Step. -/
theorem rst_any (n f a : Nat) (w : World) (ho : n % 2 = 1) (hn : 2 ≤ n) (hn2 : n < 2147483648) (hf : 0 < f) (hfl : f < 9223372036854775808) :
  Calls Try.prog 86 #[.int .i64 n, .int .i64 f, .int .i64 a] w fun e w' => e = .returned (.bool (mayN n f && shN n f a)) ∧ Below w.heap.size w w' := by
 unfold mayN
 rw [decide_eq_true ho, decide_eq_true (show n ≠ 1 by omega), decide_eq_true (show f ≠ 0 by omega), Bool.true_and, Bool.true_and, Bool.true_and]
 by_cases h : n < f
 ·rw [decide_eq_false (show ¬ (n - 1) % f = 0 by rw [Nat.mod_eq_of_lt (by omega)]; omega), Bool.false_and, Bool.false_and]
  exact rst_above n f a w h
 by_cases hr : (n - 1) % f = 0
 ·have hDl : f * f < 9223372036854775808 := Nat.lt_of_le_of_lt (Nat.mul_le_mul (show f ≤ 2147483648 by omega) (show f ≤ 2147483648 by omega)) (by decide)
  rw [decide_eq_true hr, Bool.true_and]
  by_cases hs : f * f ≤ n
  ·rw [decide_eq_false (show ¬ n < f * f by omega), Bool.false_and]
   exact rst_low n f a w _ rfl hDl (by omega) hn2 hf (by omega) hr hs
  rw [decide_eq_true (show n < f * f by omega), Bool.true_and]
  have hKl : (n - 1) / f < 9223372036854775808 := Nat.lt_of_le_of_lt (Nat.div_le_self _ _) (by omega)
  have hik := fun w' => rint_any ((n - 1) / f : Nat) w' (by omega)
  have hif := fun w' => rint_any (f : Int) w' (by omega)
  rw [Int.toNat_natCast] at hik hif
  have hp1 := fun w' => rpower_any (a % n) ((n - 1) / f) n w' (by omega) (by omega) (by omega)
  rw [← Nat.pow_mod] at hp1
  have hp2 := fun w' => rpower_any (a ^ ((n - 1) / f) % n) f n w' (by omega) (by omega) (by omega)
  have hXn := Nat.mod_lt (a ^ ((n - 1) / f)) (show 0 < n by omega)
  unfold shN
  by_cases hy : (a ^ ((n - 1) / f) % n) ^ f % n = 1
  ·have hX : 1 ≤ a ^ ((n - 1) / f) % n := by
    rcases Nat.eq_zero_or_pos (a ^ ((n - 1) / f) % n) with h0 | h0
    ·rw [h0, Nat.zero_pow hf, Nat.zero_mod] at hy; cases hy
    ·exact h0
   rw [decide_eq_true hy, Bool.true_and, show decide (Nat.gcd n (a ^ ((n - 1) / f) % n - 1) = 1) = decide (Nat.gcd (a ^ ((n - 1) / f) % n - 1) n = 1) from decide_eq_decide.2 (by rw [Nat.gcd_comm])]
   have hpr : (a ^ ((n - 1) / f) % n - 1) * n < 4611686018427387904 := Nat.lt_of_le_of_lt (Nat.mul_le_mul (show a ^ ((n - 1) / f) % n - 1 ≤ 2147483647 by omega) (show n ≤ 2147483647 by omega)) (by decide)
   exact rst_yes n f a _ w _ _ _ _ rfl hDl hn hn2 hf (by omega) hr hs rfl hik hif hp1 hp2 hy hX hXn ⟨rfl, Nat.lt_trans hpr (by decide), .inl ⟨rfl, by omega, hpr⟩, by omega, hn2⟩
  ·rw [decide_eq_false hy, Bool.false_and]
   exact rst_not n f a w _ _ _ _ rfl hDl hn hn2 hf (by omega) hr hs rfl hik hif hp1 hp2 hy
 ·rw [decide_eq_false hr, Bool.false_and, Bool.false_and]
  exact rst_rest n f a w (by omega) hn2 hf (by omega) hr
end Go.Proofs.Ytbmkebdfaokmhaa
