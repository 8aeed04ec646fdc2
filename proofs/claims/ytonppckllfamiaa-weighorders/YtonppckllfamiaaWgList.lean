/- The closure of weigh's Order, Least, the document's Least, Order, Floats, Numbers. -/
import Derived.Test.YtonppckllfamiaaWgOwn
namespace Go.Proofs.Ytonppckllfamiaa
open Go.RowKit
set_option linter.unusedVariables false
set_option linter.unusedSectionVars false
set_option linter.unusedSimpArgs false
theorem cpz_gt (x y : Int) : cpz x y > 0 ↔ y < x := by unfold cpz; repeat' split <;> omega
/-- The first of the least keys among so many and one more. -/
def lsj (κ : Nat → Int) : Nat → Nat
 | 0 => 0
 | k + 1 => if κ (k + 1) < κ (lsj κ k) then k + 1 else lsj κ k
theorem lsj_le (κ : Nat → Int) : ∀ k, lsj κ k ≤ k
 | 0 => Nat.le_refl _
 | k + 1 => by
  have := lsj_le κ k
  unfold lsj
  split <;> omega
def lsz (κ : Nat → Int) : Nat → Int
 | 0 => -1
 | k + 1 => (lsj κ k : Nat)
set_option maxRecDepth 100000 in
set_option maxHeartbeats 2000000 in
theorem ord1_any (x y gl : Nat) (ab : Option Addr) (n c : Nat) (B : Nat → Nat) (gb ob : Nat) (bcs : Array Value) (tb : TypeId) (w : World) (hx : x < n) (hy : y < n) (hB : ∀ i, i < n → B i < 18446744073709551616) (rL : RowR w gl #[.slice ab n c] 30) (hf : VsAt w ab n (flv B) gb ob bcs tb) :
  Calls Try.prog 31 #[.int .i64 (x : Nat), .int .i64 (y : Nat), .pointer (some ⟨gl, 0, none⟩)] w fun e w' => e = .returned (.int .i64 (cpz (rnk (B x)) (rnk (B y)))) ∧ Below w.heap.size w w' := by
 obtain h0 | ⟨rfl, rB, hb⟩ := hf.at'
 ·omega
 have hb1 := hb x hx
 have hb2 := hb y hy
 have hcm := fun w' => cmp_any (B x) (B y) (hB x hx) (hB y hy) w'
 unfold flv at hb1 hb2
 clear hb hf hB
 go_enter Try.func31, Try.ntmps31
 have sb := sbmk w
 (repeat ((fail_if_success with_reducible refine rg ?_); go_step))
 refine wp_region_pw ?_
 refine pw_value (by rfl) (.int .i64 0) (fun _ => rfl) ?_
 simp only [Act.put, pu]
 refine pw_nil ?_
 (repeat ((fail_if_success with_reducible refine rg ?_); go_step))
 refine wp_region_qw (by kernel_rfl) (by kernel_rfl) ?_
 refine qw_loadcR (by rfl) 30 _ rfl _ (0) rfl rL (.slice (some ⟨gb, ob, none⟩) n c) rfl Try.isAgg30 ?_
 simp only [Act.put, pu]
 refine qw_move (by rfl) rfl rfl ?_
 simp only [Act.put, pu]
 refine qw_value (by rfl) (.pointer (some ⟨gb, ob + x * 1, none⟩)) ((exec_index_s 30 _ _ rfl (gb) (ob) (n) (c) rfl (x) rfl (hx) _ Try.underlying30 1 Try.sizeOf23)) ?_
 simp only [Act.put, pu]
 refine qw_loadcR (by rfl) 23 _ rfl _ (ob + x * 1) rfl rB (.float .f64 (B x)) hb1 Try.isAgg23 ?_
 simp only [Act.put, pu]
 refine qw_loadcR (by rfl) 30 _ rfl _ (0) rfl rL (.slice (some ⟨gb, ob, none⟩) n c) rfl Try.isAgg30 ?_
 simp only [Act.put, pu]
 refine qw_move (by rfl) rfl rfl ?_
 simp only [Act.put, pu]
 refine qw_value (by rfl) (.pointer (some ⟨gb, ob + y * 1, none⟩)) ((exec_index_s 30 _ _ rfl (gb) (ob) (n) (c) rfl (y) rfl (hy) _ Try.underlying30 1 Try.sizeOf23)) ?_
 simp only [Act.put, pu]
 refine qw_loadcR (by rfl) 23 _ rfl _ (ob + y * 1) rfl rB (.float .f64 (B y)) hb2 Try.isAgg23 ?_
 simp only [Act.put, pu]
 refine qw_call (by rfl) 10 _ _ rfl Try.func10 (by kernel_rfl) #[.float .f64 (B x), .float .f64 (B y)] rfl _ hcm ?_
 simp only [Act.put, pu]
 refine qw_asg (by rfl) rfl rfl ?_
 simp only [Act.put, pu]
 refine qw_nil ?_
 intro w2 hqb
 replace sb := below_on sb (Nat.le_refl _) hqb
 clear hqb
 go_wp2
 go_ret
 exact ⟨rfl, sb⟩
set_option maxRecDepth 100000 in
set_option maxHeartbeats 2000000 in
theorem least_any (ab : Option Addr) (n c : Nat) (B : Nat → Nat) (gb ob : Nat) (bcs : Array Value) (tb : TypeId) (w : World) (hn : n ≤ 1000) (hB : ∀ i, i < n → B i < 18446744073709551616) (hf : VsAt w ab n (flv B) gb ob bcs tb) :
  Calls Try.prog 14 #[.slice ab n c] w fun e w' => e = .returned (.int .i64 (lsz (fun i => rnk (B i)) n)) ∧ Below w.heap.size w w' := by
 have hcm := fun x y (hx : x < n) (hy : y < n) w' => cmp_any (B x) (B y) (hB x hx) (hB y hy) w'
 obtain ⟨κ, hκ⟩ : ∃ κ, (fun i => rnk (B i)) = κ := ⟨_, rfl⟩
 have hκ2 : ∀ i, rnk (B i) = κ i := fun i => by rw [← hκ]
 simp only [hκ2] at hcm
 rw [hκ]
 have HF : Hid (VsAt w ab n (flv B) gb ob bcs tb) := hf
 clear hf hB hκ hκ2
 go_enter Try.func14, Try.ntmps14
 have sb := sbmk w
 (repeat ((fail_if_success with_reducible refine rg ?_); go_step))
 refine wp_region_pw ?_
 refine pw_value (by rfl) (.int .i64 0) (fun _ => rfl) ?_
 simp only [Act.put, pu]
 refine pw_nil ?_
 (repeat ((fail_if_success with_reducible refine rg ?_); go_step))
 refine wp_region_pw ?_
 refine pw_move (by rfl) (.inr rfl) rfl ?_
 simp only [Act.put, pu]
 refine pw_nil ?_
 (repeat ((fail_if_success with_reducible refine rg ?_); go_step))
 refine wp_region_pw ?_
 refine pw_mv (by rfl) rfl rfl ?_
 simp only [Act.put, pu]
 refine pw_value (by rfl) (.int .i64 (n : Nat)) (exec_len_s 30 _ rfl (ab) (n) (c) rfl sl_fl) ?_
 simp only [Act.put, pu]
 refine pw_value (by rfl) (.int .i64 0) (fun _ => rfl) ?_
 simp only [Act.put, pu]
 refine pw_nil ?_
 go_wp2_with fail
 go_loopg [3, 4, 5, 8] n (fun g s3 s4 s5 s8 wr => ∃ k : Nat, k + g = n ∧ s3 = .int .i64 (lsz κ k) ∧ s8 = .int .i64 k ∧ Below w.heap.size w wr)
 case atStart => exact ⟨0, by omega, rfl, rfl, sb⟩
 case round =>
  clear sb
  obtain ⟨k, hk, rfl, rfl, sb⟩ := hrel
  cases gk with
  | zero =>
   obtain rfl : k = n := by omega
   (repeat ((fail_if_success with_reducible refine rg ?_); go_step))
   refine wp_region_pw ?_
   refine pw_value (by rfl) (.bool false) (exec_lt_b _ _ _ _ rfl (k : Nat) (k : Nat) rfl rfl false (decide_eq_false (by omega))) ?_
   simp only [Act.put, pu]
   refine pw_nil ?_
   (repeat ((fail_if_success with_reducible refine rg ?_); go_step))
   refine wp_region_pw ?_
   refine pw_mv (by rfl) rfl rfl ?_
   simp only [Act.put, pu]
   refine pw_as (by rfl) rfl rfl ?_
   simp only [Act.put, pu]
   refine pw_nil ?_
   go_wp2
   go_ret
   exact ⟨rfl, sb⟩
  | succ g =>
   have hkn : k < n := by omega
   obtain h0 | ⟨rfl, rB, hb⟩ := (HF.out.below sb).at'
   ·omega
   have hb1 := hb k hkn
   unfold flv at hb1
   cases k with
   | zero =>
    clear hb
    (repeat ((fail_if_success with_reducible refine rg ?_); go_step))
    refine wp_region_pw ?_
    refine pw_value (by rfl) (.bool true) (exec_lt_b _ _ _ _ rfl (0 : Nat) (n : Nat) rfl rfl true (decide_eq_true (by omega))) ?_
    simp only [Act.put, pu]
    refine pw_nil ?_
    (repeat ((fail_if_success with_reducible refine rg ?_); go_step))
    refine wp_region_pw ?_
    refine pw_mv (by rfl) rfl rfl ?_
    simp only [Act.put, pu]
    refine pw_value (by rfl) (.pointer (some ⟨gb, ob + 0 * 1, none⟩)) ((exec_index_s 30 _ _ rfl (gb) (ob) (n) (c) rfl (0) rfl (hkn) _ Try.underlying30 1 Try.sizeOf23)) ?_
    simp only [Act.put, pu]
    refine pw_loadk (by rfl) 23 _ rfl _ (ob + 0 * 1) rfl rB (.float .f64 (B 0)) hb1 Try.isAgg23 ?_
    simp only [Act.put, pu]
    refine pw_as (by rfl) rfl rfl ?_
    simp only [Act.put, pu]
    refine pw_as (by rfl) rfl rfl ?_
    simp only [Act.put, pu]
    refine pw_nil ?_
    (repeat ((fail_if_success with_reducible refine rg ?_); go_step))
    refine wp_region_pw ?_
    refine pw_mv (by rfl) rfl rfl ?_
    simp only [Act.put, pu]
    refine pw_value (by rfl) (.bool true) (exec_lt_b _ _ _ _ rfl (-1) 0 rfl rfl true rfl) ?_
    simp only [Act.put, pu]
    refine pw_mv (by rfl) rfl rfl ?_
    simp only [Act.put, pu]
    refine pw_skip (by rfl) ?_
    simp only [Act.put, pu]
    refine pw_skip (by rfl) ?_
    simp only [Act.put, pu]
    refine pw_skip (by rfl) ?_
    simp only [Act.put, pu]
    refine pw_skip (by rfl) ?_
    simp only [Act.put, pu]
    refine pw_skip (by rfl) ?_
    simp only [Act.put, pu]
    refine pw_skip (by rfl) ?_
    simp only [Act.put, pu]
    refine pw_skip (by rfl) ?_
    simp only [Act.put, pu]
    refine pw_pick (by rfl) true (v := .bool true) rfl rfl rfl ?_
    simp only [Act.put, pu]
    refine pw_nil ?_
    (repeat ((fail_if_success with_reducible refine rg ?_); go_step))
    refine wp_region_pw ?_
    refine pw_mv (by rfl) rfl rfl ?_
    simp only [Act.put, pu]
    refine pw_as (by rfl) rfl rfl ?_
    simp only [Act.put, pu]
    refine pw_nil ?_
    (repeat ((fail_if_success with_reducible refine rg ?_); go_step))
    refine wp_region_pw ?_
    refine pw_value (by rfl) (.int .i64 ((0 + 1 : Nat) : Int)) (exec_add_in _ _ _ _ rfl (0) (1) rfl rfl (by omega)) ?_
    simp only [Act.put, pu]
    refine pw_mv (by rfl) rfl rfl ?_
    simp only [Act.put, pu]
    refine pw_nil ?_
    go_wp2
    go_roundg g
    case measure => omega
    case rel => exact ⟨1, by omega, rfl, rfl, sb⟩
   | succ k =>
    have hj := lsj_le κ k
    have HS : Hid (∀ b, decide (κ (k + 1) < κ (lsj κ k)) = b → lsz κ (k + 1 + 1) = if b = true then ((k + 1 : Nat) : Int) else (lsj κ k : Nat)) := fun b hb => by
     subst hb
     show ((lsj κ (k + 1) : Nat) : Int) = _
     rw [lsj]
     by_cases c : κ (k + 1) < κ (lsj κ k)
     ·rw [if_pos c, decide_eq_true c]; rfl
     ·rw [if_neg c, decide_eq_false c]; rfl
    have hz : lsz κ (k + 1) = (lsj κ k : Nat) := rfl
    rw [hz]
    clear hz
    have hb2 := hb (lsj κ k) (by omega)
    unfold flv at hb2
    have hcm2 := hcm (k + 1) (lsj κ k) hkn (by omega)
    generalize lsj κ k = j at *
    clear hb
    by_cases hc : κ (k + 1) < κ j
    ·have hB : decide (cpz (κ (k + 1)) (κ j) < 0) = true := decide_eq_true ((cpz_lt _ _).2 hc)
     have HS2 : Hid (lsz κ (k + 1 + 1) = ((k + 1 : Nat) : Int)) := HS.out true (decide_eq_true hc)
     (repeat ((fail_if_success with_reducible refine rg ?_); go_step))
     refine wp_region_pw ?_
     refine pw_value (by rfl) (.bool true) (exec_lt_b _ _ _ _ rfl ((k + 1 : Nat) : Nat) (n : Nat) rfl rfl true (decide_eq_true (by omega))) ?_
     simp only [Act.put, pu]
     refine pw_nil ?_
     (repeat ((fail_if_success with_reducible refine rg ?_); go_step))
     refine wp_region_pw ?_
     refine pw_mv (by rfl) rfl rfl ?_
     simp only [Act.put, pu]
     refine pw_value (by rfl) (.pointer (some ⟨gb, ob + (k + 1) * 1, none⟩)) ((exec_index_s 30 _ _ rfl (gb) (ob) (n) (c) rfl ((k + 1)) rfl (hkn) _ Try.underlying30 1 Try.sizeOf23)) ?_
     simp only [Act.put, pu]
     refine pw_loadk (by rfl) 23 _ rfl _ (ob + (k + 1) * 1) rfl rB (.float .f64 (B (k + 1))) hb1 Try.isAgg23 ?_
     simp only [Act.put, pu]
     refine pw_as (by rfl) rfl rfl ?_
     simp only [Act.put, pu]
     refine pw_as (by rfl) rfl rfl ?_
     simp only [Act.put, pu]
     refine pw_nil ?_
     (repeat ((fail_if_success with_reducible refine rg ?_); go_step))
     refine wp_region_pw ?_
     refine pw_mv (by rfl) rfl rfl ?_
     simp only [Act.put, pu]
     refine pw_value (by rfl) (.bool false) (exec_lt_b _ _ _ _ rfl (j : Nat) 0 rfl rfl false (decide_eq_false (by omega))) ?_
     simp only [Act.put, pu]
     refine pw_mv (by rfl) rfl rfl ?_
     simp only [Act.put, pu]
     refine pw_mv (by rfl) rfl rfl ?_
     simp only [Act.put, pu]
     refine pw_mv (by rfl) rfl rfl ?_
     simp only [Act.put, pu]
     refine pw_mv (by rfl) rfl rfl ?_
     simp only [Act.put, pu]
     refine pw_value (by rfl) (.pointer (some ⟨gb, ob + j * 1, none⟩)) ((exec_index_s 30 _ _ rfl (gb) (ob) (n) (c) rfl (j) rfl (by omega) _ Try.underlying30 1 Try.sizeOf23)) ?_
     simp only [Act.put, pu]
     refine pw_loadk (by rfl) 23 _ rfl _ (ob + j * 1) rfl rB (.float .f64 (B j)) hb2 Try.isAgg23 ?_
     simp only [Act.put, pu]
     refine pw_callB (by rfl) 10 _ _ rfl Try.func10 (by kernel_rfl) #[.float .f64 (B (k + 1)), .float .f64 (B j)] rfl _ (hcm2 _) ?_
     intro z5008 k
     simp only [Act.put, pu]
     replace sb := sb.trans (k.below w.heap.size sb.size (by simp <;> omega))
     clear k
     refine pw_value (by rfl) (.bool true) (exec_lt_b _ _ _ _ rfl (cpz (κ (k + 1)) (κ j)) 0 rfl rfl true hB) ?_
     simp only [Act.put, pu]
     refine pw_pick (by rfl) false (v := .bool true) rfl rfl rfl ?_
     simp only [Act.put, pu]
     refine pw_nil ?_
     (repeat ((fail_if_success with_reducible refine rg ?_); go_step))
     refine wp_region_pw ?_
     refine pw_mv (by rfl) rfl rfl ?_
     simp only [Act.put, pu]
     refine pw_as (by rfl) rfl rfl ?_
     simp only [Act.put, pu]
     refine pw_nil ?_
     (repeat ((fail_if_success with_reducible refine rg ?_); go_step))
     refine wp_region_pw ?_
     refine pw_value (by rfl) (.int .i64 (((k + 1) + 1 : Nat) : Int)) (exec_add_in _ _ _ _ rfl ((k + 1)) (1) rfl rfl (by omega)) ?_
     simp only [Act.put, pu]
     refine pw_mv (by rfl) rfl rfl ?_
     simp only [Act.put, pu]
     refine pw_nil ?_
     go_wp2
     go_roundg g
     case measure => omega
     case rel => exact ⟨k + 1 + 1, by omega, by rw [HS2.out], rfl, sb⟩
    ·have hB : decide (cpz (κ (k + 1)) (κ j) < 0) = false := decide_eq_false (fun h => hc ((cpz_lt _ _).1 h))
     have HS2 : Hid (lsz κ (k + 1 + 1) = ((j : Nat) : Int)) := HS.out false (decide_eq_false hc)
     (repeat ((fail_if_success with_reducible refine rg ?_); go_step))
     refine wp_region_pw ?_
     refine pw_value (by rfl) (.bool true) (exec_lt_b _ _ _ _ rfl ((k + 1 : Nat) : Nat) (n : Nat) rfl rfl true (decide_eq_true (by omega))) ?_
     simp only [Act.put, pu]
     refine pw_nil ?_
     (repeat ((fail_if_success with_reducible refine rg ?_); go_step))
     refine wp_region_pw ?_
     refine pw_mv (by rfl) rfl rfl ?_
     simp only [Act.put, pu]
     refine pw_value (by rfl) (.pointer (some ⟨gb, ob + (k + 1) * 1, none⟩)) ((exec_index_s 30 _ _ rfl (gb) (ob) (n) (c) rfl ((k + 1)) rfl (hkn) _ Try.underlying30 1 Try.sizeOf23)) ?_
     simp only [Act.put, pu]
     refine pw_loadk (by rfl) 23 _ rfl _ (ob + (k + 1) * 1) rfl rB (.float .f64 (B (k + 1))) hb1 Try.isAgg23 ?_
     simp only [Act.put, pu]
     refine pw_as (by rfl) rfl rfl ?_
     simp only [Act.put, pu]
     refine pw_as (by rfl) rfl rfl ?_
     simp only [Act.put, pu]
     refine pw_nil ?_
     (repeat ((fail_if_success with_reducible refine rg ?_); go_step))
     refine wp_region_pw ?_
     refine pw_mv (by rfl) rfl rfl ?_
     simp only [Act.put, pu]
     refine pw_value (by rfl) (.bool false) (exec_lt_b _ _ _ _ rfl (j : Nat) 0 rfl rfl false (decide_eq_false (by omega))) ?_
     simp only [Act.put, pu]
     refine pw_mv (by rfl) rfl rfl ?_
     simp only [Act.put, pu]
     refine pw_mv (by rfl) rfl rfl ?_
     simp only [Act.put, pu]
     refine pw_mv (by rfl) rfl rfl ?_
     simp only [Act.put, pu]
     refine pw_mv (by rfl) rfl rfl ?_
     simp only [Act.put, pu]
     refine pw_value (by rfl) (.pointer (some ⟨gb, ob + j * 1, none⟩)) ((exec_index_s 30 _ _ rfl (gb) (ob) (n) (c) rfl (j) rfl (by omega) _ Try.underlying30 1 Try.sizeOf23)) ?_
     simp only [Act.put, pu]
     refine pw_loadk (by rfl) 23 _ rfl _ (ob + j * 1) rfl rB (.float .f64 (B j)) hb2 Try.isAgg23 ?_
     simp only [Act.put, pu]
     refine pw_callB (by rfl) 10 _ _ rfl Try.func10 (by kernel_rfl) #[.float .f64 (B (k + 1)), .float .f64 (B j)] rfl _ (hcm2 _) ?_
     intro z5008 k
     simp only [Act.put, pu]
     replace sb := sb.trans (k.below w.heap.size sb.size (by simp <;> omega))
     clear k
     refine pw_value (by rfl) (.bool false) (exec_lt_b _ _ _ _ rfl (cpz (κ (k + 1)) (κ j)) 0 rfl rfl false hB) ?_
     simp only [Act.put, pu]
     refine pw_pick (by rfl) false (v := .bool false) rfl rfl rfl ?_
     simp only [Act.put, pu]
     refine pw_nil ?_
     (repeat ((fail_if_success with_reducible refine rg ?_); go_step))
     refine wp_region_pw ?_
     refine pw_value (by rfl) (.int .i64 (((k + 1) + 1 : Nat) : Int)) (exec_add_in _ _ _ _ rfl ((k + 1)) (1) rfl rfl (by omega)) ?_
     simp only [Act.put, pu]
     refine pw_mv (by rfl) rfl rfl ?_
     simp only [Act.put, pu]
     refine pw_nil ?_
     go_wp2
     go_roundg g
     case measure => omega
     case rel => exact ⟨k + 1 + 1, by omega, by rw [HS2.out], rfl, sb⟩
set_option maxRecDepth 100000 in
set_option maxHeartbeats 2000000 in
theorem rleast_any (ab : Option Addr) (n c : Nat) (B : Nat → Nat) (gb ob : Nat) (bcs : Array Value) (tb : TypeId) (w : World) (hn : n ≤ 1000) (hB : ∀ i, i < n → B i < 18446744073709551616) (hf : VsAt w ab n (flv B) gb ob bcs tb) :
  Calls Try.prog 15 #[.slice ab n c] w fun e w' => e = .returned (.int .i64 (lsz (fun i => rnk (B i)) n)) ∧ Below w.heap.size w w' := by
 have hcm := fun x y (hx : x < n) (hy : y < n) w' => wrcmp_any (B x) (B y) (hB x hx) (hB y hy) w'
 obtain ⟨κ, hκ⟩ : ∃ κ, (fun i => rnk (B i)) = κ := ⟨_, rfl⟩
 have hκ2 : ∀ i, rnk (B i) = κ i := fun i => by rw [← hκ]
 simp only [hκ2] at hcm
 rw [hκ]
 have HF : Hid (VsAt w ab n (flv B) gb ob bcs tb) := hf
 clear hf hB hκ hκ2
 go_enter Try.func15, Try.ntmps15
 have sb := sbmk w
 (repeat ((fail_if_success with_reducible refine rg ?_); go_step))
 refine wp_region_pw ?_
 refine pw_value (by rfl) (.int .i64 0) (fun _ => rfl) ?_
 simp only [Act.put, pu]
 refine pw_nil ?_
 (repeat ((fail_if_success with_reducible refine rg ?_); go_step))
 refine wp_region_pw ?_
 refine pw_move (by rfl) (.inr rfl) rfl ?_
 simp only [Act.put, pu]
 refine pw_nil ?_
 (repeat ((fail_if_success with_reducible refine rg ?_); go_step))
 refine wp_region_pw ?_
 refine pw_value (by rfl) (.int .i64 0) (fun _ => rfl) ?_
 simp only [Act.put, pu]
 refine pw_nil ?_
 go_wp2_with fail
 go_loopg [3, 4] n (fun g s3 s4 wr => ∃ k : Nat, k + g = n ∧ s3 = .int .i64 (lsz κ k) ∧ s4 = .int .i64 k ∧ Below w.heap.size w wr)
 case atStart => exact ⟨0, by omega, rfl, rfl, sb⟩
 case round =>
  clear sb
  obtain ⟨k, hk, rfl, rfl, sb⟩ := hrel
  cases gk with
  | zero =>
   obtain rfl : k = n := by omega
   (repeat ((fail_if_success with_reducible refine rg ?_); go_step))
   refine wp_region_pw ?_
   refine pw_mv (by rfl) rfl rfl ?_
   simp only [Act.put, pu]
   refine pw_mv (by rfl) rfl rfl ?_
   simp only [Act.put, pu]
   refine pw_value (by rfl) (.int .i64 (k : Nat)) (exec_len_s 30 _ rfl (ab) (k) (c) rfl sl_fl) ?_
   simp only [Act.put, pu]
   refine pw_value (by rfl) (.bool false) (exec_lt_b _ _ _ _ rfl (k : Nat) (k : Nat) rfl rfl false (decide_eq_false (by omega))) ?_
   simp only [Act.put, pu]
   refine pw_nil ?_
   (repeat ((fail_if_success with_reducible refine rg ?_); go_step))
   refine wp_region_pw ?_
   refine pw_mv (by rfl) rfl rfl ?_
   simp only [Act.put, pu]
   refine pw_as (by rfl) rfl rfl ?_
   simp only [Act.put, pu]
   refine pw_nil ?_
   go_wp2
   go_ret
   exact ⟨rfl, sb⟩
  | succ g =>
   have hkn : k < n := by omega
   obtain h0 | ⟨rfl, rB, hb⟩ := (HF.out.below sb).at'
   ·omega
   have hb1 := hb k hkn
   unfold flv at hb1
   cases k with
   | zero =>
    clear hb
    (repeat ((fail_if_success with_reducible refine rg ?_); go_step))
    refine wp_region_pw ?_
    refine pw_mv (by rfl) rfl rfl ?_
    simp only [Act.put, pu]
    refine pw_mv (by rfl) rfl rfl ?_
    simp only [Act.put, pu]
    refine pw_value (by rfl) (.int .i64 (n : Nat)) (exec_len_s 30 _ rfl (some ⟨gb, ob, none⟩) (n) (c) rfl sl_fl) ?_
    simp only [Act.put, pu]
    refine pw_value (by rfl) (.bool true) (exec_lt_b _ _ _ _ rfl (0 : Nat) (n : Nat) rfl rfl true (decide_eq_true (by omega))) ?_
    simp only [Act.put, pu]
    refine pw_nil ?_
    (repeat ((fail_if_success with_reducible refine rg ?_); go_step))
    refine wp_region_qw (by kernel_rfl) (by kernel_rfl) ?_
    refine qw_move (by rfl) rfl rfl ?_
    simp only [Act.put, pu]
    refine qw_value (by rfl) (.bool true) (exec_lt_b _ _ _ _ rfl (-1) 0 rfl rfl true rfl) ?_
    simp only [Act.put, pu]
    refine qw_move (by rfl) rfl rfl ?_
    simp only [Act.put, pu]
    refine qw_skip (by rfl) ?_
    simp only [Act.put, pu]
    refine qw_skip (by rfl) ?_
    simp only [Act.put, pu]
    refine qw_skip (by rfl) ?_
    simp only [Act.put, pu]
    refine qw_skip (by rfl) ?_
    simp only [Act.put, pu]
    refine qw_skip (by rfl) ?_
    simp only [Act.put, pu]
    refine qw_skip (by rfl) ?_
    simp only [Act.put, pu]
    refine qw_skip (by rfl) ?_
    simp only [Act.put, pu]
    refine qw_skip (by rfl) ?_
    simp only [Act.put, pu]
    refine qw_skip (by rfl) ?_
    simp only [Act.put, pu]
    refine qw_skip (by rfl) ?_
    simp only [Act.put, pu]
    refine qw_pick true (v := .bool true) (by rfl) rfl rfl rfl ?_
    simp only [Act.put, pu]
    refine qw_nil ?_
    intro w2 hqb
    replace sb := below_on sb (Nat.le_refl _) hqb
    clear hqb
    (repeat ((fail_if_success with_reducible refine rg ?_); go_step))
    refine wp_region_pw ?_
    refine pw_mv (by rfl) rfl rfl ?_
    simp only [Act.put, pu]
    refine pw_as (by rfl) rfl rfl ?_
    simp only [Act.put, pu]
    refine pw_nil ?_
    (repeat ((fail_if_success with_reducible refine rg ?_); go_step))
    refine wp_region_pw ?_
    refine pw_mv (by rfl) rfl rfl ?_
    simp only [Act.put, pu]
    refine pw_value (by rfl) (.int .i64 ((0 + 1 : Nat) : Int)) (exec_add_in _ _ _ _ rfl (0) (1) rfl rfl (by omega)) ?_
    simp only [Act.put, pu]
    refine pw_as (by rfl) rfl rfl ?_
    simp only [Act.put, pu]
    refine pw_nil ?_
    go_wp2
    go_roundg g
    case measure => omega
    case rel => exact ⟨1, by omega, rfl, rfl, sb⟩
   | succ k =>
    have hj := lsj_le κ k
    have HS : Hid (∀ b, decide (κ (k + 1) < κ (lsj κ k)) = b → lsz κ (k + 1 + 1) = if b = true then ((k + 1 : Nat) : Int) else (lsj κ k : Nat)) := fun b hb => by
     subst hb
     show ((lsj κ (k + 1) : Nat) : Int) = _
     rw [lsj]
     by_cases c : κ (k + 1) < κ (lsj κ k)
     ·rw [if_pos c, decide_eq_true c]; rfl
     ·rw [if_neg c, decide_eq_false c]; rfl
    have hz : lsz κ (k + 1) = (lsj κ k : Nat) := rfl
    rw [hz]
    clear hz
    have hb2 := hb (lsj κ k) (by omega)
    unfold flv at hb2
    have hcm2 := hcm (k + 1) (lsj κ k) hkn (by omega)
    generalize lsj κ k = j at *
    clear hb
    by_cases hc : κ (k + 1) < κ j
    ·have hB : decide (cpz (κ (k + 1)) (κ j) < 0) = true := decide_eq_true ((cpz_lt _ _).2 hc)
     have HS2 : Hid (lsz κ (k + 1 + 1) = ((k + 1 : Nat) : Int)) := HS.out true (decide_eq_true hc)
     (repeat ((fail_if_success with_reducible refine rg ?_); go_step))
     refine wp_region_pw ?_
     refine pw_mv (by rfl) rfl rfl ?_
     simp only [Act.put, pu]
     refine pw_mv (by rfl) rfl rfl ?_
     simp only [Act.put, pu]
     refine pw_value (by rfl) (.int .i64 (n : Nat)) (exec_len_s 30 _ rfl (some ⟨gb, ob, none⟩) (n) (c) rfl sl_fl) ?_
     simp only [Act.put, pu]
     refine pw_value (by rfl) (.bool true) (exec_lt_b _ _ _ _ rfl ((k + 1 : Nat) : Nat) (n : Nat) rfl rfl true (decide_eq_true (by omega))) ?_
     simp only [Act.put, pu]
     refine pw_nil ?_
     (repeat ((fail_if_success with_reducible refine rg ?_); go_step))
     refine wp_region_qw (by kernel_rfl) (by kernel_rfl) ?_
     refine qw_move (by rfl) rfl rfl ?_
     simp only [Act.put, pu]
     refine qw_value (by rfl) (.bool false) (exec_lt_b _ _ _ _ rfl (j : Nat) 0 rfl rfl false (decide_eq_false (by omega))) ?_
     simp only [Act.put, pu]
     refine qw_move (by rfl) rfl rfl ?_
     simp only [Act.put, pu]
     refine qw_move (by rfl) rfl rfl ?_
     simp only [Act.put, pu]
     refine qw_move (by rfl) rfl rfl ?_
     simp only [Act.put, pu]
     refine qw_value (by rfl) (.pointer (some ⟨gb, ob + (k + 1) * 1, none⟩)) ((exec_index_s 30 _ _ rfl (gb) (ob) (n) (c) rfl ((k + 1)) rfl (hkn) _ Try.underlying30 1 Try.sizeOf23)) ?_
     simp only [Act.put, pu]
     refine qw_loadcR (by rfl) 23 _ rfl _ (ob + (k + 1) * 1) rfl rB (.float .f64 (B (k + 1))) hb1 Try.isAgg23 ?_
     simp only [Act.put, pu]
     refine qw_move (by rfl) rfl rfl ?_
     simp only [Act.put, pu]
     refine qw_move (by rfl) rfl rfl ?_
     simp only [Act.put, pu]
     refine qw_value (by rfl) (.pointer (some ⟨gb, ob + j * 1, none⟩)) ((exec_index_s 30 _ _ rfl (gb) (ob) (n) (c) rfl (j) rfl (by omega) _ Try.underlying30 1 Try.sizeOf23)) ?_
     simp only [Act.put, pu]
     refine qw_loadcR (by rfl) 23 _ rfl _ (ob + j * 1) rfl rB (.float .f64 (B j)) hb2 Try.isAgg23 ?_
     simp only [Act.put, pu]
     refine qw_call (by rfl) 11 _ _ rfl Try.func11 (by kernel_rfl) #[.float .f64 (B (k + 1)), .float .f64 (B j)] rfl _ hcm2 ?_
     simp only [Act.put, pu]
     refine qw_value (by rfl) (.bool true) (exec_lt_b _ _ _ _ rfl (cpz (κ (k + 1)) (κ j)) 0 rfl rfl true hB) ?_
     simp only [Act.put, pu]
     refine qw_pick false (v := .bool true) (by rfl) rfl rfl rfl ?_
     simp only [Act.put, pu]
     refine qw_nil ?_
     intro w2 hqb
     replace sb := below_on sb (Nat.le_refl _) hqb
     clear hqb
     (repeat ((fail_if_success with_reducible refine rg ?_); go_step))
     refine wp_region_pw ?_
     refine pw_mv (by rfl) rfl rfl ?_
     simp only [Act.put, pu]
     refine pw_as (by rfl) rfl rfl ?_
     simp only [Act.put, pu]
     refine pw_nil ?_
     (repeat ((fail_if_success with_reducible refine rg ?_); go_step))
     refine wp_region_pw ?_
     refine pw_mv (by rfl) rfl rfl ?_
     simp only [Act.put, pu]
     refine pw_value (by rfl) (.int .i64 (((k + 1) + 1 : Nat) : Int)) (exec_add_in _ _ _ _ rfl ((k + 1)) (1) rfl rfl (by omega)) ?_
     simp only [Act.put, pu]
     refine pw_as (by rfl) rfl rfl ?_
     simp only [Act.put, pu]
     refine pw_nil ?_
     go_wp2
     go_roundg g
     case measure => omega
     case rel => exact ⟨k + 1 + 1, by omega, by rw [HS2.out], rfl, sb⟩
    ·have hB : decide (cpz (κ (k + 1)) (κ j) < 0) = false := decide_eq_false (fun h => hc ((cpz_lt _ _).1 h))
     have HS2 : Hid (lsz κ (k + 1 + 1) = ((j : Nat) : Int)) := HS.out false (decide_eq_false hc)
     (repeat ((fail_if_success with_reducible refine rg ?_); go_step))
     refine wp_region_pw ?_
     refine pw_mv (by rfl) rfl rfl ?_
     simp only [Act.put, pu]
     refine pw_mv (by rfl) rfl rfl ?_
     simp only [Act.put, pu]
     refine pw_value (by rfl) (.int .i64 (n : Nat)) (exec_len_s 30 _ rfl (some ⟨gb, ob, none⟩) (n) (c) rfl sl_fl) ?_
     simp only [Act.put, pu]
     refine pw_value (by rfl) (.bool true) (exec_lt_b _ _ _ _ rfl ((k + 1 : Nat) : Nat) (n : Nat) rfl rfl true (decide_eq_true (by omega))) ?_
     simp only [Act.put, pu]
     refine pw_nil ?_
     (repeat ((fail_if_success with_reducible refine rg ?_); go_step))
     refine wp_region_qw (by kernel_rfl) (by kernel_rfl) ?_
     refine qw_move (by rfl) rfl rfl ?_
     simp only [Act.put, pu]
     refine qw_value (by rfl) (.bool false) (exec_lt_b _ _ _ _ rfl (j : Nat) 0 rfl rfl false (decide_eq_false (by omega))) ?_
     simp only [Act.put, pu]
     refine qw_move (by rfl) rfl rfl ?_
     simp only [Act.put, pu]
     refine qw_move (by rfl) rfl rfl ?_
     simp only [Act.put, pu]
     refine qw_move (by rfl) rfl rfl ?_
     simp only [Act.put, pu]
     refine qw_value (by rfl) (.pointer (some ⟨gb, ob + (k + 1) * 1, none⟩)) ((exec_index_s 30 _ _ rfl (gb) (ob) (n) (c) rfl ((k + 1)) rfl (hkn) _ Try.underlying30 1 Try.sizeOf23)) ?_
     simp only [Act.put, pu]
     refine qw_loadcR (by rfl) 23 _ rfl _ (ob + (k + 1) * 1) rfl rB (.float .f64 (B (k + 1))) hb1 Try.isAgg23 ?_
     simp only [Act.put, pu]
     refine qw_move (by rfl) rfl rfl ?_
     simp only [Act.put, pu]
     refine qw_move (by rfl) rfl rfl ?_
     simp only [Act.put, pu]
     refine qw_value (by rfl) (.pointer (some ⟨gb, ob + j * 1, none⟩)) ((exec_index_s 30 _ _ rfl (gb) (ob) (n) (c) rfl (j) rfl (by omega) _ Try.underlying30 1 Try.sizeOf23)) ?_
     simp only [Act.put, pu]
     refine qw_loadcR (by rfl) 23 _ rfl _ (ob + j * 1) rfl rB (.float .f64 (B j)) hb2 Try.isAgg23 ?_
     simp only [Act.put, pu]
     refine qw_call (by rfl) 11 _ _ rfl Try.func11 (by kernel_rfl) #[.float .f64 (B (k + 1)), .float .f64 (B j)] rfl _ hcm2 ?_
     simp only [Act.put, pu]
     refine qw_value (by rfl) (.bool false) (exec_lt_b _ _ _ _ rfl (cpz (κ (k + 1)) (κ j)) 0 rfl rfl false hB) ?_
     simp only [Act.put, pu]
     refine qw_pick false (v := .bool false) (by rfl) rfl rfl rfl ?_
     simp only [Act.put, pu]
     refine qw_nil ?_
     intro w2 hqb
     replace sb := below_on sb (Nat.le_refl _) hqb
     clear hqb
     (repeat ((fail_if_success with_reducible refine rg ?_); go_step))
     refine wp_region_pw ?_
     refine pw_mv (by rfl) rfl rfl ?_
     simp only [Act.put, pu]
     refine pw_value (by rfl) (.int .i64 (((k + 1) + 1 : Nat) : Int)) (exec_add_in _ _ _ _ rfl ((k + 1)) (1) rfl rfl (by omega)) ?_
     simp only [Act.put, pu]
     refine pw_as (by rfl) rfl rfl ?_
     simp only [Act.put, pu]
     refine pw_nil ?_
     go_wp2
     go_roundg g
     case measure => omega
     case rel => exact ⟨k + 1 + 1, by omega, by rw [HS2.out], rfl, sb⟩
set_option maxRecDepth 100000 in
set_option maxHeartbeats 2000000 in
theorem nums_yes (ab ae : Option Addr) (n ca ce : Nat) (u v : Nat → Nat) (gb ob ge oe : Nat) (bcs ecs : Array Value) (tb te : TypeId) (w : World) (hn : n ≤ 1000) (huv : ∀ i, i < n → u i = v i) (hu : NumsAt w ab n u gb ob bcs tb) (hv : NumsAt w ae n v ge oe ecs te) :
  Calls Try.prog 16 #[.slice ab n ca, .slice ae n ce] w fun e w' => e = .returned (.bool true) ∧ Below w.heap.size w w' := by
 have HU : Hid (NumsAt w ab n u gb ob bcs tb) := hu
 have HV : Hid (NumsAt w ae n u ge oe ecs te) := hv.congr (fun i hi => (huv i hi).symm)
 clear hu hv huv
 go_enter Try.func16, Try.ntmps16
 have sb := sbmk w
 (repeat ((fail_if_success with_reducible refine rg ?_); go_step))
 refine wp_region_pw ?_
 refine pw_value (by rfl) (.bool false) (fun _ => rfl) ?_
 simp only [Act.put, pu]
 refine pw_nil ?_
 (repeat ((fail_if_success with_reducible refine rg ?_); go_step))
 refine wp_region_pw ?_
 refine pw_mv (by rfl) rfl rfl ?_
 simp only [Act.put, pu]
 refine pw_value (by rfl) (.int .i64 (n : Nat)) (exec_len_s 34 _ rfl (ab) (n) (ca) rfl sl_intsX) ?_
 simp only [Act.put, pu]
 refine pw_mv (by rfl) rfl rfl ?_
 simp only [Act.put, pu]
 refine pw_value (by rfl) (.int .i64 (n : Nat)) (exec_len_s 34 _ rfl (ae) (n) (ce) rfl sl_intsX) ?_
 simp only [Act.put, pu]
 refine pw_value (by rfl) (.bool false) (exec_neq_k .i64 _ _ _ _ rfl (n : Nat) (n : Nat) rfl rfl false (by rw [decide_eq_true rfl]; rfl)) ?_
 simp only [Act.put, pu]
 refine pw_nil ?_
 (repeat ((fail_if_success with_reducible refine rg ?_); go_step))
 refine wp_region_pw ?_
 refine pw_value (by rfl) (.int .i64 0) (fun _ => rfl) ?_
 simp only [Act.put, pu]
 refine pw_nil ?_
 go_wp2_with fail
 go_loopg [5] n (fun g s5 wr => ∃ k : Nat, k + g = n ∧ s5 = .int .i64 k ∧ Below w.heap.size w wr)
 case atStart => exact ⟨0, by omega, rfl, sb⟩
 case round =>
  clear sb
  obtain ⟨k, hk, rfl, sb⟩ := hrel
  cases gk with
  | zero =>
   obtain rfl : k = n := by omega
   (repeat ((fail_if_success with_reducible refine rg ?_); go_step))
   refine wp_region_pw ?_
   refine pw_mv (by rfl) rfl rfl ?_
   simp only [Act.put, pu]
   refine pw_mv (by rfl) rfl rfl ?_
   simp only [Act.put, pu]
   refine pw_value (by rfl) (.int .i64 (k : Nat)) (exec_len_s 34 _ rfl (ab) (k) (ca) rfl sl_intsX) ?_
   simp only [Act.put, pu]
   refine pw_value (by rfl) (.bool false) (exec_lt_b _ _ _ _ rfl (k : Nat) (k : Nat) rfl rfl false (decide_eq_false (by omega))) ?_
   simp only [Act.put, pu]
   refine pw_nil ?_
   (repeat ((fail_if_success with_reducible refine rg ?_); go_step))
   refine wp_region_pw ?_
   refine pw_value (by rfl) (.bool true) (fun _ => rfl) ?_
   simp only [Act.put, pu]
   refine pw_nil ?_
   go_wp2
   go_ret
   exact ⟨rfl, sb⟩
  | succ g =>
   have hkn : k < n := by omega
   obtain h0 | ⟨rfl, rU, hbu⟩ := (HU.out.below sb).at'
   ·omega
   obtain h0 | ⟨rfl, rV, hbv⟩ := (HV.out.below sb).at'
   ·omega
   have hb1 := hbu k hkn
   have hb2 := hbv k hkn
   clear hbu hbv
   (repeat ((fail_if_success with_reducible refine rg ?_); go_step))
   refine wp_region_pw ?_
   refine pw_mv (by rfl) rfl rfl ?_
   simp only [Act.put, pu]
   refine pw_mv (by rfl) rfl rfl ?_
   simp only [Act.put, pu]
   refine pw_value (by rfl) (.int .i64 (n : Nat)) (exec_len_s 34 _ rfl (some ⟨gb, ob, none⟩) (n) (ca) rfl sl_intsX) ?_
   simp only [Act.put, pu]
   refine pw_value (by rfl) (.bool true) (exec_lt_b _ _ _ _ rfl (k : Nat) (n : Nat) rfl rfl true (decide_eq_true (by omega))) ?_
   simp only [Act.put, pu]
   refine pw_nil ?_
   (repeat ((fail_if_success with_reducible refine rg ?_); go_step))
   refine wp_region_qw (by kernel_rfl) (by kernel_rfl) ?_
   refine qw_move (by rfl) rfl rfl ?_
   simp only [Act.put, pu]
   refine qw_move (by rfl) rfl rfl ?_
   simp only [Act.put, pu]
   refine qw_value (by rfl) (.pointer (some ⟨gb, ob + k * 1, none⟩)) ((exec_index_s 34 _ _ rfl (gb) (ob) (n) (ca) rfl (k) rfl (hkn) _ Try.underlying34 1 Try.sizeOf3)) ?_
   simp only [Act.put, pu]
   refine qw_loadcR (by rfl) 3 _ rfl _ (ob + k * 1) rfl rU (.int .i64 (u k : Nat)) hb1 Try.isAgg3 ?_
   simp only [Act.put, pu]
   refine qw_move (by rfl) rfl rfl ?_
   simp only [Act.put, pu]
   refine qw_move (by rfl) rfl rfl ?_
   simp only [Act.put, pu]
   refine qw_value (by rfl) (.pointer (some ⟨ge, oe + k * 1, none⟩)) ((exec_index_s 34 _ _ rfl (ge) (oe) (n) (ce) rfl (k) rfl (hkn) _ Try.underlying34 1 Try.sizeOf3)) ?_
   simp only [Act.put, pu]
   refine qw_loadcR (by rfl) 3 _ rfl _ (oe + k * 1) rfl rV (.int .i64 (u k : Nat)) hb2 Try.isAgg3 ?_
   simp only [Act.put, pu]
   refine qw_value (by rfl) (.bool false) (exec_neq_k .i64 _ _ _ _ rfl (u k : Nat) (u k : Nat) rfl rfl false (by rw [decide_eq_true rfl]; rfl)) ?_
   simp only [Act.put, pu]
   refine qw_nil ?_
   intro w2 hqb
   replace sb := below_on sb (Nat.le_refl _) hqb
   clear hqb
   (repeat ((fail_if_success with_reducible refine rg ?_); go_step))
   refine wp_region_pw ?_
   refine pw_mv (by rfl) rfl rfl ?_
   simp only [Act.put, pu]
   refine pw_value (by rfl) (.int .i64 ((k + 1 : Nat) : Int)) (exec_add_in _ _ _ _ rfl (k) (1) rfl rfl (by omega)) ?_
   simp only [Act.put, pu]
   refine pw_as (by rfl) rfl rfl ?_
   simp only [Act.put, pu]
   refine pw_nil ?_
   go_wp2
   go_roundg g
   case measure => omega
   case rel => exact ⟨k + 1, by omega, rfl, sb⟩
set_option maxRecDepth 100000 in
set_option maxHeartbeats 2000000 in
theorem floats_any (ab : Option Addr) (n c : Nat) (B : Nat → Nat) (gb ob : Nat) (bcs : Array Value) (tb : TypeId) (w : World) (hn : n ≤ 1000) (hf : VsAt w ab n (u6v B) gb ob bcs tb) :
  Calls Try.prog 13 #[.slice ab n c] w fun e w' => ∃ v, e = .returned v ∧ OwnF w' w.heap.size v n B ∧ Below w.heap.size w w' := by
 obtain ⟨ie, hie, hz, hsz, _⟩ := info_flt
 have hs1 : ¬ 1 * ie.size > 2 ^ 24 := by rw [hsz]; decide
 have hs2 : ¬ 1 * ie.size = 0 := by rw [hsz]; decide
 have hl1 := fun a => lit_f1 a ie.size hsz
 have HF : Hid (VsAt w ab n (u6v B) gb ob bcs tb) := hf
 clear hf
 go_enter Try.func13, Try.ntmps13
 have sb := sbmk w
 (repeat ((fail_if_success with_reducible refine rg ?_); go_step))
 refine wp_region_pw ?_
 refine pw_value (by rfl) (.slice none 0 0) ((fun _ => rfl)) ?_
 simp only [Act.put, pu]
 refine pw_nil ?_
 (repeat ((fail_if_success with_reducible refine rg ?_); go_step))
 refine wp_region_pw ?_
 refine pw_value (by rfl) (.slice none 0 0) ((fun _ => rfl)) ?_
 simp only [Act.put, pu]
 refine pw_nil ?_
 (repeat ((fail_if_success with_reducible refine rg ?_); go_step))
 refine wp_region_pw ?_
 refine pw_value (by rfl) (.int .i64 0) (fun _ => rfl) ?_
 simp only [Act.put, pu]
 refine pw_nil ?_
 go_wp2_with fail
 go_loopg [3, 4] n (fun g s3 s4 wr => ∃ k : Nat, k + g = n ∧ s4 = .int .i64 k ∧ OwnF wr w.heap.size s3 k B ∧ Below w.heap.size w wr)
 case atStart => exact ⟨0, by omega, rfl, ownF_nil _ _ _, sb⟩
 case round =>
  clear sb
  obtain ⟨k, hk, rfl, hL, sb⟩ := hrel
  cases gk with
  | zero =>
   obtain rfl : k = n := by omega
   (repeat ((fail_if_success with_reducible refine rg ?_); go_step))
   refine wp_region_pw ?_
   refine pw_mv (by rfl) rfl rfl ?_
   simp only [Act.put, pu]
   refine pw_mv (by rfl) rfl rfl ?_
   simp only [Act.put, pu]
   refine pw_value (by rfl) (.int .i64 (k : Nat)) (exec_len_s 29 _ rfl (ab) (k) (c) rfl sl_u6) ?_
   simp only [Act.put, pu]
   refine pw_value (by rfl) (.bool false) (exec_lt_b _ _ _ _ rfl (k : Nat) (k : Nat) rfl rfl false (decide_eq_false (by omega))) ?_
   simp only [Act.put, pu]
   refine pw_nil ?_
   (repeat ((fail_if_success with_reducible refine rg ?_); go_step))
   refine wp_region_pw ?_
   refine pw_mv (by rfl) rfl rfl ?_
   simp only [Act.put, pu]
   refine pw_as (by rfl) rfl rfl ?_
   simp only [Act.put, pu]
   refine pw_nil ?_
   go_wp2
   go_ret
   exact ⟨_, rfl, hL, sb⟩
  | succ g =>
   have hkn : k < n := by omega
   obtain h0 | ⟨rfl, rB, hb⟩ := (HF.out.below sb).at'
   ·omega
   have hb1 := hb k hkn
   unfold u6v at hb1
   clear hb
   (repeat ((fail_if_success with_reducible refine rg ?_); go_step))
   refine wp_region_pw ?_
   refine pw_mv (by rfl) rfl rfl ?_
   simp only [Act.put, pu]
   refine pw_mv (by rfl) rfl rfl ?_
   simp only [Act.put, pu]
   refine pw_value (by rfl) (.int .i64 (n : Nat)) (exec_len_s 29 _ rfl (some ⟨gb, ob, none⟩) (n) (c) rfl sl_u6) ?_
   simp only [Act.put, pu]
   refine pw_value (by rfl) (.bool true) (exec_lt_b _ _ _ _ rfl (k : Nat) (n : Nat) rfl rfl true (decide_eq_true (by omega))) ?_
   simp only [Act.put, pu]
   refine pw_nil ?_
   (repeat ((fail_if_success with_reducible refine rg ?_); go_step))
   refine wp_region_pw ?_
   refine pw_mv (by rfl) rfl rfl ?_
   simp only [Act.put, pu]
   refine pw_mv (by rfl) rfl rfl ?_
   simp only [Act.put, pu]
   refine pw_mv (by rfl) rfl rfl ?_
   simp only [Act.put, pu]
   refine pw_value (by rfl) (.pointer (some ⟨gb, ob + k * 1, none⟩)) ((exec_index_s 29 _ _ rfl (gb) (ob) (n) (c) rfl (k) rfl (hkn) _ Try.underlying29 1 Try.sizeOf22)) ?_
   simp only [Act.put, pu]
   refine pw_loadk (by rfl) 22 _ rfl _ (ob + k * 1) rfl rB (.int .u64 (B k : Nat)) hb1 Try.isAgg22 ?_
   simp only [Act.put, pu]
   refine pw_value (by rfl) (.float .f64 (B k)) (x_frm _ _ rfl (B k) rfl) ?_
   simp only [Act.put, pu]
   refine pw_litr (by rfl) 30 23 1 _ rfl #[.float .f64 (B k)] ie _ Try.underlying30 hie hz hs1 hs2 [(0, .float .f64 (B k))] rfl (hl1 _) ?_
   intro gA z5006 n0 rA k
   simp only [Act.put, pu]
   have ehLxA := hL.new n0
   have bA := Nat.le_trans sb.size n0
   clear n0
   replace hL := hL.on k (own_ne0 _)
   replace sb := sb.trans (k.below w.heap.size sb.size (by simp <;> omega))
   clear k
   refine pw_appF (by rfl) _ _ rfl (w.heap.size) (_) (k) (B) rfl hL gA _ rfl rA (by omega) sb.size ?_
   have h0 := hL
   clear hL
   intro v1 z5007 hL k hp
   simp only [Act.put, pu]
   clear hp
   replace sb := sb.trans (k.below w.heap.size sb.size h0.base)
   clear h0
   clear k
   refine pw_as (by rfl) rfl rfl ?_
   simp only [Act.put, pu]
   refine pw_nil ?_
   (repeat ((fail_if_success with_reducible refine rg ?_); go_step))
   refine wp_region_pw ?_
   refine pw_mv (by rfl) rfl rfl ?_
   simp only [Act.put, pu]
   refine pw_value (by rfl) (.int .i64 ((k + 1 : Nat) : Int)) (exec_add_in _ _ _ _ rfl (k) (1) rfl rfl (by omega)) ?_
   simp only [Act.put, pu]
   refine pw_as (by rfl) rfl rfl ?_
   simp only [Act.put, pu]
   refine pw_nil ?_
   go_wp2
   go_roundg g
   case measure => omega
   case rel => exact ⟨k + 1, by omega, rfl, hL, sb⟩
/-- Numbers that are told, over a step that does not write there. -/
theorem NumsAt.keep {w w2 : World} {ab : Option Addr} {n : Nat} {u : Nat → Nat} {gb ob : Nat} {bcs : Array Value} {tb : TypeId} {S : List Nat} (h : NumsAt w ab n u gb ob bcs tb) (hk : Kept S w w2) (hS : n = 0 ∨ gb ∉ S) : NumsAt w2 ab n u gb ob bcs tb := by
 rcases hS with hS | hS
 ·exact ⟨.inl hS⟩
 ·exact ⟨h.at'.imp id fun ⟨h1, h2, h3⟩ => ⟨h1, hk.rowR h2 hS, h3⟩⟩
/-- A slice that lies apart from numbers that are told. -/
def Apt (n gb : Nat) (v : Value) : Prop := n = 0 ∨ v.ownBlock ≠ some gb
theorem apt_on {w : World} {ab : Option Addr} {n : Nat} {u : Nat → Nat} {gb ob : Nat} {bcs : Array Value} {tb : TypeId} {v v' : Value} (h : NumsAt w ab n u gb ob bcs tb) (hp : v'.ownBlock = v.ownBlock ∨ v'.ownBlock = some w.heap.size) (ha : Apt n gb v) : Apt n gb v' := by
 rcases ha with h0 | h0
 ·exact .inl h0
 ·rcases h.at' with h1 | ⟨_, h2, _⟩
  ·exact .inl h1
  ·exact .inr (own_apart hp h2.lt h0)
theorem apt_nin {n gb : Nat} {v : Value} (h : Apt n gb v) : n = 0 ∨ gb ∉ v.ownBlock.toList := h.imp id own_nin
theorem rest_nil {ab : Option Addr} {n c k : Nat} (hc : n ≤ c) (hnil : ab = none → n = 0 ∧ c = 0) (h : rsA ab c k 1 = none) : n - k = 0 ∧ c - k = 0 := by
 cases ab with
 | none => have := hnil rfl; omega
 | some a =>
  unfold rsA at h
  split at h
  ·cases h
  ·cases h
set_option maxRecDepth 100000 in
set_option maxHeartbeats 2000000 in
theorem rorder_any (ab : Option Addr) (n c : Nat) (B : Nat → Nat) (gb ob : Nat) (bcs : Array Value) (tb : TypeId) (w : World) (hn : n ≤ 900) (hB : ∀ i, i < n → B i < 18446744073709551616) (hf : VsAt w ab n (flv B) gb ob bcs tb) :
  Calls Try.prog 18 #[.slice ab n c] w fun e w' => ∃ v u, e = .returned v ∧ OwnI w' w.heap.size v n u ∧ Ord (fun i => rnk (B i)) n u ∧ Below w.heap.size w w' := by
 obtain ⟨ie, hie, hz, hsz, _⟩ := info_int'
 have hs1 : ¬ 1 * ie.size > 2 ^ 24 := by rw [hsz]; decide
 have hs2 : ¬ 1 * ie.size = 0 := by rw [hsz]; decide
 have hl1 := fun a => lit_i1 a ie.size hsz
 have hcm := fun x y (hx : x < n) (hy : y < n) w' => wrcmp_any (B x) (B y) (hB x hx) (hB y hy) w'
 obtain ⟨κ, hκ⟩ : ∃ κ, (fun i => rnk (B i)) = κ := ⟨_, rfl⟩
 have hκ2 : ∀ i, rnk (B i) = κ i := fun i => by rw [← hκ]
 simp only [hκ2] at hcm
 rw [hκ]
 have HF : Hid (VsAt w ab n (flv B) gb ob bcs tb) := hf
 clear hf hB hκ hκ2
 go_enter Try.func18, Try.ntmps18
 have sb := sbmk w
 (repeat ((fail_if_success with_reducible refine rg ?_); go_step))
 refine wp_region_pw ?_
 refine pw_value (by rfl) (.slice none 0 0) ((fun _ => rfl)) ?_
 simp only [Act.put, pu]
 refine pw_nil ?_
 (repeat ((fail_if_success with_reducible refine rg ?_); go_step))
 refine wp_region_pw ?_
 refine pw_value (by rfl) (.slice none 0 0) ((fun _ => rfl)) ?_
 simp only [Act.put, pu]
 refine pw_nil ?_
 (repeat ((fail_if_success with_reducible refine rg ?_); go_step))
 refine wp_region_pw ?_
 refine pw_value (by rfl) (.int .i64 0) (fun _ => rfl) ?_
 simp only [Act.put, pu]
 refine pw_nil ?_
 go_wp2_with fail
 go_loopg [3, 4, 5, 6] n (fun g s3 s4 s5 s6 wr => ∃ (i : Nat) (u : Nat → Nat), i + g = n ∧ s4 = .int .i64 i ∧ OwnI wr w.heap.size s3 i u ∧ Ord κ i u ∧ Below w.heap.size w wr)
 case atStart => exact ⟨0, id, by omega, rfl, ownI_nil _ _ _, ⟨fun i h => by omega, fun i j h => by omega, fun i j h1 h2 h3 => by omega⟩, sb⟩
 case round =>
  clear sb
  obtain ⟨i, u, hk, rfl, hL, hO, sb⟩ := hrel
  cases gk with
  | zero =>
   obtain rfl : i = n := by omega
   (repeat ((fail_if_success with_reducible refine rg ?_); go_step))
   refine wp_region_pw ?_
   refine pw_mv (by rfl) rfl rfl ?_
   simp only [Act.put, pu]
   refine pw_mv (by rfl) rfl rfl ?_
   simp only [Act.put, pu]
   refine pw_value (by rfl) (.int .i64 (i : Nat)) (exec_len_s 30 _ rfl (ab) (i) (c) rfl sl_fl) ?_
   simp only [Act.put, pu]
   refine pw_value (by rfl) (.bool false) (exec_lt_b _ _ _ _ rfl (i : Nat) (i : Nat) rfl rfl false (decide_eq_false (by omega))) ?_
   simp only [Act.put, pu]
   refine pw_nil ?_
   (repeat ((fail_if_success with_reducible refine rg ?_); go_step))
   refine wp_region_pw ?_
   refine pw_mv (by rfl) rfl rfl ?_
   simp only [Act.put, pu]
   refine pw_as (by rfl) rfl rfl ?_
   simp only [Act.put, pu]
   refine pw_nil ?_
   go_wp2
   go_ret
   exact ⟨_, u, rfl, hL, hO, sb⟩
  | succ g =>
   have hin : i < n := by omega
   obtain ⟨av, cv, rfl⟩ := own_shape hL
   obtain ⟨_, hcap, hnil⟩ := ownI_cap hL
   obtain ⟨_, gO, cur, hnu⟩ := ownI_nums hL
   clear hL
   (repeat ((fail_if_success with_reducible refine rg ?_); go_step))
   refine wp_region_pw ?_
   refine pw_mv (by rfl) rfl rfl ?_
   simp only [Act.put, pu]
   refine pw_mv (by rfl) rfl rfl ?_
   simp only [Act.put, pu]
   refine pw_value (by rfl) (.int .i64 (n : Nat)) (exec_len_s 30 _ rfl (ab) (n) (c) rfl sl_fl) ?_
   simp only [Act.put, pu]
   refine pw_value (by rfl) (.bool true) (exec_lt_b _ _ _ _ rfl (i : Nat) (n : Nat) rfl rfl true (decide_eq_true (by omega))) ?_
   simp only [Act.put, pu]
   refine pw_nil ?_
   (repeat ((fail_if_success with_reducible refine rg ?_); go_step))
   refine wp_region_pw ?_
   refine pw_mv (by rfl) rfl rfl ?_
   simp only [Act.put, pu]
   refine pw_value (by rfl) (.int .i64 (i : Nat)) (exec_len_s 34 _ rfl (av) (i) (cv) rfl sl_intsX) ?_
   simp only [Act.put, pu]
   refine pw_as (by rfl) rfl rfl ?_
   simp only [Act.put, pu]
   refine pw_nil ?_
   go_wp2_with fail
   go_loopg [5] i (fun y s5 wr => ∃ k : Nat, k ≤ y ∧ k ≤ i ∧ s5 = .int .i64 k ∧ (∀ q, k ≤ q → q < i → κ i < κ (u q)) ∧ NumsAt wr av i u gO 0 cur 3 ∧ Below w.heap.size w wr)
   case atStart => exact ⟨i, Nat.le_refl _, Nat.le_refl _, rfl, fun q h1 h2 => by omega, hnu, sb⟩
   case round =>
    clear sb hnu
    obtain ⟨k, hy, hki, rfl, hgt, hnu, sb⟩ := hrel
    by_cases hk0 : k = 0
    ·have hle : 0 < k → ¬ κ i < κ (u (k - 1)) := fun h => by omega
     (repeat ((fail_if_success with_reducible refine rg ?_); go_step))
     refine wp_region_qw (by kernel_rfl) (by kernel_rfl) ?_
     refine qw_move (by rfl) rfl rfl ?_
     simp only [Act.put, pu]
     refine qw_value (by rfl) (.bool false) (exec_gt_i _ _ _ _ rfl (k : Nat) (0 : Nat) rfl rfl false (decide_eq_false (by omega))) ?_
     simp only [Act.put, pu]
     refine qw_move (by rfl) rfl rfl ?_
     simp only [Act.put, pu]
     refine qw_skip (by rfl) ?_
     simp only [Act.put, pu]
     refine qw_skip (by rfl) ?_
     simp only [Act.put, pu]
     refine qw_skip (by rfl) ?_
     simp only [Act.put, pu]
     refine qw_skip (by rfl) ?_
     simp only [Act.put, pu]
     refine qw_skip (by rfl) ?_
     simp only [Act.put, pu]
     refine qw_skip (by rfl) ?_
     simp only [Act.put, pu]
     refine qw_skip (by rfl) ?_
     simp only [Act.put, pu]
     refine qw_skip (by rfl) ?_
     simp only [Act.put, pu]
     refine qw_skip (by rfl) ?_
     simp only [Act.put, pu]
     refine qw_skip (by rfl) ?_
     simp only [Act.put, pu]
     refine qw_skip (by rfl) ?_
     simp only [Act.put, pu]
     refine qw_skip (by rfl) ?_
     simp only [Act.put, pu]
     refine qw_skip (by rfl) ?_
     simp only [Act.put, pu]
     refine qw_skip (by rfl) ?_
     simp only [Act.put, pu]
     refine qw_pick false (v := .bool false) (by rfl) rfl rfl rfl ?_
     simp only [Act.put, pu]
     refine qw_nil ?_
     intro w2 hqb
     replace hnu := hnu.belowAll hqb
     replace sb := below_on sb (Nat.le_refl _) hqb
     clear hqb
     obtain ⟨U, hU⟩ : ∃ U, insA k i u = U := ⟨_, rfl⟩
     have hO2 : Ord κ (i + 1) U := by rw [← hU]; exact hO.ins (by omega) hgt hle
     have hU1 : ∀ j, j < k → u j = U j := fun j hj => by rw [← hU]; exact (if_pos hj).symm
     have hU2 : U k = i := by rw [← hU]; unfold insA; rw [if_neg (by omega), if_pos rfl]
     have hU3 : ∀ j, j < i - k → u (k + j) = U (k + 1 + j) := fun j hj => by rw [← hU]; unfold insA; rw [if_neg (by omega), if_neg (by omega)]; congr 1; omega
     clear hU hgt hle hO
     (repeat ((fail_if_success with_reducible refine rg ?_); go_step))
     refine wp_region_pw ?_
     refine pw_value (by rfl) (.slice none 0 0) ((fun _ => rfl)) ?_
     simp only [Act.put, pu]
     refine pw_nil ?_
     (repeat ((fail_if_success with_reducible refine rg ?_); go_step))
     refine wp_region_pw ?_
     refine pw_mv (by rfl) rfl rfl ?_
     simp only [Act.put, pu]
     refine pw_mv (by rfl) rfl rfl ?_
     simp only [Act.put, pu]
     refine pw_mv (by rfl) rfl rfl ?_
     simp only [Act.put, pu]
     refine pw_value (by rfl) (.slice av k cv) ((y_first 34 _ _ rfl sl_intsX 1 size_eli av i cv k rfl rfl (by omega))) ?_
     simp only [Act.put, pu]
     refine pw_appIA (by rfl) _ _ rfl w.heap.size (.slice none 0 0) 0 U rfl (ownI_nil _ _ _) av k cv rfl (fun h => ⟨by have := (hnil h).1; omega, (hnil h).2⟩) ((hnu.take (show k ≤ i by omega)).congr (fun j hj => by rw [hU1 j hj, Nat.zero_add])) (by omega) sb.size ?_
     intro v1 z9 hM k9 hp
     simp only [Act.put, pu]
     have apt : Apt i gO v1 := apt_on hnu hp (.inr (by intro h; cases h))
     replace hnu := hnu.keep k9 (.inr (by intro h; cases h))
     replace sb := sb.trans (k9.below w.heap.size sb.size (by intro g hg; cases hg))
     clear k9 hp
     rw [Nat.zero_add] at hM
     refine pw_as (by rfl) rfl rfl ?_
     simp only [Act.put, pu]
     refine pw_nil ?_
     (repeat ((fail_if_success with_reducible refine rg ?_); go_step))
     refine wp_region_pw ?_
     refine pw_mv (by rfl) rfl rfl ?_
     simp only [Act.put, pu]
     refine pw_mv (by rfl) rfl rfl ?_
     simp only [Act.put, pu]
     refine pw_litr (by rfl) 34 3 1 _ rfl #[.int .i64 (U k : Nat)] ie _ Try.underlying34 hie hz hs1 hs2 [(0, .int .i64 (U k : Nat))] (by rw [hU2]; rfl) (hl1 _) ?_
     intro gA z10 nA rA kA
     simp only [Act.put, pu]
     replace hnu := hnu.keep kA (.inr (by intro h; cases h))
     have neA := hM.new nA
     replace hM := hM.on kA (own_ne0 _)
     replace sb := sb.trans (kA.below w.heap.size sb.size (by intro g hg; cases hg))
     clear kA nA neA
     refine pw_appI (by rfl) _ _ rfl w.heap.size v1 k U rfl hM gA _ rfl rA (by omega) sb.size ?_
     have hM0 := hM
     clear hM
     intro v2 z11 hM k9 hp
     simp only [Act.put, pu]
     have apt2 : Apt i gO v2 := apt_on hnu hp apt
     replace hnu := hnu.keep k9 (apt_nin apt)
     replace sb := sb.trans (k9.below w.heap.size sb.size hM0.base)
     clear k9 hp apt rA hM0
     refine pw_as (by rfl) rfl rfl ?_
     simp only [Act.put, pu]
     refine pw_nil ?_
     (repeat ((fail_if_success with_reducible refine rg ?_); go_step))
     refine wp_region_pw ?_
     refine pw_mv (by rfl) rfl rfl ?_
     simp only [Act.put, pu]
     refine pw_mv (by rfl) rfl rfl ?_
     simp only [Act.put, pu]
     refine pw_mv (by rfl) rfl rfl ?_
     simp only [Act.put, pu]
     refine pw_value (by rfl) (.slice (rsA av cv k 1) (i - k) (cv - k)) ((y_restx 34 _ _ rfl sl_intsX 1 size_eli av i cv k rfl rfl (by omega) (by omega))) ?_
     simp only [Act.put, pu]
     refine pw_appIA (by rfl) _ _ rfl w.heap.size v2 (k + 1) U rfl hM _ (i - k) (cv - k) rfl (fun h => rest_nil hcap hnil h) ((nums_rest hnu (by omega) hcap).congr (fun j hj => hU3 j hj)) (by omega) sb.size ?_
     have hM0 := hM
     clear hM
     intro v3 z12 hM k9 hp
     simp only [Act.put, pu]
     replace sb := sb.trans (k9.below w.heap.size sb.size hM0.base)
     clear k9 hp apt2 hM0 hnu
     refine pw_as (by rfl) rfl rfl ?_
     simp only [Act.put, pu]
     refine pw_nil ?_
     rw [show k + 1 + (i - k) = i + 1 by omega] at hM
     (repeat ((fail_if_success with_reducible refine rg ?_); go_step))
     refine wp_region_pw ?_
     refine pw_mv (by rfl) rfl rfl ?_
     simp only [Act.put, pu]
     refine pw_as (by rfl) rfl rfl ?_
     simp only [Act.put, pu]
     refine pw_nil ?_
     (repeat ((fail_if_success with_reducible refine rg ?_); go_step))
     refine wp_region_pw ?_
     refine pw_mv (by rfl) rfl rfl ?_
     simp only [Act.put, pu]
     refine pw_value (by rfl) (.int .i64 ((i + 1 : Nat) : Int)) (exec_add_in _ _ _ _ rfl (i) (1) rfl rfl (by omega)) ?_
     simp only [Act.put, pu]
     refine pw_as (by rfl) rfl rfl ?_
     simp only [Act.put, pu]
     refine pw_nil ?_
     go_wp2
     go_roundg g
     case measure => omega
     case rel => exact ⟨i + 1, U, by omega, rfl, hM, hO2, sb⟩
    ·obtain h0 | ⟨rfl, rB, hb⟩ := (HF.out.below sb).at'
     ·omega
     obtain h0 | ⟨hav, rO, ho⟩ := hnu.at'
     ·omega
     have ho1 := ho (k - 1) (by omega)
     have hu0 := hO.lt (k - 1) (by omega)
     have hu1 : u (k - 1) < n := by omega
     have hb1 := hb i hin
     have hb2 := hb (u (k - 1)) hu1
     unfold flv at hb1 hb2
     have hcm2 := hcm (u (k - 1)) i hu1 hin
     clear hb ho
     subst hav
     by_cases hc : κ i < κ (u (k - 1))
     ·have hB : decide (0 < cpz (κ (u (k - 1))) (κ i)) = true := decide_eq_true ((cpz_gt _ _).2 hc)
      have HG : Hid (∀ q, k - 1 ≤ q → q < i → κ i < κ (u q)) := fun q q1 q2 => by
       by_cases e : q = k - 1
       ·rw [e]; exact hc
       ·exact hgt q (by omega) q2
      (repeat ((fail_if_success with_reducible refine rg ?_); go_step))
      refine wp_region_qw (by kernel_rfl) (by kernel_rfl) ?_
      refine qw_move (by rfl) rfl rfl ?_
      simp only [Act.put, pu]
      refine qw_value (by rfl) (.bool true) (exec_gt_i _ _ _ _ rfl (k : Nat) (0 : Nat) rfl rfl true (decide_eq_true (by omega))) ?_
      simp only [Act.put, pu]
      refine qw_move (by rfl) rfl rfl ?_
      simp only [Act.put, pu]
      refine qw_move (by rfl) rfl rfl ?_
      simp only [Act.put, pu]
      refine qw_move (by rfl) rfl rfl ?_
      simp only [Act.put, pu]
      refine qw_move (by rfl) rfl rfl ?_
      simp only [Act.put, pu]
      refine qw_value (by rfl) (.int .i64 ((k - 1 : Nat) : Int)) (exec_sub_in _ _ _ _ rfl (k) (1) rfl rfl (by omega) (by omega)) ?_
      simp only [Act.put, pu]
      refine qw_value (by rfl) (.pointer (some ⟨gO, 0 + (k - 1) * 1, none⟩)) ((exec_index_s 34 _ _ rfl (gO) (0) (i) (cv) rfl ((k - 1)) rfl (by omega) _ Try.underlying34 1 Try.sizeOf3)) ?_
      simp only [Act.put, pu]
      refine qw_loadcR (by rfl) 3 _ rfl _ (0 + (k - 1) * 1) rfl rO (.int .i64 (u (k - 1) : Nat)) ho1 Try.isAgg3 ?_
      simp only [Act.put, pu]
      refine qw_value (by rfl) (.pointer (some ⟨gb, ob + (u (k - 1)) * 1, none⟩)) ((exec_index_s 30 _ _ rfl (gb) (ob) (n) (c) rfl ((u (k - 1))) rfl (hu1) _ Try.underlying30 1 Try.sizeOf23)) ?_
      simp only [Act.put, pu]
      refine qw_loadcR (by rfl) 23 _ rfl _ (ob + (u (k - 1)) * 1) rfl rB (.float .f64 (B (u (k - 1)))) hb2 Try.isAgg23 ?_
      simp only [Act.put, pu]
      refine qw_move (by rfl) rfl rfl ?_
      simp only [Act.put, pu]
      refine qw_move (by rfl) rfl rfl ?_
      simp only [Act.put, pu]
      refine qw_value (by rfl) (.pointer (some ⟨gb, ob + i * 1, none⟩)) ((exec_index_s 30 _ _ rfl (gb) (ob) (n) (c) rfl (i) rfl (hin) _ Try.underlying30 1 Try.sizeOf23)) ?_
      simp only [Act.put, pu]
      refine qw_loadcR (by rfl) 23 _ rfl _ (ob + i * 1) rfl rB (.float .f64 (B i)) hb1 Try.isAgg23 ?_
      simp only [Act.put, pu]
      refine qw_call (by rfl) 11 _ _ rfl Try.func11 (by kernel_rfl) #[.float .f64 (B (u (k - 1))), .float .f64 (B i)] rfl _ hcm2 ?_
      simp only [Act.put, pu]
      refine qw_value (by rfl) (.bool true) (exec_gt_i _ _ _ _ rfl (cpz (κ (u (k - 1))) (κ i)) 0 rfl rfl true hB) ?_
      simp only [Act.put, pu]
      refine qw_pick true (v := .bool true) (by rfl) rfl rfl rfl ?_
      simp only [Act.put, pu]
      refine qw_nil ?_
      intro w2 hqb
      replace hnu := hnu.belowAll hqb
      replace sb := below_on sb (Nat.le_refl _) hqb
      clear hqb
      (repeat ((fail_if_success with_reducible refine rg ?_); go_step))
      refine wp_region_pw ?_
      refine pw_mv (by rfl) rfl rfl ?_
      simp only [Act.put, pu]
      refine pw_value (by rfl) (.int .i64 ((k - 1 : Nat) : Int)) (exec_sub_in _ _ _ _ rfl (k) (1) rfl rfl (by omega) (by omega)) ?_
      simp only [Act.put, pu]
      refine pw_as (by rfl) rfl rfl ?_
      simp only [Act.put, pu]
      refine pw_nil ?_
      go_wp2
      go_roundg (k - 1)
      case measure => omega
      case rel => exact ⟨k - 1, Nat.le_refl _, by omega, rfl, HG.out, hnu, sb⟩
     ·have hB : decide (0 < cpz (κ (u (k - 1))) (κ i)) = false := decide_eq_false (fun h => hc ((cpz_gt _ _).1 h))
      have hle : 0 < k → ¬ κ i < κ (u (k - 1)) := fun _ => hc
      (repeat ((fail_if_success with_reducible refine rg ?_); go_step))
      refine wp_region_qw (by kernel_rfl) (by kernel_rfl) ?_
      refine qw_move (by rfl) rfl rfl ?_
      simp only [Act.put, pu]
      refine qw_value (by rfl) (.bool true) (exec_gt_i _ _ _ _ rfl (k : Nat) (0 : Nat) rfl rfl true (decide_eq_true (by omega))) ?_
      simp only [Act.put, pu]
      refine qw_move (by rfl) rfl rfl ?_
      simp only [Act.put, pu]
      refine qw_move (by rfl) rfl rfl ?_
      simp only [Act.put, pu]
      refine qw_move (by rfl) rfl rfl ?_
      simp only [Act.put, pu]
      refine qw_move (by rfl) rfl rfl ?_
      simp only [Act.put, pu]
      refine qw_value (by rfl) (.int .i64 ((k - 1 : Nat) : Int)) (exec_sub_in _ _ _ _ rfl (k) (1) rfl rfl (by omega) (by omega)) ?_
      simp only [Act.put, pu]
      refine qw_value (by rfl) (.pointer (some ⟨gO, 0 + (k - 1) * 1, none⟩)) ((exec_index_s 34 _ _ rfl (gO) (0) (i) (cv) rfl ((k - 1)) rfl (by omega) _ Try.underlying34 1 Try.sizeOf3)) ?_
      simp only [Act.put, pu]
      refine qw_loadcR (by rfl) 3 _ rfl _ (0 + (k - 1) * 1) rfl rO (.int .i64 (u (k - 1) : Nat)) ho1 Try.isAgg3 ?_
      simp only [Act.put, pu]
      refine qw_value (by rfl) (.pointer (some ⟨gb, ob + (u (k - 1)) * 1, none⟩)) ((exec_index_s 30 _ _ rfl (gb) (ob) (n) (c) rfl ((u (k - 1))) rfl (hu1) _ Try.underlying30 1 Try.sizeOf23)) ?_
      simp only [Act.put, pu]
      refine qw_loadcR (by rfl) 23 _ rfl _ (ob + (u (k - 1)) * 1) rfl rB (.float .f64 (B (u (k - 1)))) hb2 Try.isAgg23 ?_
      simp only [Act.put, pu]
      refine qw_move (by rfl) rfl rfl ?_
      simp only [Act.put, pu]
      refine qw_move (by rfl) rfl rfl ?_
      simp only [Act.put, pu]
      refine qw_value (by rfl) (.pointer (some ⟨gb, ob + i * 1, none⟩)) ((exec_index_s 30 _ _ rfl (gb) (ob) (n) (c) rfl (i) rfl (hin) _ Try.underlying30 1 Try.sizeOf23)) ?_
      simp only [Act.put, pu]
      refine qw_loadcR (by rfl) 23 _ rfl _ (ob + i * 1) rfl rB (.float .f64 (B i)) hb1 Try.isAgg23 ?_
      simp only [Act.put, pu]
      refine qw_call (by rfl) 11 _ _ rfl Try.func11 (by kernel_rfl) #[.float .f64 (B (u (k - 1))), .float .f64 (B i)] rfl _ hcm2 ?_
      simp only [Act.put, pu]
      refine qw_value (by rfl) (.bool false) (exec_gt_i _ _ _ _ rfl (cpz (κ (u (k - 1))) (κ i)) 0 rfl rfl false hB) ?_
      simp only [Act.put, pu]
      refine qw_pick true (v := .bool false) (by rfl) rfl rfl rfl ?_
      simp only [Act.put, pu]
      refine qw_nil ?_
      intro w2 hqb
      replace hnu := hnu.belowAll hqb
      replace sb := below_on sb (Nat.le_refl _) hqb
      clear hqb
      clear rO rB ho1 hb1 hb2 hcm2 hB hc
      generalize (some ⟨gO, 0, none⟩ : Option Addr) = av at *
      obtain ⟨U, hU⟩ : ∃ U, insA k i u = U := ⟨_, rfl⟩
      have hO2 : Ord κ (i + 1) U := by rw [← hU]; exact hO.ins (by omega) hgt hle
      have hU1 : ∀ j, j < k → u j = U j := fun j hj => by rw [← hU]; exact (if_pos hj).symm
      have hU2 : U k = i := by rw [← hU]; unfold insA; rw [if_neg (by omega), if_pos rfl]
      have hU3 : ∀ j, j < i - k → u (k + j) = U (k + 1 + j) := fun j hj => by rw [← hU]; unfold insA; rw [if_neg (by omega), if_neg (by omega)]; congr 1; omega
      clear hU hgt hle hO
      (repeat ((fail_if_success with_reducible refine rg ?_); go_step))
      refine wp_region_pw ?_
      refine pw_value (by rfl) (.slice none 0 0) ((fun _ => rfl)) ?_
      simp only [Act.put, pu]
      refine pw_nil ?_
      (repeat ((fail_if_success with_reducible refine rg ?_); go_step))
      refine wp_region_pw ?_
      refine pw_mv (by rfl) rfl rfl ?_
      simp only [Act.put, pu]
      refine pw_mv (by rfl) rfl rfl ?_
      simp only [Act.put, pu]
      refine pw_mv (by rfl) rfl rfl ?_
      simp only [Act.put, pu]
      refine pw_value (by rfl) (.slice av k cv) ((y_first 34 _ _ rfl sl_intsX 1 size_eli av i cv k rfl rfl (by omega))) ?_
      simp only [Act.put, pu]
      refine pw_appIA (by rfl) _ _ rfl w.heap.size (.slice none 0 0) 0 U rfl (ownI_nil _ _ _) av k cv rfl (fun h => ⟨by have := (hnil h).1; omega, (hnil h).2⟩) ((hnu.take (show k ≤ i by omega)).congr (fun j hj => by rw [hU1 j hj, Nat.zero_add])) (by omega) sb.size ?_
      intro v1 z9 hM k9 hp
      simp only [Act.put, pu]
      have apt : Apt i gO v1 := apt_on hnu hp (.inr (by intro h; cases h))
      replace hnu := hnu.keep k9 (.inr (by intro h; cases h))
      replace sb := sb.trans (k9.below w.heap.size sb.size (by intro g hg; cases hg))
      clear k9 hp
      rw [Nat.zero_add] at hM
      refine pw_as (by rfl) rfl rfl ?_
      simp only [Act.put, pu]
      refine pw_nil ?_
      (repeat ((fail_if_success with_reducible refine rg ?_); go_step))
      refine wp_region_pw ?_
      refine pw_mv (by rfl) rfl rfl ?_
      simp only [Act.put, pu]
      refine pw_mv (by rfl) rfl rfl ?_
      simp only [Act.put, pu]
      refine pw_litr (by rfl) 34 3 1 _ rfl #[.int .i64 (U k : Nat)] ie _ Try.underlying34 hie hz hs1 hs2 [(0, .int .i64 (U k : Nat))] (by rw [hU2]; rfl) (hl1 _) ?_
      intro gA z10 nA rA kA
      simp only [Act.put, pu]
      replace hnu := hnu.keep kA (.inr (by intro h; cases h))
      have neA := hM.new nA
      replace hM := hM.on kA (own_ne0 _)
      replace sb := sb.trans (kA.below w.heap.size sb.size (by intro g hg; cases hg))
      clear kA nA neA
      refine pw_appI (by rfl) _ _ rfl w.heap.size v1 k U rfl hM gA _ rfl rA (by omega) sb.size ?_
      have hM0 := hM
      clear hM
      intro v2 z11 hM k9 hp
      simp only [Act.put, pu]
      have apt2 : Apt i gO v2 := apt_on hnu hp apt
      replace hnu := hnu.keep k9 (apt_nin apt)
      replace sb := sb.trans (k9.below w.heap.size sb.size hM0.base)
      clear k9 hp apt rA hM0
      refine pw_as (by rfl) rfl rfl ?_
      simp only [Act.put, pu]
      refine pw_nil ?_
      (repeat ((fail_if_success with_reducible refine rg ?_); go_step))
      refine wp_region_pw ?_
      refine pw_mv (by rfl) rfl rfl ?_
      simp only [Act.put, pu]
      refine pw_mv (by rfl) rfl rfl ?_
      simp only [Act.put, pu]
      refine pw_mv (by rfl) rfl rfl ?_
      simp only [Act.put, pu]
      refine pw_value (by rfl) (.slice (rsA av cv k 1) (i - k) (cv - k)) ((y_restx 34 _ _ rfl sl_intsX 1 size_eli av i cv k rfl rfl (by omega) (by omega))) ?_
      simp only [Act.put, pu]
      refine pw_appIA (by rfl) _ _ rfl w.heap.size v2 (k + 1) U rfl hM _ (i - k) (cv - k) rfl (fun h => rest_nil hcap hnil h) ((nums_rest hnu (by omega) hcap).congr (fun j hj => hU3 j hj)) (by omega) sb.size ?_
      have hM0 := hM
      clear hM
      intro v3 z12 hM k9 hp
      simp only [Act.put, pu]
      replace sb := sb.trans (k9.below w.heap.size sb.size hM0.base)
      clear k9 hp apt2 hM0 hnu
      refine pw_as (by rfl) rfl rfl ?_
      simp only [Act.put, pu]
      refine pw_nil ?_
      rw [show k + 1 + (i - k) = i + 1 by omega] at hM
      (repeat ((fail_if_success with_reducible refine rg ?_); go_step))
      refine wp_region_pw ?_
      refine pw_mv (by rfl) rfl rfl ?_
      simp only [Act.put, pu]
      refine pw_as (by rfl) rfl rfl ?_
      simp only [Act.put, pu]
      refine pw_nil ?_
      (repeat ((fail_if_success with_reducible refine rg ?_); go_step))
      refine wp_region_pw ?_
      refine pw_mv (by rfl) rfl rfl ?_
      simp only [Act.put, pu]
      refine pw_value (by rfl) (.int .i64 ((i + 1 : Nat) : Int)) (exec_add_in _ _ _ _ rfl (i) (1) rfl rfl (by omega)) ?_
      simp only [Act.put, pu]
      refine pw_as (by rfl) rfl rfl ?_
      simp only [Act.put, pu]
      refine pw_nil ?_
      go_wp2
      go_roundg g
      case measure => omega
      case rel => exact ⟨i + 1, U, by omega, rfl, hM, hO2, sb⟩
end Go.Proofs.Ytonppckllfamiaa
