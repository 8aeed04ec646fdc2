/- PrimeFermat: for all links and any natural: below what a chain of up to four shows to be a prime (below 2^62), each number that is not 0 has an inverse, which is a power of it; no condition. -/
import Derived.Test.YtcdfefljagddmabPOpen
namespace Go.Proofs.Ytcdfefljagddmab
open Go.ChangeShapes Go.WideShapes Go.ChangeAt Go.RowKit
namespace primeFermatP
set_option maxRecDepth 100000 in
set_option maxHeartbeats 2000000 in
theorem core_none (n c a : Nat) (ab : Option Addr) (w : World) (h : n < 1) :
    Calls Try.prog 6 #[.slice ab n c, .agg (natC a)] w fun e w' => e = .returned (.bool true) ∧ Below w.heap.size w w' := by
  have haw := awake4_any
  go_enter Try.func6, Try.ntmps6
  (repeat ((fail_if_success (with_reducible show Code.wp _ (Code.region _ _ _) _ _ _)); go_step))
  apply wp_region_mixp [] [_, _] trivial List.nodup_nil
  · intro p
    refine mx_box 25 _ rfl _ rfl ?_
    simp only [Act.put, List.setIfInBounds_toArray, List.set_cons_zero, List.set_cons_succ]
    refine mx_val (.bool false) (fun _ => rfl) ?_
    simp only [Act.put, List.setIfInBounds_toArray, List.set_cons_zero, List.set_cons_succ]
    refine mx_end ?_
    intro w2 hkw hrw hnew hdis
    have n3 := hnew 0 rfl
    have zr3 : Row w2 (p 0) (natC a) 25 := hrw 1 (25, natC a) rfl
    have sb := hkw.below w.heap.size (Nat.le_refl _) (by simp)
    have b3 : w.heap.size ≤ p 0 := n3
    clear hkw hrw hnew hdis n3
    generalize p 0 = g3 at *
    have r3 := zr3
    clear zr3
    (repeat ((fail_if_success (with_reducible show Code.wp _ (Code.region _ _ _) _ _ _)); go_step))
    refine wp_region_qp ?_
    refine qw_move (by rfl) rfl rfl ?_
    simp only [Act.put, List.setIfInBounds_toArray, List.set_cons_zero, List.set_cons_succ]
    refine qw_value (by rfl) (.int .i64 n) (exec_len_s 32 _ rfl ab n c rfl sl_link) ?_
    simp only [Act.put, List.setIfInBounds_toArray, List.set_cons_zero, List.set_cons_succ]
    refine qw_value (by rfl) (.bool true) (exec_lt_b _ _ _ _ rfl n 1 rfl rfl true (decide_eq_true (by omega))) ?_
    simp only [Act.put, List.setIfInBounds_toArray, List.set_cons_zero, List.set_cons_succ]
    refine qw_move (by rfl) rfl rfl ?_
    simp only [Act.put, List.setIfInBounds_toArray, List.set_cons_zero, List.set_cons_succ]
    refine qw_skip (by rfl) ?_
    simp only [Act.put, List.setIfInBounds_toArray, List.set_cons_zero, List.set_cons_succ]
    refine qw_skip (by rfl) ?_
    simp only [Act.put, List.setIfInBounds_toArray, List.set_cons_zero, List.set_cons_succ]
    refine qw_skip (by rfl) ?_
    simp only [Act.put, List.setIfInBounds_toArray, List.set_cons_zero, List.set_cons_succ]
    refine qw_pick true (v := .bool true) (by rfl) rfl rfl rfl ?_
    simp only [Act.put, List.setIfInBounds_toArray, List.set_cons_zero, List.set_cons_succ]
    refine qw_move (by rfl) rfl rfl ?_
    simp only [Act.put, List.setIfInBounds_toArray, List.set_cons_zero, List.set_cons_succ]
    refine qw_skip (by rfl) ?_
    simp only [Act.put, List.setIfInBounds_toArray, List.set_cons_zero, List.set_cons_succ]
    refine qw_skip (by rfl) ?_
    simp only [Act.put, List.setIfInBounds_toArray, List.set_cons_zero, List.set_cons_succ]
    refine qw_skip (by rfl) ?_
    simp only [Act.put, List.setIfInBounds_toArray, List.set_cons_zero, List.set_cons_succ]
    refine qw_skip (by rfl) ?_
    simp only [Act.put, List.setIfInBounds_toArray, List.set_cons_zero, List.set_cons_succ]
    refine qw_skip (by rfl) ?_
    simp only [Act.put, List.setIfInBounds_toArray, List.set_cons_zero, List.set_cons_succ]
    refine qw_skip (by rfl) ?_
    simp only [Act.put, List.setIfInBounds_toArray, List.set_cons_zero, List.set_cons_succ]
    refine qw_skip (by rfl) ?_
    simp only [Act.put, List.setIfInBounds_toArray, List.set_cons_zero, List.set_cons_succ]
    refine qw_skip (by rfl) ?_
    simp only [Act.put, List.setIfInBounds_toArray, List.set_cons_zero, List.set_cons_succ]
    refine qw_skip (by rfl) ?_
    simp only [Act.put, List.setIfInBounds_toArray, List.set_cons_zero, List.set_cons_succ]
    refine qw_pick true (v := .bool true) (by rfl) rfl rfl rfl ?_
    simp only [Act.put, List.setIfInBounds_toArray, List.set_cons_zero, List.set_cons_succ]
    refine qw_move (by rfl) rfl rfl ?_
    simp only [Act.put, List.setIfInBounds_toArray, List.set_cons_zero, List.set_cons_succ]
    refine qw_skip (by rfl) ?_
    simp only [Act.put, List.setIfInBounds_toArray, List.set_cons_zero, List.set_cons_succ]
    refine qw_skip (by rfl) ?_
    simp only [Act.put, List.setIfInBounds_toArray, List.set_cons_zero, List.set_cons_succ]
    refine qw_skip (by rfl) ?_
    simp only [Act.put, List.setIfInBounds_toArray, List.set_cons_zero, List.set_cons_succ]
    refine qw_pick true (v := .bool true) (by rfl) rfl rfl rfl ?_
    simp only [Act.put, List.setIfInBounds_toArray, List.set_cons_zero, List.set_cons_succ]
    refine qw_nil ?_
    intro w3 hqb
    replace sb := below_on sb (Nat.le_refl _) hqb
    clear hqb
    (repeat ((fail_if_success (with_reducible show Code.wp _ (Code.region _ _ _) _ _ _)); go_step))
    apply wp_region_mixp [] [_, _] trivial List.nodup_nil
    · intro p
      refine mx_call 10 _ _ rfl Try.func10 (by kernel_rfl) #[] rfl _ haw ?_
      simp only [Act.put, List.setIfInBounds_toArray, List.set_cons_zero, List.set_cons_succ]
      refine mx_asg rfl rfl ?_
      simp only [Act.put, List.setIfInBounds_toArray, List.set_cons_zero, List.set_cons_succ]
      refine mx_end ?_
      intro w4 hkw hrw hnew hdis
      replace sb := sb.trans (hkw.below w.heap.size sb.size (by simp <;> omega))
      clear hkw hrw hnew hdis
      go_wp2
      go_ret
      exact ⟨rfl, sb⟩
    · rfl
  · rfl
set_option maxRecDepth 100000 in
set_option maxHeartbeats 2000000 in
theorem core_long (n c a : Nat) (ab : Option Addr) (w : World) (h : 4 < n) :
    Calls Try.prog 6 #[.slice ab n c, .agg (natC a)] w fun e w' => e = .returned (.bool true) ∧ Below w.heap.size w w' := by
  have haw := awake4_any
  go_enter Try.func6, Try.ntmps6
  (repeat ((fail_if_success (with_reducible show Code.wp _ (Code.region _ _ _) _ _ _)); go_step))
  apply wp_region_mixp [] [_, _] trivial List.nodup_nil
  · intro p
    refine mx_box 25 _ rfl _ rfl ?_
    simp only [Act.put, List.setIfInBounds_toArray, List.set_cons_zero, List.set_cons_succ]
    refine mx_val (.bool false) (fun _ => rfl) ?_
    simp only [Act.put, List.setIfInBounds_toArray, List.set_cons_zero, List.set_cons_succ]
    refine mx_end ?_
    intro w2 hkw hrw hnew hdis
    have n3 := hnew 0 rfl
    have zr3 : Row w2 (p 0) (natC a) 25 := hrw 1 (25, natC a) rfl
    have sb := hkw.below w.heap.size (Nat.le_refl _) (by simp)
    have b3 : w.heap.size ≤ p 0 := n3
    clear hkw hrw hnew hdis n3
    generalize p 0 = g3 at *
    have r3 := zr3
    clear zr3
    (repeat ((fail_if_success (with_reducible show Code.wp _ (Code.region _ _ _) _ _ _)); go_step))
    refine wp_region_qp ?_
    refine qw_move (by rfl) rfl rfl ?_
    simp only [Act.put, List.setIfInBounds_toArray, List.set_cons_zero, List.set_cons_succ]
    refine qw_value (by rfl) (.int .i64 n) (exec_len_s 32 _ rfl ab n c rfl sl_link) ?_
    simp only [Act.put, List.setIfInBounds_toArray, List.set_cons_zero, List.set_cons_succ]
    refine qw_value (by rfl) (.bool false) (exec_lt_b _ _ _ _ rfl n 1 rfl rfl false (decide_eq_false (by omega))) ?_
    simp only [Act.put, List.setIfInBounds_toArray, List.set_cons_zero, List.set_cons_succ]
    refine qw_move (by rfl) rfl rfl ?_
    simp only [Act.put, List.setIfInBounds_toArray, List.set_cons_zero, List.set_cons_succ]
    refine qw_move (by rfl) rfl rfl ?_
    simp only [Act.put, List.setIfInBounds_toArray, List.set_cons_zero, List.set_cons_succ]
    refine qw_value (by rfl) (.int .i64 n) (exec_len_s 32 _ rfl ab n c rfl sl_link) ?_
    simp only [Act.put, List.setIfInBounds_toArray, List.set_cons_zero, List.set_cons_succ]
    refine qw_value (by rfl) (.bool true) (exec_gt_i _ _ _ _ rfl n 4 rfl rfl true (decide_eq_true (by omega))) ?_
    simp only [Act.put, List.setIfInBounds_toArray, List.set_cons_zero, List.set_cons_succ]
    refine qw_pick false (v := .bool true) (by rfl) rfl rfl rfl ?_
    simp only [Act.put, List.setIfInBounds_toArray, List.set_cons_zero, List.set_cons_succ]
    refine qw_move (by rfl) rfl rfl ?_
    simp only [Act.put, List.setIfInBounds_toArray, List.set_cons_zero, List.set_cons_succ]
    refine qw_skip (by rfl) ?_
    simp only [Act.put, List.setIfInBounds_toArray, List.set_cons_zero, List.set_cons_succ]
    refine qw_skip (by rfl) ?_
    simp only [Act.put, List.setIfInBounds_toArray, List.set_cons_zero, List.set_cons_succ]
    refine qw_skip (by rfl) ?_
    simp only [Act.put, List.setIfInBounds_toArray, List.set_cons_zero, List.set_cons_succ]
    refine qw_skip (by rfl) ?_
    simp only [Act.put, List.setIfInBounds_toArray, List.set_cons_zero, List.set_cons_succ]
    refine qw_skip (by rfl) ?_
    simp only [Act.put, List.setIfInBounds_toArray, List.set_cons_zero, List.set_cons_succ]
    refine qw_skip (by rfl) ?_
    simp only [Act.put, List.setIfInBounds_toArray, List.set_cons_zero, List.set_cons_succ]
    refine qw_skip (by rfl) ?_
    simp only [Act.put, List.setIfInBounds_toArray, List.set_cons_zero, List.set_cons_succ]
    refine qw_skip (by rfl) ?_
    simp only [Act.put, List.setIfInBounds_toArray, List.set_cons_zero, List.set_cons_succ]
    refine qw_skip (by rfl) ?_
    simp only [Act.put, List.setIfInBounds_toArray, List.set_cons_zero, List.set_cons_succ]
    refine qw_pick true (v := .bool true) (by rfl) rfl rfl rfl ?_
    simp only [Act.put, List.setIfInBounds_toArray, List.set_cons_zero, List.set_cons_succ]
    refine qw_move (by rfl) rfl rfl ?_
    simp only [Act.put, List.setIfInBounds_toArray, List.set_cons_zero, List.set_cons_succ]
    refine qw_skip (by rfl) ?_
    simp only [Act.put, List.setIfInBounds_toArray, List.set_cons_zero, List.set_cons_succ]
    refine qw_skip (by rfl) ?_
    simp only [Act.put, List.setIfInBounds_toArray, List.set_cons_zero, List.set_cons_succ]
    refine qw_skip (by rfl) ?_
    simp only [Act.put, List.setIfInBounds_toArray, List.set_cons_zero, List.set_cons_succ]
    refine qw_pick true (v := .bool true) (by rfl) rfl rfl rfl ?_
    simp only [Act.put, List.setIfInBounds_toArray, List.set_cons_zero, List.set_cons_succ]
    refine qw_nil ?_
    intro w3 hqb
    replace sb := below_on sb (Nat.le_refl _) hqb
    clear hqb
    (repeat ((fail_if_success (with_reducible show Code.wp _ (Code.region _ _ _) _ _ _)); go_step))
    apply wp_region_mixp [] [_, _] trivial List.nodup_nil
    · intro p
      refine mx_call 10 _ _ rfl Try.func10 (by kernel_rfl) #[] rfl _ haw ?_
      simp only [Act.put, List.setIfInBounds_toArray, List.set_cons_zero, List.set_cons_succ]
      refine mx_asg rfl rfl ?_
      simp only [Act.put, List.setIfInBounds_toArray, List.set_cons_zero, List.set_cons_succ]
      refine mx_end ?_
      intro w4 hkw hrw hnew hdis
      replace sb := sb.trans (hkw.below w.heap.size sb.size (by simp <;> omega))
      clear hkw hrw hnew hdis
      go_wp2
      go_ret
      exact ⟨rfl, sb⟩
    · rfl
  · rfl
set_option maxRecDepth 100000 in
set_option maxHeartbeats 2000000 in
theorem core_big (n c a : Nat) (ab : Option Addr) (N : Nat → Nat) (A : Nat → Int) (gb ob BL : Nat) (bcs : Array Value) (tb : TypeId) (w : World) (h1 : 1 ≤ n) (h4 : n ≤ 4) (hL : LinksAt w ab n N A gb ob bcs tb)
    (hle : ∀ w', Calls Try.prog 11 #[.agg (natC (N (n - 1)))] w' fun e w2 => e = .returned (.int .i64 BL) ∧ Below w'.heap.size w' w2) (hbl : 62 < BL) :
    Calls Try.prog 6 #[.slice ab n c, .agg (natC a)] w fun e w' => e = .returned (.bool true) ∧ Below w.heap.size w w' := by
  have HL : Hid (LinksAt w ab n N A gb ob bcs tb) := hL
  clear hL
  have haw := awake4_any
  go_enter Try.func6, Try.ntmps6
  (repeat ((fail_if_success (with_reducible show Code.wp _ (Code.region _ _ _) _ _ _)); go_step))
  apply wp_region_mixp [] [_, _] trivial List.nodup_nil
  · intro p
    refine mx_box 25 _ rfl _ rfl ?_
    simp only [Act.put, List.setIfInBounds_toArray, List.set_cons_zero, List.set_cons_succ]
    refine mx_val (.bool false) (fun _ => rfl) ?_
    simp only [Act.put, List.setIfInBounds_toArray, List.set_cons_zero, List.set_cons_succ]
    refine mx_end ?_
    intro w2 hkw hrw hnew hdis
    have n3 := hnew 0 rfl
    have zr3 : Row w2 (p 0) (natC a) 25 := hrw 1 (25, natC a) rfl
    have sb := hkw.below w.heap.size (Nat.le_refl _) (by simp)
    have b3 : w.heap.size ≤ p 0 := n3
    clear hkw hrw hnew hdis n3
    generalize p 0 = g3 at *
    have r3 := zr3
    clear zr3
    obtain h0 | ⟨rfl, rB, hat⟩ := (HL.out.below sb).at'
    · omega
    (repeat ((fail_if_success (with_reducible show Code.wp _ (Code.region _ _ _) _ _ _)); go_step))
    refine wp_region_qp ?_
    refine qw_move (by rfl) rfl rfl ?_
    simp only [Act.put, List.setIfInBounds_toArray, List.set_cons_zero, List.set_cons_succ]
    refine qw_value (by rfl) (.int .i64 n) (exec_len_s 32 _ rfl (some ⟨gb, ob, none⟩) n c rfl sl_link) ?_
    simp only [Act.put, List.setIfInBounds_toArray, List.set_cons_zero, List.set_cons_succ]
    refine qw_value (by rfl) (.bool false) (exec_lt_b _ _ _ _ rfl n 1 rfl rfl false (decide_eq_false (by omega))) ?_
    simp only [Act.put, List.setIfInBounds_toArray, List.set_cons_zero, List.set_cons_succ]
    refine qw_move (by rfl) rfl rfl ?_
    simp only [Act.put, List.setIfInBounds_toArray, List.set_cons_zero, List.set_cons_succ]
    refine qw_move (by rfl) rfl rfl ?_
    simp only [Act.put, List.setIfInBounds_toArray, List.set_cons_zero, List.set_cons_succ]
    refine qw_value (by rfl) (.int .i64 n) (exec_len_s 32 _ rfl (some ⟨gb, ob, none⟩) n c rfl sl_link) ?_
    simp only [Act.put, List.setIfInBounds_toArray, List.set_cons_zero, List.set_cons_succ]
    refine qw_value (by rfl) (.bool false) (exec_gt_i _ _ _ _ rfl n 4 rfl rfl false (decide_eq_false (by omega))) ?_
    simp only [Act.put, List.setIfInBounds_toArray, List.set_cons_zero, List.set_cons_succ]
    refine qw_pick false (v := .bool false) (by rfl) rfl rfl rfl ?_
    simp only [Act.put, List.setIfInBounds_toArray, List.set_cons_zero, List.set_cons_succ]
    refine qw_move (by rfl) rfl rfl ?_
    simp only [Act.put, List.setIfInBounds_toArray, List.set_cons_zero, List.set_cons_succ]
    refine qw_move (by rfl) rfl rfl ?_
    simp only [Act.put, List.setIfInBounds_toArray, List.set_cons_zero, List.set_cons_succ]
    refine qw_move (by rfl) rfl rfl ?_
    simp only [Act.put, List.setIfInBounds_toArray, List.set_cons_zero, List.set_cons_succ]
    refine qw_value (by rfl) (.int .i64 n) (exec_len_s 32 _ rfl (some ⟨gb, ob, none⟩) n c rfl sl_link) ?_
    simp only [Act.put, List.setIfInBounds_toArray, List.set_cons_zero, List.set_cons_succ]
    refine qw_value (by rfl) (.int .i64 (n - 1 : Nat)) (exec_sub_in _ _ _ _ rfl n 1 rfl rfl (by omega) (by omega)) ?_
    simp only [Act.put, List.setIfInBounds_toArray, List.set_cons_zero, List.set_cons_succ]
    refine qw_value (by rfl) (.pointer (some ⟨gb, ob + (n - 1) * 5, none⟩)) (exec_index_s 32 _ _ rfl gb ob n c rfl (n - 1) rfl (by omega) _ Try.underlying32 5 Try.sizeOf35) ?_
    simp only [Act.put, List.setIfInBounds_toArray, List.set_cons_zero, List.set_cons_succ]
    refine qw_value (by rfl) (.pointer (some ⟨gb, ob + (n - 1) * 5, none⟩)) (exec_field 35 _ 0 rfl gb (ob + (n - 1) * 5) rfl _ Try.underlying35 _ rfl 3 Try.sizeOf25) ?_
    simp only [Act.put, List.setIfInBounds_toArray, List.set_cons_zero, List.set_cons_succ]
    refine qw_loadmR (by rfl) 25 _ rfl _ ((ob + (n - 1) * 5)) rfl rB (natC (N (n - 1))) (lk_part (hat (n - 1) (by omega))) _ Try.underlying25 rfl size_nat ?_
    simp only [Act.put, List.setIfInBounds_toArray, List.set_cons_zero, List.set_cons_succ]
    refine qw_call (by rfl) 11 _ _ rfl Try.func11 (by kernel_rfl) #[.agg (natC (N (n - 1)))] rfl _ hle ?_
    simp only [Act.put, List.setIfInBounds_toArray, List.set_cons_zero, List.set_cons_succ]
    refine qw_value (by rfl) (.bool true) (exec_gt_i _ _ _ _ rfl BL 62 rfl rfl true (decide_eq_true (by omega))) ?_
    simp only [Act.put, List.setIfInBounds_toArray, List.set_cons_zero, List.set_cons_succ]
    refine qw_pick false (v := .bool true) (by rfl) rfl rfl rfl ?_
    simp only [Act.put, List.setIfInBounds_toArray, List.set_cons_zero, List.set_cons_succ]
    refine qw_move (by rfl) rfl rfl ?_
    simp only [Act.put, List.setIfInBounds_toArray, List.set_cons_zero, List.set_cons_succ]
    refine qw_skip (by rfl) ?_
    simp only [Act.put, List.setIfInBounds_toArray, List.set_cons_zero, List.set_cons_succ]
    refine qw_skip (by rfl) ?_
    simp only [Act.put, List.setIfInBounds_toArray, List.set_cons_zero, List.set_cons_succ]
    refine qw_skip (by rfl) ?_
    simp only [Act.put, List.setIfInBounds_toArray, List.set_cons_zero, List.set_cons_succ]
    refine qw_pick true (v := .bool true) (by rfl) rfl rfl rfl ?_
    simp only [Act.put, List.setIfInBounds_toArray, List.set_cons_zero, List.set_cons_succ]
    refine qw_nil ?_
    intro w3 hqb
    replace sb := below_on sb (Nat.le_refl _) hqb
    clear hqb
    (repeat ((fail_if_success (with_reducible show Code.wp _ (Code.region _ _ _) _ _ _)); go_step))
    apply wp_region_mixp [] [_, _] trivial List.nodup_nil
    · intro p
      refine mx_call 10 _ _ rfl Try.func10 (by kernel_rfl) #[] rfl _ haw ?_
      simp only [Act.put, List.setIfInBounds_toArray, List.set_cons_zero, List.set_cons_succ]
      refine mx_asg rfl rfl ?_
      simp only [Act.put, List.setIfInBounds_toArray, List.set_cons_zero, List.set_cons_succ]
      refine mx_end ?_
      intro w4 hkw hrw hnew hdis
      replace sb := sb.trans (hkw.below w.heap.size sb.size (by simp <;> omega))
      clear hkw hrw hnew hdis
      go_wp2
      go_ret
      exact ⟨rfl, sb⟩
    · rfl
  · rfl
set_option maxRecDepth 100000 in
set_option maxHeartbeats 2000000 in
theorem core_bad (n c a : Nat) (ab : Option Addr) (N : Nat → Nat) (A : Nat → Int) (gb ob BL : Nat) (bcs : Array Value) (tb : TypeId) (w : World) (h1 : 1 ≤ n) (h4 : n ≤ 4) (hL : LinksAt w ab n N A gb ob bcs tb)
    (hle : ∀ w', Calls Try.prog 11 #[.agg (natC (N (n - 1)))] w' fun e w2 => e = .returned (.int .i64 BL) ∧ Below w'.heap.size w' w2) (hbl : BL ≤ 62)
    (hch : ∀ w', Below w.heap.size w w' → Calls Try.prog 12 #[.slice ab n c] w' fun e w2 => e = .returned (.int .i64 4) ∧ Below w'.heap.size w' w2) :
    Calls Try.prog 6 #[.slice ab n c, .agg (natC a)] w fun e w' => e = .returned (.bool true) ∧ Below w.heap.size w w' := by
  have HL : Hid (LinksAt w ab n N A gb ob bcs tb) := hL
  clear hL
  have haw := awake4_any
  go_enter Try.func6, Try.ntmps6
  (repeat ((fail_if_success (with_reducible show Code.wp _ (Code.region _ _ _) _ _ _)); go_step))
  apply wp_region_mixp [] [_, _] trivial List.nodup_nil
  · intro p
    refine mx_box 25 _ rfl _ rfl ?_
    simp only [Act.put, List.setIfInBounds_toArray, List.set_cons_zero, List.set_cons_succ]
    refine mx_val (.bool false) (fun _ => rfl) ?_
    simp only [Act.put, List.setIfInBounds_toArray, List.set_cons_zero, List.set_cons_succ]
    refine mx_end ?_
    intro w2 hkw hrw hnew hdis
    have n3 := hnew 0 rfl
    have zr3 : Row w2 (p 0) (natC a) 25 := hrw 1 (25, natC a) rfl
    have sb := hkw.below w.heap.size (Nat.le_refl _) (by simp)
    have b3 : w.heap.size ≤ p 0 := n3
    clear hkw hrw hnew hdis n3
    generalize p 0 = g3 at *
    have r3 := zr3
    clear zr3
    obtain h0 | ⟨rfl, rB, hat⟩ := (HL.out.below sb).at'
    · omega
    (repeat ((fail_if_success (with_reducible show Code.wp _ (Code.region _ _ _) _ _ _)); go_step))
    refine wp_region_qp ?_
    refine qw_move (by rfl) rfl rfl ?_
    simp only [Act.put, List.setIfInBounds_toArray, List.set_cons_zero, List.set_cons_succ]
    refine qw_value (by rfl) (.int .i64 n) (exec_len_s 32 _ rfl (some ⟨gb, ob, none⟩) n c rfl sl_link) ?_
    simp only [Act.put, List.setIfInBounds_toArray, List.set_cons_zero, List.set_cons_succ]
    refine qw_value (by rfl) (.bool false) (exec_lt_b _ _ _ _ rfl n 1 rfl rfl false (decide_eq_false (by omega))) ?_
    simp only [Act.put, List.setIfInBounds_toArray, List.set_cons_zero, List.set_cons_succ]
    refine qw_move (by rfl) rfl rfl ?_
    simp only [Act.put, List.setIfInBounds_toArray, List.set_cons_zero, List.set_cons_succ]
    refine qw_move (by rfl) rfl rfl ?_
    simp only [Act.put, List.setIfInBounds_toArray, List.set_cons_zero, List.set_cons_succ]
    refine qw_value (by rfl) (.int .i64 n) (exec_len_s 32 _ rfl (some ⟨gb, ob, none⟩) n c rfl sl_link) ?_
    simp only [Act.put, List.setIfInBounds_toArray, List.set_cons_zero, List.set_cons_succ]
    refine qw_value (by rfl) (.bool false) (exec_gt_i _ _ _ _ rfl n 4 rfl rfl false (decide_eq_false (by omega))) ?_
    simp only [Act.put, List.setIfInBounds_toArray, List.set_cons_zero, List.set_cons_succ]
    refine qw_pick false (v := .bool false) (by rfl) rfl rfl rfl ?_
    simp only [Act.put, List.setIfInBounds_toArray, List.set_cons_zero, List.set_cons_succ]
    refine qw_move (by rfl) rfl rfl ?_
    simp only [Act.put, List.setIfInBounds_toArray, List.set_cons_zero, List.set_cons_succ]
    refine qw_move (by rfl) rfl rfl ?_
    simp only [Act.put, List.setIfInBounds_toArray, List.set_cons_zero, List.set_cons_succ]
    refine qw_move (by rfl) rfl rfl ?_
    simp only [Act.put, List.setIfInBounds_toArray, List.set_cons_zero, List.set_cons_succ]
    refine qw_value (by rfl) (.int .i64 n) (exec_len_s 32 _ rfl (some ⟨gb, ob, none⟩) n c rfl sl_link) ?_
    simp only [Act.put, List.setIfInBounds_toArray, List.set_cons_zero, List.set_cons_succ]
    refine qw_value (by rfl) (.int .i64 (n - 1 : Nat)) (exec_sub_in _ _ _ _ rfl n 1 rfl rfl (by omega) (by omega)) ?_
    simp only [Act.put, List.setIfInBounds_toArray, List.set_cons_zero, List.set_cons_succ]
    refine qw_value (by rfl) (.pointer (some ⟨gb, ob + (n - 1) * 5, none⟩)) (exec_index_s 32 _ _ rfl gb ob n c rfl (n - 1) rfl (by omega) _ Try.underlying32 5 Try.sizeOf35) ?_
    simp only [Act.put, List.setIfInBounds_toArray, List.set_cons_zero, List.set_cons_succ]
    refine qw_value (by rfl) (.pointer (some ⟨gb, ob + (n - 1) * 5, none⟩)) (exec_field 35 _ 0 rfl gb (ob + (n - 1) * 5) rfl _ Try.underlying35 _ rfl 3 Try.sizeOf25) ?_
    simp only [Act.put, List.setIfInBounds_toArray, List.set_cons_zero, List.set_cons_succ]
    refine qw_loadmR (by rfl) 25 _ rfl _ ((ob + (n - 1) * 5)) rfl rB (natC (N (n - 1))) (lk_part (hat (n - 1) (by omega))) _ Try.underlying25 rfl size_nat ?_
    simp only [Act.put, List.setIfInBounds_toArray, List.set_cons_zero, List.set_cons_succ]
    refine qw_call (by rfl) 11 _ _ rfl Try.func11 (by kernel_rfl) #[.agg (natC (N (n - 1)))] rfl _ hle ?_
    simp only [Act.put, List.setIfInBounds_toArray, List.set_cons_zero, List.set_cons_succ]
    refine qw_value (by rfl) (.bool false) (exec_gt_i _ _ _ _ rfl BL 62 rfl rfl false (decide_eq_false (by omega))) ?_
    simp only [Act.put, List.setIfInBounds_toArray, List.set_cons_zero, List.set_cons_succ]
    refine qw_pick false (v := .bool false) (by rfl) rfl rfl rfl ?_
    simp only [Act.put, List.setIfInBounds_toArray, List.set_cons_zero, List.set_cons_succ]
    refine qw_move (by rfl) rfl rfl ?_
    simp only [Act.put, List.setIfInBounds_toArray, List.set_cons_zero, List.set_cons_succ]
    refine qw_move (by rfl) rfl rfl ?_
    simp only [Act.put, List.setIfInBounds_toArray, List.set_cons_zero, List.set_cons_succ]
    refine qw_callK (by rfl) 12 _ _ rfl Try.func12 (by kernel_rfl) #[.slice (some ⟨gb, ob, none⟩) n c] rfl _ (fun w' hb => hch w' (below_on sb (Nat.le_refl _) hb)) ?_
    simp only [Act.put, List.setIfInBounds_toArray, List.set_cons_zero, List.set_cons_succ]
    refine qw_value (by rfl) (.bool true) (exec_neq_k .i64 _ _ _ _ rfl 4 0 rfl rfl true rfl) ?_
    simp only [Act.put, List.setIfInBounds_toArray, List.set_cons_zero, List.set_cons_succ]
    refine qw_pick false (v := .bool true) (by rfl) rfl rfl rfl ?_
    simp only [Act.put, List.setIfInBounds_toArray, List.set_cons_zero, List.set_cons_succ]
    refine qw_nil ?_
    intro w3 hqb
    replace sb := below_on sb (Nat.le_refl _) hqb
    clear hqb
    (repeat ((fail_if_success (with_reducible show Code.wp _ (Code.region _ _ _) _ _ _)); go_step))
    apply wp_region_mixp [] [_, _] trivial List.nodup_nil
    · intro p
      refine mx_call 10 _ _ rfl Try.func10 (by kernel_rfl) #[] rfl _ haw ?_
      simp only [Act.put, List.setIfInBounds_toArray, List.set_cons_zero, List.set_cons_succ]
      refine mx_asg rfl rfl ?_
      simp only [Act.put, List.setIfInBounds_toArray, List.set_cons_zero, List.set_cons_succ]
      refine mx_end ?_
      intro w4 hkw hrw hnew hdis
      replace sb := sb.trans (hkw.below w.heap.size sb.size (by simp <;> omega))
      clear hkw hrw hnew hdis
      go_wp2
      go_ret
      exact ⟨rfl, sb⟩
    · rfl
  · rfl
set_option maxRecDepth 100000 in
set_option maxHeartbeats 2000000 in
theorem core_zero (n c a : Nat) (ab : Option Addr) (N : Nat → Nat) (A : Nat → Int) (gb ob BL : Nat) (bcs : Array Value) (tb : TypeId) (w : World) (h1 : 1 ≤ n) (h4 : n ≤ 4) (hL : LinksAt w ab n N A gb ob bcs tb)
    (hle : ∀ w', Calls Try.prog 11 #[.agg (natC (N (n - 1)))] w' fun e w2 => e = .returned (.int .i64 BL) ∧ Below w'.heap.size w' w2) (hbl : BL ≤ 62)
    (hch : ∀ w', Below w.heap.size w w' → Calls Try.prog 12 #[.slice ab n c] w' fun e w2 => e = .returned (.int .i64 0) ∧ Below w'.heap.size w' w2)
    (PN X : Nat) (er : Int) (hp : N (n - 1) = PN) (hx : X = 0)
    (hre : ∀ w', Calls Try.prog 16 #[.agg (natC a), .agg (natC 0), .agg (natC PN)] w' fun e w2 => e = .returned (.tuple #[.agg (natC X), .int .i64 er]) ∧ Below w'.heap.size w' w2) :
    Calls Try.prog 6 #[.slice ab n c, .agg (natC a)] w fun e w' => e = .returned (.bool true) ∧ Below w.heap.size w w' := by
  have HL : Hid (LinksAt w ab n N A gb ob bcs tb) := hL
  clear hL
  have haw := awake4_any
  go_enter Try.func6, Try.ntmps6
  (repeat ((fail_if_success (with_reducible show Code.wp _ (Code.region _ _ _) _ _ _)); go_step))
  apply wp_region_mixp [] [_, _] trivial List.nodup_nil
  · intro p
    refine mx_box 25 _ rfl _ rfl ?_
    simp only [Act.put, List.setIfInBounds_toArray, List.set_cons_zero, List.set_cons_succ]
    refine mx_val (.bool false) (fun _ => rfl) ?_
    simp only [Act.put, List.setIfInBounds_toArray, List.set_cons_zero, List.set_cons_succ]
    refine mx_end ?_
    intro w2 hkw hrw hnew hdis
    have n3 := hnew 0 rfl
    have zr3 : Row w2 (p 0) (natC a) 25 := hrw 1 (25, natC a) rfl
    have sb := hkw.below w.heap.size (Nat.le_refl _) (by simp)
    have b3 : w.heap.size ≤ p 0 := n3
    clear hkw hrw hnew hdis n3
    generalize p 0 = g3 at *
    have r3 := zr3
    clear zr3
    obtain h0 | ⟨rfl, rB, hat⟩ := (HL.out.below sb).at'
    · omega
    (repeat ((fail_if_success (with_reducible show Code.wp _ (Code.region _ _ _) _ _ _)); go_step))
    refine wp_region_qp ?_
    refine qw_move (by rfl) rfl rfl ?_
    simp only [Act.put, List.setIfInBounds_toArray, List.set_cons_zero, List.set_cons_succ]
    refine qw_value (by rfl) (.int .i64 n) (exec_len_s 32 _ rfl (some ⟨gb, ob, none⟩) n c rfl sl_link) ?_
    simp only [Act.put, List.setIfInBounds_toArray, List.set_cons_zero, List.set_cons_succ]
    refine qw_value (by rfl) (.bool false) (exec_lt_b _ _ _ _ rfl n 1 rfl rfl false (decide_eq_false (by omega))) ?_
    simp only [Act.put, List.setIfInBounds_toArray, List.set_cons_zero, List.set_cons_succ]
    refine qw_move (by rfl) rfl rfl ?_
    simp only [Act.put, List.setIfInBounds_toArray, List.set_cons_zero, List.set_cons_succ]
    refine qw_move (by rfl) rfl rfl ?_
    simp only [Act.put, List.setIfInBounds_toArray, List.set_cons_zero, List.set_cons_succ]
    refine qw_value (by rfl) (.int .i64 n) (exec_len_s 32 _ rfl (some ⟨gb, ob, none⟩) n c rfl sl_link) ?_
    simp only [Act.put, List.setIfInBounds_toArray, List.set_cons_zero, List.set_cons_succ]
    refine qw_value (by rfl) (.bool false) (exec_gt_i _ _ _ _ rfl n 4 rfl rfl false (decide_eq_false (by omega))) ?_
    simp only [Act.put, List.setIfInBounds_toArray, List.set_cons_zero, List.set_cons_succ]
    refine qw_pick false (v := .bool false) (by rfl) rfl rfl rfl ?_
    simp only [Act.put, List.setIfInBounds_toArray, List.set_cons_zero, List.set_cons_succ]
    refine qw_move (by rfl) rfl rfl ?_
    simp only [Act.put, List.setIfInBounds_toArray, List.set_cons_zero, List.set_cons_succ]
    refine qw_move (by rfl) rfl rfl ?_
    simp only [Act.put, List.setIfInBounds_toArray, List.set_cons_zero, List.set_cons_succ]
    refine qw_move (by rfl) rfl rfl ?_
    simp only [Act.put, List.setIfInBounds_toArray, List.set_cons_zero, List.set_cons_succ]
    refine qw_value (by rfl) (.int .i64 n) (exec_len_s 32 _ rfl (some ⟨gb, ob, none⟩) n c rfl sl_link) ?_
    simp only [Act.put, List.setIfInBounds_toArray, List.set_cons_zero, List.set_cons_succ]
    refine qw_value (by rfl) (.int .i64 (n - 1 : Nat)) (exec_sub_in _ _ _ _ rfl n 1 rfl rfl (by omega) (by omega)) ?_
    simp only [Act.put, List.setIfInBounds_toArray, List.set_cons_zero, List.set_cons_succ]
    refine qw_value (by rfl) (.pointer (some ⟨gb, ob + (n - 1) * 5, none⟩)) (exec_index_s 32 _ _ rfl gb ob n c rfl (n - 1) rfl (by omega) _ Try.underlying32 5 Try.sizeOf35) ?_
    simp only [Act.put, List.setIfInBounds_toArray, List.set_cons_zero, List.set_cons_succ]
    refine qw_value (by rfl) (.pointer (some ⟨gb, ob + (n - 1) * 5, none⟩)) (exec_field 35 _ 0 rfl gb (ob + (n - 1) * 5) rfl _ Try.underlying35 _ rfl 3 Try.sizeOf25) ?_
    simp only [Act.put, List.setIfInBounds_toArray, List.set_cons_zero, List.set_cons_succ]
    refine qw_loadmR (by rfl) 25 _ rfl _ ((ob + (n - 1) * 5)) rfl rB (natC (N (n - 1))) (lk_part (hat (n - 1) (by omega))) _ Try.underlying25 rfl size_nat ?_
    simp only [Act.put, List.setIfInBounds_toArray, List.set_cons_zero, List.set_cons_succ]
    refine qw_call (by rfl) 11 _ _ rfl Try.func11 (by kernel_rfl) #[.agg (natC (N (n - 1)))] rfl _ hle ?_
    simp only [Act.put, List.setIfInBounds_toArray, List.set_cons_zero, List.set_cons_succ]
    refine qw_value (by rfl) (.bool false) (exec_gt_i _ _ _ _ rfl BL 62 rfl rfl false (decide_eq_false (by omega))) ?_
    simp only [Act.put, List.setIfInBounds_toArray, List.set_cons_zero, List.set_cons_succ]
    refine qw_pick false (v := .bool false) (by rfl) rfl rfl rfl ?_
    simp only [Act.put, List.setIfInBounds_toArray, List.set_cons_zero, List.set_cons_succ]
    refine qw_move (by rfl) rfl rfl ?_
    simp only [Act.put, List.setIfInBounds_toArray, List.set_cons_zero, List.set_cons_succ]
    refine qw_move (by rfl) rfl rfl ?_
    simp only [Act.put, List.setIfInBounds_toArray, List.set_cons_zero, List.set_cons_succ]
    refine qw_callK (by rfl) 12 _ _ rfl Try.func12 (by kernel_rfl) #[.slice (some ⟨gb, ob, none⟩) n c] rfl _ (fun w' hb => hch w' (below_on sb (Nat.le_refl _) hb)) ?_
    simp only [Act.put, List.setIfInBounds_toArray, List.set_cons_zero, List.set_cons_succ]
    refine qw_value (by rfl) (.bool false) (exec_neq_k .i64 _ _ _ _ rfl 0 0 rfl rfl false rfl) ?_
    simp only [Act.put, List.setIfInBounds_toArray, List.set_cons_zero, List.set_cons_succ]
    refine qw_pick false (v := .bool false) (by rfl) rfl rfl rfl ?_
    simp only [Act.put, List.setIfInBounds_toArray, List.set_cons_zero, List.set_cons_succ]
    refine qw_nil ?_
    intro w3 hqb
    replace r3 := r3.belowAll hqb
    replace sb := below_on sb (Nat.le_refl _) hqb
    clear hqb
    replace rB := (HL.out.below sb).at'.resolve_left (by omega) |>.2.1
    clear hch hle
    (repeat ((fail_if_success (with_reducible show Code.wp _ (Code.region _ _ _) _ _ _)); go_step))
    apply wp_region_mixp [] [_, _, _, _, _, _, _, _, _] trivial List.nodup_nil
    · intro p
      refine mx_move rfl rfl ?_
      simp only [Act.put, List.setIfInBounds_toArray, List.set_cons_zero, List.set_cons_succ]
      refine mx_move rfl rfl ?_
      simp only [Act.put, List.setIfInBounds_toArray, List.set_cons_zero, List.set_cons_succ]
      refine mx_val (.int .i64 n) (exec_len_s 32 _ rfl (some ⟨gb, ob, none⟩) n c rfl sl_link) ?_
      simp only [Act.put, List.setIfInBounds_toArray, List.set_cons_zero, List.set_cons_succ]
      refine mx_val (.int .i64 (n - 1 : Nat)) (exec_sub_in _ _ _ _ rfl n 1 rfl rfl (by omega) (by omega)) ?_
      simp only [Act.put, List.setIfInBounds_toArray, List.set_cons_zero, List.set_cons_succ]
      refine mx_val (.pointer (some ⟨gb, ob + (n - 1) * 5, none⟩)) (exec_index_s 32 _ _ rfl gb ob n c rfl (n - 1) rfl (by omega) _ Try.underlying32 5 Try.sizeOf35) ?_
      simp only [Act.put, List.setIfInBounds_toArray, List.set_cons_zero, List.set_cons_succ]
      refine mx_val (.pointer (some ⟨gb, ob + (n - 1) * 5, none⟩)) (exec_field 35 _ 0 rfl gb (ob + (n - 1) * 5) rfl _ Try.underlying35 _ rfl 3 Try.sizeOf25) ?_
      simp only [Act.put, List.setIfInBounds_toArray, List.set_cons_zero, List.set_cons_succ]
      refine mx_loadmR 25 _ rfl _ ((ob + (n - 1) * 5)) rfl rB (by simp <;> omega) (natC (N (n - 1))) (lk_part (hat (n - 1) (by omega))) _ Try.underlying25 rfl size_nat ?_
      simp only [Act.put, List.setIfInBounds_toArray, List.set_cons_zero, List.set_cons_succ]
      refine mx_new 25 rfl _ zero_nat ?_
      simp only [Act.put, List.setIfInBounds_toArray, List.set_cons_zero, List.set_cons_succ]
      refine mx_put 15 25 _ _ rfl rfl rfl (natC (N (n - 1))) rfl (by exact size_nat) (by simp only [natC_size]) (natC_one _) ?_
      simp only [Act.put]
      refine mx_end ?_
      intro w4 hkw hrw hnew hdis
      have n5 := hnew 7 rfl
      have zr5 : Row w4 (p 7) (natC (N (n - 1))) 25 := hrw 15 (25, natC (N (n - 1))) rfl
      replace r3 := hkw.row r3 (by simp <;> omega)
      replace sb := sb.trans (hkw.below w.heap.size sb.size (by simp <;> omega))
      clear hkw hrw hnew hdis n5
      generalize p 7 = g5 at *
      have r5 := zr5
      clear zr5
      clear rB hat
      rw [hp] at r5
      (repeat ((fail_if_success (with_reducible show Code.wp _ (Code.region _ _ _) _ _ _)); go_step))
      apply wp_region_mixp [] [_, _, _, _, _, _, _, _, _, _] trivial List.nodup_nil
      · intro p
        refine mx_load 25 _ rfl _ rfl r3 (by simp <;> omega) 4 _ Try.underlying25 size_nat ?_
        simp only [Act.put, List.setIfInBounds_toArray, List.set_cons_zero, List.set_cons_succ]
        refine mx_val (.agg (natC 0)) (exec_build0 25 rfl _ built_nat) ?_
        simp only [Act.put, List.setIfInBounds_toArray, List.set_cons_zero, List.set_cons_succ]
        refine mx_load 25 _ rfl _ rfl r5 (by simp <;> omega) 4 _ Try.underlying25 size_nat ?_
        simp only [Act.put, List.setIfInBounds_toArray, List.set_cons_zero, List.set_cons_succ]
        refine mx_call 16 _ _ rfl Try.func16 (by kernel_rfl) #[.agg (natC a), .agg (natC 0), .agg (natC PN)] rfl _ hre ?_
        simp only [Act.put, List.setIfInBounds_toArray, List.set_cons_zero, List.set_cons_succ]
        refine mx_move rfl rfl ?_
        simp only [Act.put, List.setIfInBounds_toArray, List.set_cons_zero, List.set_cons_succ]
        refine mx_ext rfl rfl rfl ?_
        simp only [Act.put, List.setIfInBounds_toArray, List.set_cons_zero, List.set_cons_succ]
        refine mx_ext rfl rfl rfl ?_
        simp only [Act.put, List.setIfInBounds_toArray, List.set_cons_zero, List.set_cons_succ]
        refine mx_new 25 rfl _ zero_nat ?_
        simp only [Act.put, List.setIfInBounds_toArray, List.set_cons_zero, List.set_cons_succ]
        refine mx_put 15 25 _ _ rfl rfl rfl (natC X) rfl (by exact size_nat) (by simp only [natC_size]) (natC_one _) ?_
        simp only [Act.put]
        refine mx_asg rfl rfl ?_
        simp only [Act.put, List.setIfInBounds_toArray, List.set_cons_zero, List.set_cons_succ]
        refine mx_end ?_
        intro w5 hkw hrw hnew hdis
        have n6 := hnew 7 rfl
        have zr6 : Row w5 (p 7) (natC X) 25 := hrw 15 (25, natC X) rfl
        replace r5 := hkw.row r5 (by simp <;> omega)
        replace sb := sb.trans (hkw.below w.heap.size sb.size (by simp <;> omega))
        clear hkw hrw hnew hdis n6
        generalize p 7 = g6 at *
        have r6 := zr6
        clear zr6
        (repeat ((fail_if_success (with_reducible show Code.wp _ (Code.region _ _ _) _ _ _)); go_step))
        refine wp_region_qw (by kernel_rfl) (by kernel_rfl) ?_
        refine qw_load (by rfl) 25 _ rfl _ rfl r6 4 _ Try.underlying25 size_nat ?_
        simp only [Act.put, List.setIfInBounds_toArray, List.set_cons_zero, List.set_cons_succ]
        refine qw_value (by rfl) (.agg (natC 0)) (exec_build0 25 rfl _ built_nat) ?_
        simp only [Act.put, List.setIfInBounds_toArray, List.set_cons_zero, List.set_cons_succ]
        refine qw_value (by rfl) (.bool true) (fun w' => (exec_eql_nat _ _ _ rfl X 0 rfl rfl w').trans (by rw [hx, decide_eq_true rfl])) ?_
        simp only [Act.put, List.setIfInBounds_toArray, List.set_cons_zero, List.set_cons_succ]
        refine qw_move (by rfl) rfl rfl ?_
        simp only [Act.put, List.setIfInBounds_toArray, List.set_cons_zero, List.set_cons_succ]
        refine qw_skip (by rfl) ?_
        simp only [Act.put, List.setIfInBounds_toArray, List.set_cons_zero, List.set_cons_succ]
        refine qw_skip (by rfl) ?_
        simp only [Act.put, List.setIfInBounds_toArray, List.set_cons_zero, List.set_cons_succ]
        refine qw_skip (by rfl) ?_
        simp only [Act.put, List.setIfInBounds_toArray, List.set_cons_zero, List.set_cons_succ]
        refine qw_skip (by rfl) ?_
        simp only [Act.put, List.setIfInBounds_toArray, List.set_cons_zero, List.set_cons_succ]
        refine qw_pick true (v := .bool true) (by rfl) rfl rfl rfl ?_
        simp only [Act.put, List.setIfInBounds_toArray, List.set_cons_zero, List.set_cons_succ]
        refine qw_nil ?_
        intro w6 hqb
        replace sb := below_on sb (Nat.le_refl _) hqb
        clear hqb
        (repeat ((fail_if_success (with_reducible show Code.wp _ (Code.region _ _ _) _ _ _)); go_step))
        apply wp_region_mixp [] [_, _] trivial List.nodup_nil
        · intro p
          refine mx_call 10 _ _ rfl Try.func10 (by kernel_rfl) #[] rfl _ haw ?_
          simp only [Act.put, List.setIfInBounds_toArray, List.set_cons_zero, List.set_cons_succ]
          refine mx_asg rfl rfl ?_
          simp only [Act.put, List.setIfInBounds_toArray, List.set_cons_zero, List.set_cons_succ]
          refine mx_end ?_
          intro w7 hkw hrw hnew hdis
          replace sb := sb.trans (hkw.below w.heap.size sb.size (by simp <;> omega))
          clear hkw hrw hnew hdis
          go_wp2
          go_ret
          exact ⟨rfl, sb⟩
        · rfl
      · rfl
    · rfl
  · rfl
set_option maxRecDepth 100000 in
set_option maxHeartbeats 2000000 in
theorem core_two (n c a : Nat) (ab : Option Addr) (N : Nat → Nat) (A : Nat → Int) (gb ob BL : Nat) (bcs : Array Value) (tb : TypeId) (w : World) (h1 : 1 ≤ n) (h4 : n ≤ 4) (hL : LinksAt w ab n N A gb ob bcs tb)
    (hle : ∀ w', Calls Try.prog 11 #[.agg (natC (N (n - 1)))] w' fun e w2 => e = .returned (.int .i64 BL) ∧ Below w'.heap.size w' w2) (hbl : BL ≤ 62)
    (hch : ∀ w', Below w.heap.size w w' → Calls Try.prog 12 #[.slice ab n c] w' fun e w2 => e = .returned (.int .i64 0) ∧ Below w'.heap.size w' w2)
    (PN X : Nat) (er z : Int) (hp : N (n - 1) = PN) (hx : (decide (X % 2 ^ 256 = 0 % 2 ^ 256)) = false) (hz : z ≤ 0)
    (hre : ∀ w', Calls Try.prog 16 #[.agg (natC a), .agg (natC 0), .agg (natC PN)] w' fun e w2 => e = .returned (.tuple #[.agg (natC X), .int .i64 er]) ∧ Below w'.heap.size w' w2)
    (o2 : ∀ w', Calls Try.prog 18 #[.int .i64 2] w' fun e w2 => e = .returned (.agg (natC 2)) ∧ Below w'.heap.size w' w2)
    (hcm : ∀ w', Calls Try.prog 17 #[.agg (natC PN), .agg (natC 2)] w' fun e w2 => e = .returned (.int .i64 z) ∧ Below w'.heap.size w' w2) :
    Calls Try.prog 6 #[.slice ab n c, .agg (natC a)] w fun e w' => e = .returned (.bool true) ∧ Below w.heap.size w w' := by
  have HL : Hid (LinksAt w ab n N A gb ob bcs tb) := hL
  clear hL
  have haw := awake4_any
  go_enter Try.func6, Try.ntmps6
  (repeat ((fail_if_success (with_reducible show Code.wp _ (Code.region _ _ _) _ _ _)); go_step))
  apply wp_region_mixp [] [_, _] trivial List.nodup_nil
  · intro p
    refine mx_box 25 _ rfl _ rfl ?_
    simp only [Act.put, List.setIfInBounds_toArray, List.set_cons_zero, List.set_cons_succ]
    refine mx_val (.bool false) (fun _ => rfl) ?_
    simp only [Act.put, List.setIfInBounds_toArray, List.set_cons_zero, List.set_cons_succ]
    refine mx_end ?_
    intro w2 hkw hrw hnew hdis
    have n3 := hnew 0 rfl
    have zr3 : Row w2 (p 0) (natC a) 25 := hrw 1 (25, natC a) rfl
    have sb := hkw.below w.heap.size (Nat.le_refl _) (by simp)
    have b3 : w.heap.size ≤ p 0 := n3
    clear hkw hrw hnew hdis n3
    generalize p 0 = g3 at *
    have r3 := zr3
    clear zr3
    obtain h0 | ⟨rfl, rB, hat⟩ := (HL.out.below sb).at'
    · omega
    (repeat ((fail_if_success (with_reducible show Code.wp _ (Code.region _ _ _) _ _ _)); go_step))
    refine wp_region_qp ?_
    refine qw_move (by rfl) rfl rfl ?_
    simp only [Act.put, List.setIfInBounds_toArray, List.set_cons_zero, List.set_cons_succ]
    refine qw_value (by rfl) (.int .i64 n) (exec_len_s 32 _ rfl (some ⟨gb, ob, none⟩) n c rfl sl_link) ?_
    simp only [Act.put, List.setIfInBounds_toArray, List.set_cons_zero, List.set_cons_succ]
    refine qw_value (by rfl) (.bool false) (exec_lt_b _ _ _ _ rfl n 1 rfl rfl false (decide_eq_false (by omega))) ?_
    simp only [Act.put, List.setIfInBounds_toArray, List.set_cons_zero, List.set_cons_succ]
    refine qw_move (by rfl) rfl rfl ?_
    simp only [Act.put, List.setIfInBounds_toArray, List.set_cons_zero, List.set_cons_succ]
    refine qw_move (by rfl) rfl rfl ?_
    simp only [Act.put, List.setIfInBounds_toArray, List.set_cons_zero, List.set_cons_succ]
    refine qw_value (by rfl) (.int .i64 n) (exec_len_s 32 _ rfl (some ⟨gb, ob, none⟩) n c rfl sl_link) ?_
    simp only [Act.put, List.setIfInBounds_toArray, List.set_cons_zero, List.set_cons_succ]
    refine qw_value (by rfl) (.bool false) (exec_gt_i _ _ _ _ rfl n 4 rfl rfl false (decide_eq_false (by omega))) ?_
    simp only [Act.put, List.setIfInBounds_toArray, List.set_cons_zero, List.set_cons_succ]
    refine qw_pick false (v := .bool false) (by rfl) rfl rfl rfl ?_
    simp only [Act.put, List.setIfInBounds_toArray, List.set_cons_zero, List.set_cons_succ]
    refine qw_move (by rfl) rfl rfl ?_
    simp only [Act.put, List.setIfInBounds_toArray, List.set_cons_zero, List.set_cons_succ]
    refine qw_move (by rfl) rfl rfl ?_
    simp only [Act.put, List.setIfInBounds_toArray, List.set_cons_zero, List.set_cons_succ]
    refine qw_move (by rfl) rfl rfl ?_
    simp only [Act.put, List.setIfInBounds_toArray, List.set_cons_zero, List.set_cons_succ]
    refine qw_value (by rfl) (.int .i64 n) (exec_len_s 32 _ rfl (some ⟨gb, ob, none⟩) n c rfl sl_link) ?_
    simp only [Act.put, List.setIfInBounds_toArray, List.set_cons_zero, List.set_cons_succ]
    refine qw_value (by rfl) (.int .i64 (n - 1 : Nat)) (exec_sub_in _ _ _ _ rfl n 1 rfl rfl (by omega) (by omega)) ?_
    simp only [Act.put, List.setIfInBounds_toArray, List.set_cons_zero, List.set_cons_succ]
    refine qw_value (by rfl) (.pointer (some ⟨gb, ob + (n - 1) * 5, none⟩)) (exec_index_s 32 _ _ rfl gb ob n c rfl (n - 1) rfl (by omega) _ Try.underlying32 5 Try.sizeOf35) ?_
    simp only [Act.put, List.setIfInBounds_toArray, List.set_cons_zero, List.set_cons_succ]
    refine qw_value (by rfl) (.pointer (some ⟨gb, ob + (n - 1) * 5, none⟩)) (exec_field 35 _ 0 rfl gb (ob + (n - 1) * 5) rfl _ Try.underlying35 _ rfl 3 Try.sizeOf25) ?_
    simp only [Act.put, List.setIfInBounds_toArray, List.set_cons_zero, List.set_cons_succ]
    refine qw_loadmR (by rfl) 25 _ rfl _ ((ob + (n - 1) * 5)) rfl rB (natC (N (n - 1))) (lk_part (hat (n - 1) (by omega))) _ Try.underlying25 rfl size_nat ?_
    simp only [Act.put, List.setIfInBounds_toArray, List.set_cons_zero, List.set_cons_succ]
    refine qw_call (by rfl) 11 _ _ rfl Try.func11 (by kernel_rfl) #[.agg (natC (N (n - 1)))] rfl _ hle ?_
    simp only [Act.put, List.setIfInBounds_toArray, List.set_cons_zero, List.set_cons_succ]
    refine qw_value (by rfl) (.bool false) (exec_gt_i _ _ _ _ rfl BL 62 rfl rfl false (decide_eq_false (by omega))) ?_
    simp only [Act.put, List.setIfInBounds_toArray, List.set_cons_zero, List.set_cons_succ]
    refine qw_pick false (v := .bool false) (by rfl) rfl rfl rfl ?_
    simp only [Act.put, List.setIfInBounds_toArray, List.set_cons_zero, List.set_cons_succ]
    refine qw_move (by rfl) rfl rfl ?_
    simp only [Act.put, List.setIfInBounds_toArray, List.set_cons_zero, List.set_cons_succ]
    refine qw_move (by rfl) rfl rfl ?_
    simp only [Act.put, List.setIfInBounds_toArray, List.set_cons_zero, List.set_cons_succ]
    refine qw_callK (by rfl) 12 _ _ rfl Try.func12 (by kernel_rfl) #[.slice (some ⟨gb, ob, none⟩) n c] rfl _ (fun w' hb => hch w' (below_on sb (Nat.le_refl _) hb)) ?_
    simp only [Act.put, List.setIfInBounds_toArray, List.set_cons_zero, List.set_cons_succ]
    refine qw_value (by rfl) (.bool false) (exec_neq_k .i64 _ _ _ _ rfl 0 0 rfl rfl false rfl) ?_
    simp only [Act.put, List.setIfInBounds_toArray, List.set_cons_zero, List.set_cons_succ]
    refine qw_pick false (v := .bool false) (by rfl) rfl rfl rfl ?_
    simp only [Act.put, List.setIfInBounds_toArray, List.set_cons_zero, List.set_cons_succ]
    refine qw_nil ?_
    intro w3 hqb
    replace r3 := r3.belowAll hqb
    replace sb := below_on sb (Nat.le_refl _) hqb
    clear hqb
    replace rB := (HL.out.below sb).at'.resolve_left (by omega) |>.2.1
    clear hch hle
    (repeat ((fail_if_success (with_reducible show Code.wp _ (Code.region _ _ _) _ _ _)); go_step))
    apply wp_region_mixp [] [_, _, _, _, _, _, _, _, _] trivial List.nodup_nil
    · intro p
      refine mx_move rfl rfl ?_
      simp only [Act.put, List.setIfInBounds_toArray, List.set_cons_zero, List.set_cons_succ]
      refine mx_move rfl rfl ?_
      simp only [Act.put, List.setIfInBounds_toArray, List.set_cons_zero, List.set_cons_succ]
      refine mx_val (.int .i64 n) (exec_len_s 32 _ rfl (some ⟨gb, ob, none⟩) n c rfl sl_link) ?_
      simp only [Act.put, List.setIfInBounds_toArray, List.set_cons_zero, List.set_cons_succ]
      refine mx_val (.int .i64 (n - 1 : Nat)) (exec_sub_in _ _ _ _ rfl n 1 rfl rfl (by omega) (by omega)) ?_
      simp only [Act.put, List.setIfInBounds_toArray, List.set_cons_zero, List.set_cons_succ]
      refine mx_val (.pointer (some ⟨gb, ob + (n - 1) * 5, none⟩)) (exec_index_s 32 _ _ rfl gb ob n c rfl (n - 1) rfl (by omega) _ Try.underlying32 5 Try.sizeOf35) ?_
      simp only [Act.put, List.setIfInBounds_toArray, List.set_cons_zero, List.set_cons_succ]
      refine mx_val (.pointer (some ⟨gb, ob + (n - 1) * 5, none⟩)) (exec_field 35 _ 0 rfl gb (ob + (n - 1) * 5) rfl _ Try.underlying35 _ rfl 3 Try.sizeOf25) ?_
      simp only [Act.put, List.setIfInBounds_toArray, List.set_cons_zero, List.set_cons_succ]
      refine mx_loadmR 25 _ rfl _ ((ob + (n - 1) * 5)) rfl rB (by simp <;> omega) (natC (N (n - 1))) (lk_part (hat (n - 1) (by omega))) _ Try.underlying25 rfl size_nat ?_
      simp only [Act.put, List.setIfInBounds_toArray, List.set_cons_zero, List.set_cons_succ]
      refine mx_new 25 rfl _ zero_nat ?_
      simp only [Act.put, List.setIfInBounds_toArray, List.set_cons_zero, List.set_cons_succ]
      refine mx_put 15 25 _ _ rfl rfl rfl (natC (N (n - 1))) rfl (by exact size_nat) (by simp only [natC_size]) (natC_one _) ?_
      simp only [Act.put]
      refine mx_end ?_
      intro w4 hkw hrw hnew hdis
      have n5 := hnew 7 rfl
      have zr5 : Row w4 (p 7) (natC (N (n - 1))) 25 := hrw 15 (25, natC (N (n - 1))) rfl
      replace r3 := hkw.row r3 (by simp <;> omega)
      replace sb := sb.trans (hkw.below w.heap.size sb.size (by simp <;> omega))
      clear hkw hrw hnew hdis n5
      generalize p 7 = g5 at *
      have r5 := zr5
      clear zr5
      clear rB hat
      rw [hp] at r5
      (repeat ((fail_if_success (with_reducible show Code.wp _ (Code.region _ _ _) _ _ _)); go_step))
      apply wp_region_mixp [] [_, _, _, _, _, _, _, _, _, _] trivial List.nodup_nil
      · intro p
        refine mx_load 25 _ rfl _ rfl r3 (by simp <;> omega) 4 _ Try.underlying25 size_nat ?_
        simp only [Act.put, List.setIfInBounds_toArray, List.set_cons_zero, List.set_cons_succ]
        refine mx_val (.agg (natC 0)) (exec_build0 25 rfl _ built_nat) ?_
        simp only [Act.put, List.setIfInBounds_toArray, List.set_cons_zero, List.set_cons_succ]
        refine mx_load 25 _ rfl _ rfl r5 (by simp <;> omega) 4 _ Try.underlying25 size_nat ?_
        simp only [Act.put, List.setIfInBounds_toArray, List.set_cons_zero, List.set_cons_succ]
        refine mx_call 16 _ _ rfl Try.func16 (by kernel_rfl) #[.agg (natC a), .agg (natC 0), .agg (natC PN)] rfl _ hre ?_
        simp only [Act.put, List.setIfInBounds_toArray, List.set_cons_zero, List.set_cons_succ]
        refine mx_move rfl rfl ?_
        simp only [Act.put, List.setIfInBounds_toArray, List.set_cons_zero, List.set_cons_succ]
        refine mx_ext rfl rfl rfl ?_
        simp only [Act.put, List.setIfInBounds_toArray, List.set_cons_zero, List.set_cons_succ]
        refine mx_ext rfl rfl rfl ?_
        simp only [Act.put, List.setIfInBounds_toArray, List.set_cons_zero, List.set_cons_succ]
        refine mx_new 25 rfl _ zero_nat ?_
        simp only [Act.put, List.setIfInBounds_toArray, List.set_cons_zero, List.set_cons_succ]
        refine mx_put 15 25 _ _ rfl rfl rfl (natC X) rfl (by exact size_nat) (by simp only [natC_size]) (natC_one _) ?_
        simp only [Act.put]
        refine mx_asg rfl rfl ?_
        simp only [Act.put, List.setIfInBounds_toArray, List.set_cons_zero, List.set_cons_succ]
        refine mx_end ?_
        intro w5 hkw hrw hnew hdis
        have n6 := hnew 7 rfl
        have zr6 : Row w5 (p 7) (natC X) 25 := hrw 15 (25, natC X) rfl
        replace r5 := hkw.row r5 (by simp <;> omega)
        replace sb := sb.trans (hkw.below w.heap.size sb.size (by simp <;> omega))
        clear hkw hrw hnew hdis n6
        generalize p 7 = g6 at *
        have r6 := zr6
        clear zr6
        (repeat ((fail_if_success (with_reducible show Code.wp _ (Code.region _ _ _) _ _ _)); go_step))
        refine wp_region_qw (by kernel_rfl) (by kernel_rfl) ?_
        refine qw_load (by rfl) 25 _ rfl _ rfl r6 4 _ Try.underlying25 size_nat ?_
        simp only [Act.put, List.setIfInBounds_toArray, List.set_cons_zero, List.set_cons_succ]
        refine qw_value (by rfl) (.agg (natC 0)) (exec_build0 25 rfl _ built_nat) ?_
        simp only [Act.put, List.setIfInBounds_toArray, List.set_cons_zero, List.set_cons_succ]
        refine qw_value (by rfl) (.bool false) (fun w' => (exec_eql_nat _ _ _ rfl X 0 rfl rfl w').trans (by rw [hx])) ?_
        simp only [Act.put, List.setIfInBounds_toArray, List.set_cons_zero, List.set_cons_succ]
        refine qw_move (by rfl) rfl rfl ?_
        simp only [Act.put, List.setIfInBounds_toArray, List.set_cons_zero, List.set_cons_succ]
        refine qw_load (by rfl) 25 _ rfl _ rfl r5 4 _ Try.underlying25 size_nat ?_
        simp only [Act.put, List.setIfInBounds_toArray, List.set_cons_zero, List.set_cons_succ]
        refine qw_call (by rfl) 18 _ _ rfl Try.func18 (by kernel_rfl) #[.int .i64 2] rfl _ o2 ?_
        simp only [Act.put, List.setIfInBounds_toArray, List.set_cons_zero, List.set_cons_succ]
        refine qw_call (by rfl) 17 _ _ rfl Try.func17 (by kernel_rfl) #[.agg (natC PN), .agg (natC 2)] rfl _ hcm ?_
        simp only [Act.put, List.setIfInBounds_toArray, List.set_cons_zero, List.set_cons_succ]
        refine qw_value (by rfl) (.bool true) (exec_leq_i _ _ _ _ rfl z 0 rfl rfl true (decide_eq_true hz)) ?_
        simp only [Act.put, List.setIfInBounds_toArray, List.set_cons_zero, List.set_cons_succ]
        refine qw_pick false (v := .bool true) (by rfl) rfl rfl rfl ?_
        simp only [Act.put, List.setIfInBounds_toArray, List.set_cons_zero, List.set_cons_succ]
        refine qw_nil ?_
        intro w6 hqb
        replace r5 := r5.belowAll hqb
        replace r6 := r6.belowAll hqb
        replace sb := below_on sb (Nat.le_refl _) hqb
        clear hqb
        (repeat ((fail_if_success (with_reducible show Code.wp _ (Code.region _ _ _) _ _ _)); go_step))
        apply wp_region_mixp [] [_, _] trivial List.nodup_nil
        · intro p
          refine mx_call 10 _ _ rfl Try.func10 (by kernel_rfl) #[] rfl _ haw ?_
          simp only [Act.put, List.setIfInBounds_toArray, List.set_cons_zero, List.set_cons_succ]
          refine mx_asg rfl rfl ?_
          simp only [Act.put, List.setIfInBounds_toArray, List.set_cons_zero, List.set_cons_succ]
          refine mx_end ?_
          intro w7 hkw hrw hnew hdis
          replace sb := sb.trans (hkw.below w.heap.size sb.size (by simp <;> omega))
          clear hkw hrw hnew hdis
          go_wp2
          go_ret
          exact ⟨rfl, sb⟩
        · rfl
      · rfl
    · rfl
  · rfl
set_option maxRecDepth 100000 in
set_option maxHeartbeats 2000000 in
theorem core_yes (n c a : Nat) (ab : Option Addr) (N : Nat → Nat) (A : Nat → Int) (gb ob BL : Nat) (bcs : Array Value) (tb : TypeId) (w : World) (h1 : 1 ≤ n) (h4 : n ≤ 4) (hL : LinksAt w ab n N A gb ob bcs tb)
    (hle : ∀ w', Calls Try.prog 11 #[.agg (natC (N (n - 1)))] w' fun e w2 => e = .returned (.int .i64 BL) ∧ Below w'.heap.size w' w2) (hbl : BL ≤ 62)
    (hch : ∀ w', Below w.heap.size w w' → Calls Try.prog 12 #[.slice ab n c] w' fun e w2 => e = .returned (.int .i64 0) ∧ Below w'.heap.size w' w2)
    (PN X E V : Nat) (er z lz : Int) (hp : N (n - 1) = PN) (hx : (decide (X % 2 ^ 256 = 0 % 2 ^ 256)) = false) (hz : ¬ z ≤ 0)
    (hre : ∀ w', Calls Try.prog 16 #[.agg (natC a), .agg (natC 0), .agg (natC PN)] w' fun e w2 => e = .returned (.tuple #[.agg (natC X), .int .i64 er]) ∧ Below w'.heap.size w' w2)
    (o2 : ∀ w', Calls Try.prog 18 #[.int .i64 2] w' fun e w2 => e = .returned (.agg (natC 2)) ∧ Below w'.heap.size w' w2)
    (hcm : ∀ w', Calls Try.prog 17 #[.agg (natC PN), .agg (natC 2)] w' fun e w2 => e = .returned (.int .i64 z) ∧ Below w'.heap.size w' w2)
    (o1 : ∀ w', Calls Try.prog 18 #[.int .i64 1] w' fun e w2 => e = .returned (.agg (natC 1)) ∧ Below w'.heap.size w' w2)
    (hsu : ∀ w', Calls Try.prog 19 #[.agg (natC PN), .agg (natC 2)] w' fun e w2 => e = .returned (.tuple #[.agg (natC E), .int .i64 lz]) ∧ Below w'.heap.size w' w2)
    (hex : ∀ w', Calls Try.prog 21 #[.agg (natC X), .agg (natC E), .agg (natC PN)] w' fun e w2 => e = .returned (.agg (natC V)) ∧ Below w'.heap.size w' w2)
    (hiv : ∀ w', Calls Try.prog 20 #[.agg (natC V), .agg (natC X), .agg (natC PN)] w' fun e w2 => e = .returned (.bool true) ∧ Below w'.heap.size w' w2)
    (hgc : ∀ w', Calls Try.prog 22 #[.agg (natC X), .agg (natC PN)] w' fun e w2 => e = .returned (.agg (natC 1)) ∧ Below w'.heap.size w' w2) :
    Calls Try.prog 6 #[.slice ab n c, .agg (natC a)] w fun e w' => e = .returned (.bool true) ∧ Below w.heap.size w w' := by
  have HL : Hid (LinksAt w ab n N A gb ob bcs tb) := hL
  clear hL
  have haw := awake4_any
  go_enter Try.func6, Try.ntmps6
  (repeat ((fail_if_success (with_reducible show Code.wp _ (Code.region _ _ _) _ _ _)); go_step))
  apply wp_region_mixp [] [_, _] trivial List.nodup_nil
  · intro p
    refine mx_box 25 _ rfl _ rfl ?_
    simp only [Act.put, List.setIfInBounds_toArray, List.set_cons_zero, List.set_cons_succ]
    refine mx_val (.bool false) (fun _ => rfl) ?_
    simp only [Act.put, List.setIfInBounds_toArray, List.set_cons_zero, List.set_cons_succ]
    refine mx_end ?_
    intro w2 hkw hrw hnew hdis
    have n3 := hnew 0 rfl
    have zr3 : Row w2 (p 0) (natC a) 25 := hrw 1 (25, natC a) rfl
    have sb := hkw.below w.heap.size (Nat.le_refl _) (by simp)
    have b3 : w.heap.size ≤ p 0 := n3
    clear hkw hrw hnew hdis n3
    generalize p 0 = g3 at *
    have r3 := zr3
    clear zr3
    obtain h0 | ⟨rfl, rB, hat⟩ := (HL.out.below sb).at'
    · omega
    (repeat ((fail_if_success (with_reducible show Code.wp _ (Code.region _ _ _) _ _ _)); go_step))
    refine wp_region_qp ?_
    refine qw_move (by rfl) rfl rfl ?_
    simp only [Act.put, List.setIfInBounds_toArray, List.set_cons_zero, List.set_cons_succ]
    refine qw_value (by rfl) (.int .i64 n) (exec_len_s 32 _ rfl (some ⟨gb, ob, none⟩) n c rfl sl_link) ?_
    simp only [Act.put, List.setIfInBounds_toArray, List.set_cons_zero, List.set_cons_succ]
    refine qw_value (by rfl) (.bool false) (exec_lt_b _ _ _ _ rfl n 1 rfl rfl false (decide_eq_false (by omega))) ?_
    simp only [Act.put, List.setIfInBounds_toArray, List.set_cons_zero, List.set_cons_succ]
    refine qw_move (by rfl) rfl rfl ?_
    simp only [Act.put, List.setIfInBounds_toArray, List.set_cons_zero, List.set_cons_succ]
    refine qw_move (by rfl) rfl rfl ?_
    simp only [Act.put, List.setIfInBounds_toArray, List.set_cons_zero, List.set_cons_succ]
    refine qw_value (by rfl) (.int .i64 n) (exec_len_s 32 _ rfl (some ⟨gb, ob, none⟩) n c rfl sl_link) ?_
    simp only [Act.put, List.setIfInBounds_toArray, List.set_cons_zero, List.set_cons_succ]
    refine qw_value (by rfl) (.bool false) (exec_gt_i _ _ _ _ rfl n 4 rfl rfl false (decide_eq_false (by omega))) ?_
    simp only [Act.put, List.setIfInBounds_toArray, List.set_cons_zero, List.set_cons_succ]
    refine qw_pick false (v := .bool false) (by rfl) rfl rfl rfl ?_
    simp only [Act.put, List.setIfInBounds_toArray, List.set_cons_zero, List.set_cons_succ]
    refine qw_move (by rfl) rfl rfl ?_
    simp only [Act.put, List.setIfInBounds_toArray, List.set_cons_zero, List.set_cons_succ]
    refine qw_move (by rfl) rfl rfl ?_
    simp only [Act.put, List.setIfInBounds_toArray, List.set_cons_zero, List.set_cons_succ]
    refine qw_move (by rfl) rfl rfl ?_
    simp only [Act.put, List.setIfInBounds_toArray, List.set_cons_zero, List.set_cons_succ]
    refine qw_value (by rfl) (.int .i64 n) (exec_len_s 32 _ rfl (some ⟨gb, ob, none⟩) n c rfl sl_link) ?_
    simp only [Act.put, List.setIfInBounds_toArray, List.set_cons_zero, List.set_cons_succ]
    refine qw_value (by rfl) (.int .i64 (n - 1 : Nat)) (exec_sub_in _ _ _ _ rfl n 1 rfl rfl (by omega) (by omega)) ?_
    simp only [Act.put, List.setIfInBounds_toArray, List.set_cons_zero, List.set_cons_succ]
    refine qw_value (by rfl) (.pointer (some ⟨gb, ob + (n - 1) * 5, none⟩)) (exec_index_s 32 _ _ rfl gb ob n c rfl (n - 1) rfl (by omega) _ Try.underlying32 5 Try.sizeOf35) ?_
    simp only [Act.put, List.setIfInBounds_toArray, List.set_cons_zero, List.set_cons_succ]
    refine qw_value (by rfl) (.pointer (some ⟨gb, ob + (n - 1) * 5, none⟩)) (exec_field 35 _ 0 rfl gb (ob + (n - 1) * 5) rfl _ Try.underlying35 _ rfl 3 Try.sizeOf25) ?_
    simp only [Act.put, List.setIfInBounds_toArray, List.set_cons_zero, List.set_cons_succ]
    refine qw_loadmR (by rfl) 25 _ rfl _ ((ob + (n - 1) * 5)) rfl rB (natC (N (n - 1))) (lk_part (hat (n - 1) (by omega))) _ Try.underlying25 rfl size_nat ?_
    simp only [Act.put, List.setIfInBounds_toArray, List.set_cons_zero, List.set_cons_succ]
    refine qw_call (by rfl) 11 _ _ rfl Try.func11 (by kernel_rfl) #[.agg (natC (N (n - 1)))] rfl _ hle ?_
    simp only [Act.put, List.setIfInBounds_toArray, List.set_cons_zero, List.set_cons_succ]
    refine qw_value (by rfl) (.bool false) (exec_gt_i _ _ _ _ rfl BL 62 rfl rfl false (decide_eq_false (by omega))) ?_
    simp only [Act.put, List.setIfInBounds_toArray, List.set_cons_zero, List.set_cons_succ]
    refine qw_pick false (v := .bool false) (by rfl) rfl rfl rfl ?_
    simp only [Act.put, List.setIfInBounds_toArray, List.set_cons_zero, List.set_cons_succ]
    refine qw_move (by rfl) rfl rfl ?_
    simp only [Act.put, List.setIfInBounds_toArray, List.set_cons_zero, List.set_cons_succ]
    refine qw_move (by rfl) rfl rfl ?_
    simp only [Act.put, List.setIfInBounds_toArray, List.set_cons_zero, List.set_cons_succ]
    refine qw_callK (by rfl) 12 _ _ rfl Try.func12 (by kernel_rfl) #[.slice (some ⟨gb, ob, none⟩) n c] rfl _ (fun w' hb => hch w' (below_on sb (Nat.le_refl _) hb)) ?_
    simp only [Act.put, List.setIfInBounds_toArray, List.set_cons_zero, List.set_cons_succ]
    refine qw_value (by rfl) (.bool false) (exec_neq_k .i64 _ _ _ _ rfl 0 0 rfl rfl false rfl) ?_
    simp only [Act.put, List.setIfInBounds_toArray, List.set_cons_zero, List.set_cons_succ]
    refine qw_pick false (v := .bool false) (by rfl) rfl rfl rfl ?_
    simp only [Act.put, List.setIfInBounds_toArray, List.set_cons_zero, List.set_cons_succ]
    refine qw_nil ?_
    intro w3 hqb
    replace r3 := r3.belowAll hqb
    replace sb := below_on sb (Nat.le_refl _) hqb
    clear hqb
    replace rB := (HL.out.below sb).at'.resolve_left (by omega) |>.2.1
    clear hch hle
    (repeat ((fail_if_success (with_reducible show Code.wp _ (Code.region _ _ _) _ _ _)); go_step))
    apply wp_region_mixp [] [_, _, _, _, _, _, _, _, _] trivial List.nodup_nil
    · intro p
      refine mx_move rfl rfl ?_
      simp only [Act.put, List.setIfInBounds_toArray, List.set_cons_zero, List.set_cons_succ]
      refine mx_move rfl rfl ?_
      simp only [Act.put, List.setIfInBounds_toArray, List.set_cons_zero, List.set_cons_succ]
      refine mx_val (.int .i64 n) (exec_len_s 32 _ rfl (some ⟨gb, ob, none⟩) n c rfl sl_link) ?_
      simp only [Act.put, List.setIfInBounds_toArray, List.set_cons_zero, List.set_cons_succ]
      refine mx_val (.int .i64 (n - 1 : Nat)) (exec_sub_in _ _ _ _ rfl n 1 rfl rfl (by omega) (by omega)) ?_
      simp only [Act.put, List.setIfInBounds_toArray, List.set_cons_zero, List.set_cons_succ]
      refine mx_val (.pointer (some ⟨gb, ob + (n - 1) * 5, none⟩)) (exec_index_s 32 _ _ rfl gb ob n c rfl (n - 1) rfl (by omega) _ Try.underlying32 5 Try.sizeOf35) ?_
      simp only [Act.put, List.setIfInBounds_toArray, List.set_cons_zero, List.set_cons_succ]
      refine mx_val (.pointer (some ⟨gb, ob + (n - 1) * 5, none⟩)) (exec_field 35 _ 0 rfl gb (ob + (n - 1) * 5) rfl _ Try.underlying35 _ rfl 3 Try.sizeOf25) ?_
      simp only [Act.put, List.setIfInBounds_toArray, List.set_cons_zero, List.set_cons_succ]
      refine mx_loadmR 25 _ rfl _ ((ob + (n - 1) * 5)) rfl rB (by simp <;> omega) (natC (N (n - 1))) (lk_part (hat (n - 1) (by omega))) _ Try.underlying25 rfl size_nat ?_
      simp only [Act.put, List.setIfInBounds_toArray, List.set_cons_zero, List.set_cons_succ]
      refine mx_new 25 rfl _ zero_nat ?_
      simp only [Act.put, List.setIfInBounds_toArray, List.set_cons_zero, List.set_cons_succ]
      refine mx_put 15 25 _ _ rfl rfl rfl (natC (N (n - 1))) rfl (by exact size_nat) (by simp only [natC_size]) (natC_one _) ?_
      simp only [Act.put]
      refine mx_end ?_
      intro w4 hkw hrw hnew hdis
      have n5 := hnew 7 rfl
      have zr5 : Row w4 (p 7) (natC (N (n - 1))) 25 := hrw 15 (25, natC (N (n - 1))) rfl
      replace r3 := hkw.row r3 (by simp <;> omega)
      replace sb := sb.trans (hkw.below w.heap.size sb.size (by simp <;> omega))
      clear hkw hrw hnew hdis n5
      generalize p 7 = g5 at *
      have r5 := zr5
      clear zr5
      clear rB hat
      rw [hp] at r5
      (repeat ((fail_if_success (with_reducible show Code.wp _ (Code.region _ _ _) _ _ _)); go_step))
      apply wp_region_mixp [] [_, _, _, _, _, _, _, _, _, _] trivial List.nodup_nil
      · intro p
        refine mx_load 25 _ rfl _ rfl r3 (by simp <;> omega) 4 _ Try.underlying25 size_nat ?_
        simp only [Act.put, List.setIfInBounds_toArray, List.set_cons_zero, List.set_cons_succ]
        refine mx_val (.agg (natC 0)) (exec_build0 25 rfl _ built_nat) ?_
        simp only [Act.put, List.setIfInBounds_toArray, List.set_cons_zero, List.set_cons_succ]
        refine mx_load 25 _ rfl _ rfl r5 (by simp <;> omega) 4 _ Try.underlying25 size_nat ?_
        simp only [Act.put, List.setIfInBounds_toArray, List.set_cons_zero, List.set_cons_succ]
        refine mx_call 16 _ _ rfl Try.func16 (by kernel_rfl) #[.agg (natC a), .agg (natC 0), .agg (natC PN)] rfl _ hre ?_
        simp only [Act.put, List.setIfInBounds_toArray, List.set_cons_zero, List.set_cons_succ]
        refine mx_move rfl rfl ?_
        simp only [Act.put, List.setIfInBounds_toArray, List.set_cons_zero, List.set_cons_succ]
        refine mx_ext rfl rfl rfl ?_
        simp only [Act.put, List.setIfInBounds_toArray, List.set_cons_zero, List.set_cons_succ]
        refine mx_ext rfl rfl rfl ?_
        simp only [Act.put, List.setIfInBounds_toArray, List.set_cons_zero, List.set_cons_succ]
        refine mx_new 25 rfl _ zero_nat ?_
        simp only [Act.put, List.setIfInBounds_toArray, List.set_cons_zero, List.set_cons_succ]
        refine mx_put 15 25 _ _ rfl rfl rfl (natC X) rfl (by exact size_nat) (by simp only [natC_size]) (natC_one _) ?_
        simp only [Act.put]
        refine mx_asg rfl rfl ?_
        simp only [Act.put, List.setIfInBounds_toArray, List.set_cons_zero, List.set_cons_succ]
        refine mx_end ?_
        intro w5 hkw hrw hnew hdis
        have n6 := hnew 7 rfl
        have zr6 : Row w5 (p 7) (natC X) 25 := hrw 15 (25, natC X) rfl
        replace r5 := hkw.row r5 (by simp <;> omega)
        replace sb := sb.trans (hkw.below w.heap.size sb.size (by simp <;> omega))
        clear hkw hrw hnew hdis n6
        generalize p 7 = g6 at *
        have r6 := zr6
        clear zr6
        (repeat ((fail_if_success (with_reducible show Code.wp _ (Code.region _ _ _) _ _ _)); go_step))
        refine wp_region_qw (by kernel_rfl) (by kernel_rfl) ?_
        refine qw_load (by rfl) 25 _ rfl _ rfl r6 4 _ Try.underlying25 size_nat ?_
        simp only [Act.put, List.setIfInBounds_toArray, List.set_cons_zero, List.set_cons_succ]
        refine qw_value (by rfl) (.agg (natC 0)) (exec_build0 25 rfl _ built_nat) ?_
        simp only [Act.put, List.setIfInBounds_toArray, List.set_cons_zero, List.set_cons_succ]
        refine qw_value (by rfl) (.bool false) (fun w' => (exec_eql_nat _ _ _ rfl X 0 rfl rfl w').trans (by rw [hx])) ?_
        simp only [Act.put, List.setIfInBounds_toArray, List.set_cons_zero, List.set_cons_succ]
        refine qw_move (by rfl) rfl rfl ?_
        simp only [Act.put, List.setIfInBounds_toArray, List.set_cons_zero, List.set_cons_succ]
        refine qw_load (by rfl) 25 _ rfl _ rfl r5 4 _ Try.underlying25 size_nat ?_
        simp only [Act.put, List.setIfInBounds_toArray, List.set_cons_zero, List.set_cons_succ]
        refine qw_call (by rfl) 18 _ _ rfl Try.func18 (by kernel_rfl) #[.int .i64 2] rfl _ o2 ?_
        simp only [Act.put, List.setIfInBounds_toArray, List.set_cons_zero, List.set_cons_succ]
        refine qw_call (by rfl) 17 _ _ rfl Try.func17 (by kernel_rfl) #[.agg (natC PN), .agg (natC 2)] rfl _ hcm ?_
        simp only [Act.put, List.setIfInBounds_toArray, List.set_cons_zero, List.set_cons_succ]
        refine qw_value (by rfl) (.bool false) (exec_leq_i _ _ _ _ rfl z 0 rfl rfl false (decide_eq_false hz)) ?_
        simp only [Act.put, List.setIfInBounds_toArray, List.set_cons_zero, List.set_cons_succ]
        refine qw_pick false (v := .bool false) (by rfl) rfl rfl rfl ?_
        simp only [Act.put, List.setIfInBounds_toArray, List.set_cons_zero, List.set_cons_succ]
        refine qw_nil ?_
        intro w6 hqb
        replace r5 := r5.belowAll hqb
        replace r6 := r6.belowAll hqb
        replace sb := below_on sb (Nat.le_refl _) hqb
        clear hqb
        (repeat ((fail_if_success (with_reducible show Code.wp _ (Code.region _ _ _) _ _ _)); go_step))
        apply wp_region_mix (by kernel_rfl) [] [_, _, _, _, _, _, _, _, _] trivial List.nodup_nil
        · intro p
          refine mx_load 25 _ rfl _ rfl r5 (by simp <;> omega) 4 _ Try.underlying25 size_nat ?_
          simp only [Act.put, List.setIfInBounds_toArray, List.set_cons_zero, List.set_cons_succ]
          refine mx_call 18 _ _ rfl Try.func18 (by kernel_rfl) #[.int .i64 2] rfl _ o2 ?_
          simp only [Act.put, List.setIfInBounds_toArray, List.set_cons_zero, List.set_cons_succ]
          refine mx_call 19 _ _ rfl Try.func19 (by kernel_rfl) #[.agg (natC PN), .agg (natC 2)] rfl _ hsu ?_
          simp only [Act.put, List.setIfInBounds_toArray, List.set_cons_zero, List.set_cons_succ]
          refine mx_move rfl rfl ?_
          simp only [Act.put, List.setIfInBounds_toArray, List.set_cons_zero, List.set_cons_succ]
          refine mx_ext rfl rfl rfl ?_
          simp only [Act.put, List.setIfInBounds_toArray, List.set_cons_zero, List.set_cons_succ]
          refine mx_ext rfl rfl rfl ?_
          simp only [Act.put, List.setIfInBounds_toArray, List.set_cons_zero, List.set_cons_succ]
          refine mx_new 25 rfl _ zero_nat ?_
          simp only [Act.put, List.setIfInBounds_toArray, List.set_cons_zero, List.set_cons_succ]
          refine mx_put 13 25 _ _ rfl rfl rfl (natC E) rfl (by exact size_nat) (by simp only [natC_size]) (natC_one _) ?_
          simp only [Act.put]
          refine mx_asg rfl rfl ?_
          simp only [Act.put, List.setIfInBounds_toArray, List.set_cons_zero, List.set_cons_succ]
          refine mx_end ?_
          intro w7 hkw hrw hnew hdis
          have n8 := hnew 6 rfl
          have zr8 : Row w7 (p 6) (natC E) 25 := hrw 13 (25, natC E) rfl
          replace r5 := hkw.row r5 (by simp <;> omega)
          replace r6 := hkw.row r6 (by simp <;> omega)
          replace sb := sb.trans (hkw.below w.heap.size sb.size (by simp <;> omega))
          clear hkw hrw hnew hdis n8
          generalize p 6 = g8 at *
          have r8 := zr8
          clear zr8
          (repeat ((fail_if_success (with_reducible show Code.wp _ (Code.region _ _ _) _ _ _)); go_step))
          refine wp_region_qw (by kernel_rfl) (by kernel_rfl) ?_
          refine qw_load (by rfl) 25 _ rfl _ rfl r6 4 _ Try.underlying25 size_nat ?_
          simp only [Act.put, List.setIfInBounds_toArray, List.set_cons_zero, List.set_cons_succ]
          refine qw_load (by rfl) 25 _ rfl _ rfl r8 4 _ Try.underlying25 size_nat ?_
          simp only [Act.put, List.setIfInBounds_toArray, List.set_cons_zero, List.set_cons_succ]
          refine qw_load (by rfl) 25 _ rfl _ rfl r5 4 _ Try.underlying25 size_nat ?_
          simp only [Act.put, List.setIfInBounds_toArray, List.set_cons_zero, List.set_cons_succ]
          refine qw_call (by rfl) 21 _ _ rfl Try.func21 (by kernel_rfl) #[.agg (natC X), .agg (natC E), .agg (natC PN)] rfl _ hex ?_
          simp only [Act.put, List.setIfInBounds_toArray, List.set_cons_zero, List.set_cons_succ]
          refine qw_load (by rfl) 25 _ rfl _ rfl r6 4 _ Try.underlying25 size_nat ?_
          simp only [Act.put, List.setIfInBounds_toArray, List.set_cons_zero, List.set_cons_succ]
          refine qw_load (by rfl) 25 _ rfl _ rfl r5 4 _ Try.underlying25 size_nat ?_
          simp only [Act.put, List.setIfInBounds_toArray, List.set_cons_zero, List.set_cons_succ]
          refine qw_call (by rfl) 20 _ _ rfl Try.func20 (by kernel_rfl) #[.agg (natC V), .agg (natC X), .agg (natC PN)] rfl _ hiv ?_
          simp only [Act.put, List.setIfInBounds_toArray, List.set_cons_zero, List.set_cons_succ]
          refine qw_move (by rfl) rfl rfl ?_
          simp only [Act.put, List.setIfInBounds_toArray, List.set_cons_zero, List.set_cons_succ]
          refine qw_load (by rfl) 25 _ rfl _ rfl r6 4 _ Try.underlying25 size_nat ?_
          simp only [Act.put, List.setIfInBounds_toArray, List.set_cons_zero, List.set_cons_succ]
          refine qw_load (by rfl) 25 _ rfl _ rfl r5 4 _ Try.underlying25 size_nat ?_
          simp only [Act.put, List.setIfInBounds_toArray, List.set_cons_zero, List.set_cons_succ]
          refine qw_call (by rfl) 22 _ _ rfl Try.func22 (by kernel_rfl) #[.agg (natC X), .agg (natC PN)] rfl _ hgc ?_
          simp only [Act.put, List.setIfInBounds_toArray, List.set_cons_zero, List.set_cons_succ]
          refine qw_call (by rfl) 18 _ _ rfl Try.func18 (by kernel_rfl) #[.int .i64 1] rfl _ o1 ?_
          simp only [Act.put, List.setIfInBounds_toArray, List.set_cons_zero, List.set_cons_succ]
          refine qw_value (by rfl) (.bool true) (fun w' => (exec_eql_nat _ _ _ rfl 1 1 rfl rfl w').trans (by rw [decide_eq_true rfl])) ?_
          simp only [Act.put, List.setIfInBounds_toArray, List.set_cons_zero, List.set_cons_succ]
          refine qw_pick true (v := .bool true) (by rfl) rfl rfl rfl ?_
          simp only [Act.put, List.setIfInBounds_toArray, List.set_cons_zero, List.set_cons_succ]
          refine qw_move (by rfl) rfl rfl ?_
          simp only [Act.put, List.setIfInBounds_toArray, List.set_cons_zero, List.set_cons_succ]
          refine qw_call (by rfl) 10 _ _ rfl Try.func10 (by kernel_rfl) #[] rfl _ haw ?_
          simp only [Act.put, List.setIfInBounds_toArray, List.set_cons_zero, List.set_cons_succ]
          refine qw_pick true (v := .bool true) (by rfl) rfl rfl rfl ?_
          simp only [Act.put, List.setIfInBounds_toArray, List.set_cons_zero, List.set_cons_succ]
          refine qw_asg (by rfl) rfl rfl ?_
          simp only [Act.put, List.setIfInBounds_toArray, List.set_cons_zero, List.set_cons_succ]
          refine qw_nil ?_
          intro w8 hqb
          replace sb := below_on sb (Nat.le_refl _) hqb
          clear hqb
          go_wp2
          go_ret
          exact ⟨rfl, sb⟩
        · kernel_rfl
      · rfl
    · rfl
  · rfl
theorem walk (n c a : Nat) (ab : Option Addr) (N : Nat → Nat) (A : Nat → Int) (gb ob : Nat) (bcs : Array Value) (tb : TypeId) (w : World) (hL : LinksAt w ab n N A gb ob bcs tb) (ha : a < 2 ^ 256) :
    Calls Try.prog 6 #[.slice ab n c, .agg (natC a)] w fun e w' => e = .returned (.bool true) ∧ Below w.heap.size w w' := by
  by_cases h1 : n < 1
  · exact core_none n c a ab w h1
  by_cases h4 : 4 < n
  · exact core_long n c a ab w h4
  have hP := hL.lt (n - 1) (by omega)
  have hle := fun w' => rlen_any (N (n - 1)) w' hP
  by_cases hbl : 62 < bitLen (N (n - 1))
  · exact core_big n c a ab N A gb ob _ bcs tb w (by omega) (by omega) hL hle hbl
  have hch := fun w' (hb : Below w.heap.size w w') => check_any n c ab N A gb ob bcs tb w' (hL.below hb)
  cases hc : chN n N A with
  | false => rw [hc] at hch; exact core_bad n c a ab N A gb ob _ bcs tb w (by omega) (by omega) hL hle (by omega) hch
  | true =>
    rw [hc] at hch
    have hp := chN_isP hc (n - 1) (by omega)
    have hp2 := hp.1
    have hre := fun w' => rrem_any a 0 (N (n - 1)) w' ha (by decide) hP
    rw [show modZ (0 * 2 ^ 256 + a) (N (n - 1)) = a % N (n - 1) by unfold modZ; rw [if_neg (by omega), Nat.zero_mul, Nat.zero_add]] at hre
    have hX := Nat.mod_lt a (show 0 < N (n - 1) by omega)
    by_cases hx : a % N (n - 1) = 0
    · exact core_zero n c a ab N A gb ob _ bcs tb w (by omega) (by omega) hL hle (by omega) hch _ _ _ rfl hx hre
    have hxd : decide (a % N (n - 1) % 2 ^ 256 = 0 % 2 ^ 256) = false := by rw [eql_dec _ 0 (by omega) (by decide), decide_eq_false hx]
    have o2 := fun w' => of4_any 2 w' (by decide)
    have o1 := fun w' => of4_any 1 w' (by decide)
    have hcm := fun w' => rcmp_any (N (n - 1)) 2 w' hP (by decide)
    by_cases hz : cmpI (N (n - 1)) 2 ≤ 0
    · exact core_two n c a ab N A gb ob _ bcs tb w (by omega) (by omega) hL hle (by omega) hch _ _ _ _ rfl hxd hz hre o2 hcm
    have h3 : 2 < N (n - 1) := by
      have := cmp_pos (N (n - 1)) 2
      rw [decide_eq_true (show (0 : Int) < cmpI (N (n - 1)) 2 by omega)] at this
      exact of_decide_eq_true this.symm
    have hnd : ¬ N (n - 1) ∣ a % N (n - 1) := fun hd => by
      have := Nat.le_of_dvd (by omega) hd
      omega
    have hf := fermat hp hnd
    have hsu := fun w' => rsub_any (N (n - 1)) 2 w' hP (by decide)
    rw [show natC (less (N (n - 1)) 2) = natC (N (n - 1) - 2) from (natC_eq _ _).2 (by unfold less; rw [show N (n - 1) + (2 ^ 256 - 2) = N (n - 1) - 2 + 2 ^ 256 by omega, Nat.add_mod_right])] at hsu
    have hV := Nat.mod_lt ((a % N (n - 1)) ^ (N (n - 1) - 2)) (show 0 < N (n - 1) by omega)
    have hmm := fun w' => rmulmod_any ((a % N (n - 1)) ^ (N (n - 1) - 2) % N (n - 1)) (a % N (n - 1)) (N (n - 1)) w' (by omega) (by omega) hP
    rw [show modZ ((a % N (n - 1)) ^ (N (n - 1) - 2) % N (n - 1) * (a % N (n - 1))) (N (n - 1)) = 1 by
      unfold modZ
      rw [if_neg (by omega), Nat.mod_mul_mod, ← Nat.pow_succ, show (N (n - 1) - 2).succ = N (n - 1) - 1 by omega]
      exact hf, show errI (N (n - 1)) = 0 from if_neg (by omega)] at hmm
    have hgc := fun w' => rgcd_any (a % N (n - 1)) (N (n - 1)) w' (by omega) hP
    rw [Nat.gcd_comm, isP_coprime hp hnd] at hgc
    exact core_yes n c a ab N A gb ob _ bcs tb w (by omega) (by omega) hL hle (by omega) hch _ _ _ _ _ _ _ rfl hxd hz hre o2 hcm o1 hsu
      (fun w' => rexp_any (a % N (n - 1)) (N (n - 1) - 2) (N (n - 1)) w' (by omega) (by omega) (by omega) hP)
      (fun w' => rinv_core _ _ _ w' hV hP hmm) hgc

set_option maxRecDepth 100000 in
theorem lifted (os : Os) (started : os.Started) (H : Type) (enc : TypeId × Value → H) :
    ReturnsInHanded {} Try.checked os 6 .any (Rows.primeFermatSpec.pre6 enc Try.prog Try.f6 Rows.primeFermatRow.domain false) (Rows.primeFermatSpec.post enc Try.prog Try.f6 false true false false) := by
  refine returnsInHanded_of_change (C := Try.checked) own started (by kernel_rfl) Try.func6
    (ChangeSpec.witness6 (enc := enc) (C := Try.checked) false ⟨#[], #[.slice none 0 0, .agg #[.int .u64 0, .int .u64 0, .int .u64 0, .int .u64 0]], []⟩ 8 (by kernel_rfl) (by kernel_rfl) (by kernel_rfl) (by kernel_rfl)) ?_
  intro W base args ds gs before hval0 hW hcnd _
  have hval : ∀ (j : Nat) t v, Try.f6.params[j]? = some t → args[j]? = some v → Value.okWide Try.prog W .any base t v := hval0
  have hW' := hW
  obtain ⟨p, q, hA0, hV, rfl, hfz, hnd⟩ := hW
  have hA : DataW.TrodAll enc Try.prog W 0 (fun _ => true) true Try.f6.params.toList args.toList ds p := hA0
  rw [Try.params6] at hA hval
  obtain ⟨v0, vs0, d0, ds0, p0, q0, hargs, rfl, rfl, h0, r0⟩ := trodAll_cons hA
  obtain ⟨v1, vs1, d1, ds1, p1, q1, rfl, rfl, rfl, h1, r1⟩ := trodAll_cons r0
  obtain ⟨rfl, rfl, rfl⟩ := trodAll_nil r1
  obtain rfl : args = #[v0, v1] := by cases args; simp_all
  obtain ⟨rfl, rfl⟩ := trodVars_none hV
  have k0 := h0
  have lt0 := lt_of_trod h0
  obtain ⟨ab, n, c, N, A, gb, ob, bcs, tb, rfl, _, _, q1⟩ := open_links (hval 0 32 v0 rfl rfl) h0
  have k1 := h1
  have lt1 := lt_of_trod h1
  obtain ⟨N1, hN1, rfl⟩ := open_nat (hval 1 25 v1 rfl rfl) h1
  clear hA0 hval0
  refine (walk n c N1 ab N A gb ob bcs tb W q1 hN1).mono fun e W' ⟨he, bel⟩ => ?_
  subst he
  exact ⟨_, rfl, _, _, _, [], _, [], hW', trodAll_mk1 (shut_bool Try.underlying4 _), (trodAll_cons_mk (Below.trod laidOut (by kernel_rfl) (of_decide_eq_true (by kernel_rfl)) k0 bel lt0) (trodAll_cons_mk (Below.trod laidOut (by kernel_rfl) (of_decide_eq_true (by kernel_rfl)) k1 bel lt1) trodAll_mk0)), rfl, bel.frame _, fun h => by cases h⟩

theorem over : Rows.primeFermatRow.holds Try.pinned (OpenSpec.ofChange Rows.primeFermatSpec) :=
  OpenClaim.holds_of_wide 6 Try.f6 rfl rfl rfl rfl rfl rfl rfl ⟨rfl, rfl, rfl, rfl, rfl⟩ rfl rfl rfl rfl rfl (by kernel_rfl) Try.func6 (by kernel_rfl)
    (of_decide_eq_true (by kernel_rfl)) (by unfold Func.isWrapper; first | (rw [if_pos (by decide +kernel)]; kernel_rfl) | (rw [if_neg (by decide +kernel)]; exact ⟨rfl, rfl⟩))
    (fun os started H enc _ => lifted os started H enc)

end primeFermatP

/-- for all links and any natural: below what a chain of up to four shows to be a prime (below 2^62), each number that is not 0 has an inverse, which is a power of it; no condition. -/
theorem primeFermat_holds : Rows.PrimeFermatSaid := primeFermatP.over
end Go.Proofs.Ytcdfefljagddmab
