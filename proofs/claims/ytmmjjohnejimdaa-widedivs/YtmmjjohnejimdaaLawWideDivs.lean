/- WideDivs: for every two naturals how often the one goes into the other one, and what is left, are the document's, and together they are that one again; no condition. -/
import Derived.Test.YtmmjjohnejimdaaWAwake
import Derived.Test.YtmmjjohnejimdaaOpen
namespace Go.Proofs.Ytmmjjohnejimdaa
open Go.ChangeShapes Go.WideShapes Go.ChangeAt Go.RowKit
namespace wideDivsP

set_option maxRecDepth 100000 in
set_option maxHeartbeats 4000000 in
theorem core0 (A B P H S c : Nat) (w : World)
    (hd : ∀ w', Calls Try.prog 14 #[.agg (natC A), .agg (natC B)] w' fun e w2 => e = .returned (.tuple #[.agg (natC 0), .agg (natC 0), .int .i64 1]) ∧ Below w'.heap.size w' w2)
    (hd2 : ∀ w', Calls Try.prog 15 #[.agg (natC A), .agg (natC B)] w' fun e w2 => e = .returned (.tuple #[.agg (natC 0), .agg (natC 0), .int .i64 1]) ∧ Below w'.heap.size w' w2)
    (hm : ∀ w', Calls Try.prog 9 #[.agg (natC 0), .agg (natC B)] w' fun e w2 => e = .returned (.tuple #[.agg (natC P), .agg (natC H)]) ∧ Below w'.heap.size w' w2)
    (ha : ∀ w', Calls Try.prog 16 #[.agg (natC P), .agg (natC 0)] w' fun e w2 => e = .returned (.tuple #[.agg (natC S), .int .i64 c]) ∧ Below w'.heap.size w' w2) :
    Calls Try.prog 4 #[.agg (natC A), .agg (natC B)] w fun e w' => e = .returned (.bool true) ∧ Below w.heap.size w w' := by
  have haw := awake2_any
  go_enter Try.func4, Try.ntmps4
  (repeat ((fail_if_success (with_reducible show Code.wp _ (Code.region _ _ _) _ _ _)); go_step))
  apply wp_region_mixq [] [_, _, _] trivial List.nodup_nil rfl
  intro p
  refine mx_box 24 _ rfl _ rfl ?_
  simp only [Act.put, List.setIfInBounds_toArray, List.set_cons_zero, List.set_cons_succ]
  refine mx_box 24 _ rfl _ rfl ?_
  simp only [Act.put, List.setIfInBounds_toArray, List.set_cons_zero, List.set_cons_succ]
  refine mx_val (.bool false) (fun _ => rfl) ?_
  simp only [Act.put, List.setIfInBounds_toArray, List.set_cons_zero, List.set_cons_succ]
  refine mx_end ?_
  intro vw1 hkw hrw hnew hdis
  have n2 := hnew 0 rfl
  have n3 := hnew 1 rfl
  have zr2 : Row vw1 (p 0) (natC A) 24 := hrw 1 (24, natC A) rfl
  have zr3 : Row vw1 (p 1) (natC B) 24 := hrw 3 (24, natC B) rfl
  have sb := hkw.below w.heap.size (Nat.le_refl _) (by simp)
  clear hkw hrw hnew hdis n2 n3
  generalize p 0 = g2 at *
  generalize p 1 = g3 at *
  have r2 := zr2
  clear zr2
  have r3 := zr3
  clear zr3
  (repeat ((fail_if_success (with_reducible show Code.wp _ (Code.region _ _ _) _ _ _)); go_step))
  apply wp_region_mixq [] [_, _, _, _, _, _, _, _, _, _, _, _] trivial List.nodup_nil rfl
  intro p
  refine mx_load 24 _ rfl _ rfl r2 (by simp <;> omega) 4 _ Try.underlying24 size_nat ?_
  simp only [Act.put, List.setIfInBounds_toArray, List.set_cons_zero, List.set_cons_succ]
  refine mx_load 24 _ rfl _ rfl r3 (by simp <;> omega) 4 _ Try.underlying24 size_nat ?_
  simp only [Act.put, List.setIfInBounds_toArray, List.set_cons_zero, List.set_cons_succ]
  refine mx_call 14 _ _ rfl Try.func14 (by kernel_rfl) #[.agg (natC A), .agg (natC B)] rfl _ hd ?_
  simp only [Act.put, List.setIfInBounds_toArray, List.set_cons_zero, List.set_cons_succ]
  refine mx_move rfl rfl ?_
  simp only [Act.put, List.setIfInBounds_toArray, List.set_cons_zero, List.set_cons_succ]
  refine mx_ext rfl rfl rfl ?_
  simp only [Act.put, List.setIfInBounds_toArray, List.set_cons_zero, List.set_cons_succ]
  refine mx_ext rfl rfl rfl ?_
  simp only [Act.put, List.setIfInBounds_toArray, List.set_cons_zero, List.set_cons_succ]
  refine mx_ext rfl rfl rfl ?_
  simp only [Act.put, List.setIfInBounds_toArray, List.set_cons_zero, List.set_cons_succ]
  refine mx_new 24 rfl _ zero_nat ?_
  simp only [Act.put, List.setIfInBounds_toArray, List.set_cons_zero, List.set_cons_succ]
  refine mx_new 24 rfl _ zero_nat ?_
  simp only [Act.put, List.setIfInBounds_toArray, List.set_cons_zero, List.set_cons_succ]
  refine mx_put 15 24 _ _ rfl rfl rfl (natC 0) rfl (by exact size_nat) (by simp only [natC_size]) (natC_one _) ?_
  simp only [Act.put]
  refine mx_put 17 24 _ _ rfl rfl rfl (natC 0) rfl (by exact size_nat) (by simp only [natC_size]) (natC_one _) ?_
  simp only [Act.put]
  refine mx_asg rfl rfl ?_
  simp only [Act.put, List.setIfInBounds_toArray, List.set_cons_zero, List.set_cons_succ]
  refine mx_end ?_
  intro vw2 hkw hrw hnew hdis
  have n5 := hnew 7 rfl
  have n6 := hnew 8 rfl
  have zr5 : Row vw2 (p 7) (natC 0) 24 := hrw 15 (24, natC 0) rfl
  have zr6 : Row vw2 (p 8) (natC 0) 24 := hrw 17 (24, natC 0) rfl
  replace r2 := hkw.row r2 (by simp <;> omega)
  replace r3 := hkw.row r3 (by simp <;> omega)
  replace sb := sb.trans (hkw.below w.heap.size sb.size (by simp <;> omega))
  clear hkw hrw hnew hdis n5 n6
  generalize p 7 = g5 at *
  generalize p 8 = g6 at *
  have r5 := zr5
  clear zr5
  have r6 := zr6
  clear zr6
  (repeat ((fail_if_success (with_reducible show Code.wp _ (Code.region _ _ _) _ _ _)); go_step))
  apply wp_region_mixq [] [_, _, _, _, _, _, _, _, _, _, _, _] trivial List.nodup_nil rfl
  intro p
  refine mx_load 24 _ rfl _ rfl r2 (by simp <;> omega) 4 _ Try.underlying24 size_nat ?_
  simp only [Act.put, List.setIfInBounds_toArray, List.set_cons_zero, List.set_cons_succ]
  refine mx_load 24 _ rfl _ rfl r3 (by simp <;> omega) 4 _ Try.underlying24 size_nat ?_
  simp only [Act.put, List.setIfInBounds_toArray, List.set_cons_zero, List.set_cons_succ]
  refine mx_call 15 _ _ rfl Try.func15 (by kernel_rfl) #[.agg (natC A), .agg (natC B)] rfl _ hd2 ?_
  simp only [Act.put, List.setIfInBounds_toArray, List.set_cons_zero, List.set_cons_succ]
  refine mx_move rfl rfl ?_
  simp only [Act.put, List.setIfInBounds_toArray, List.set_cons_zero, List.set_cons_succ]
  refine mx_ext rfl rfl rfl ?_
  simp only [Act.put, List.setIfInBounds_toArray, List.set_cons_zero, List.set_cons_succ]
  refine mx_ext rfl rfl rfl ?_
  simp only [Act.put, List.setIfInBounds_toArray, List.set_cons_zero, List.set_cons_succ]
  refine mx_ext rfl rfl rfl ?_
  simp only [Act.put, List.setIfInBounds_toArray, List.set_cons_zero, List.set_cons_succ]
  refine mx_new 24 rfl _ zero_nat ?_
  simp only [Act.put, List.setIfInBounds_toArray, List.set_cons_zero, List.set_cons_succ]
  refine mx_new 24 rfl _ zero_nat ?_
  simp only [Act.put, List.setIfInBounds_toArray, List.set_cons_zero, List.set_cons_succ]
  refine mx_put 15 24 _ _ rfl rfl rfl (natC 0) rfl (by exact size_nat) (by simp only [natC_size]) (natC_one _) ?_
  simp only [Act.put]
  refine mx_put 17 24 _ _ rfl rfl rfl (natC 0) rfl (by exact size_nat) (by simp only [natC_size]) (natC_one _) ?_
  simp only [Act.put]
  refine mx_asg rfl rfl ?_
  simp only [Act.put, List.setIfInBounds_toArray, List.set_cons_zero, List.set_cons_succ]
  refine mx_end ?_
  intro vw3 hkw hrw hnew hdis
  have n8 := hnew 7 rfl
  have n9 := hnew 8 rfl
  have zr8 : Row vw3 (p 7) (natC 0) 24 := hrw 15 (24, natC 0) rfl
  have zr9 : Row vw3 (p 8) (natC 0) 24 := hrw 17 (24, natC 0) rfl
  replace r2 := hkw.row r2 (by simp <;> omega)
  replace r3 := hkw.row r3 (by simp <;> omega)
  replace r5 := hkw.row r5 (by simp <;> omega)
  replace r6 := hkw.row r6 (by simp <;> omega)
  replace sb := sb.trans (hkw.below w.heap.size sb.size (by simp <;> omega))
  clear hkw hrw hnew hdis n8 n9
  generalize p 7 = g8 at *
  generalize p 8 = g9 at *
  have r8 := zr8
  clear zr8
  have r9 := zr9
  clear zr9
  (repeat ((fail_if_success (with_reducible show Code.wp _ (Code.region _ _ _) _ _ _)); go_step))
  refine wp_region_qp ?_
  refine qw_load (by rfl) 24 _ rfl _ rfl r5 4 _ Try.underlying24 size_nat ?_
  simp only [Act.put, List.setIfInBounds_toArray, List.set_cons_zero, List.set_cons_succ]
  refine qw_load (by rfl) 24 _ rfl _ rfl r8 4 _ Try.underlying24 size_nat ?_
  simp only [Act.put, List.setIfInBounds_toArray, List.set_cons_zero, List.set_cons_succ]
  refine qw_value (by rfl) (.bool false) (fun w' => (exec_neq_nat _ _ _ rfl 0 0 rfl rfl w').trans (by rw [decide_eq_true rfl]; rfl)) ?_
  simp only [Act.put, List.setIfInBounds_toArray, List.set_cons_zero, List.set_cons_succ]
  refine qw_move (by rfl) rfl rfl ?_
  simp only [Act.put, List.setIfInBounds_toArray, List.set_cons_zero, List.set_cons_succ]
  refine qw_load (by rfl) 24 _ rfl _ rfl r6 4 _ Try.underlying24 size_nat ?_
  simp only [Act.put, List.setIfInBounds_toArray, List.set_cons_zero, List.set_cons_succ]
  refine qw_load (by rfl) 24 _ rfl _ rfl r9 4 _ Try.underlying24 size_nat ?_
  simp only [Act.put, List.setIfInBounds_toArray, List.set_cons_zero, List.set_cons_succ]
  refine qw_value (by rfl) (.bool false) (fun w' => (exec_neq_nat _ _ _ rfl 0 0 rfl rfl w').trans (by rw [decide_eq_true rfl]; rfl)) ?_
  simp only [Act.put, List.setIfInBounds_toArray, List.set_cons_zero, List.set_cons_succ]
  refine qw_pick false (v := .bool false) (by rfl) rfl rfl rfl ?_
  simp only [Act.put, List.setIfInBounds_toArray, List.set_cons_zero, List.set_cons_succ]
  refine qw_move (by rfl) rfl rfl ?_
  simp only [Act.put, List.setIfInBounds_toArray, List.set_cons_zero, List.set_cons_succ]
  refine qw_move (by rfl) rfl rfl ?_
  simp only [Act.put, List.setIfInBounds_toArray, List.set_cons_zero, List.set_cons_succ]
  refine qw_move (by rfl) rfl rfl ?_
  simp only [Act.put, List.setIfInBounds_toArray, List.set_cons_zero, List.set_cons_succ]
  refine qw_value (by rfl) (.bool false) (fun w' => (exec_neq_i _ _ _ _ rfl _ _ rfl rfl w').trans (by rw [bne_self_eq_false])) ?_
  simp only [Act.put, List.setIfInBounds_toArray, List.set_cons_zero, List.set_cons_succ]
  refine qw_pick false (v := .bool false) (by rfl) rfl rfl rfl ?_
  simp only [Act.put, List.setIfInBounds_toArray, List.set_cons_zero, List.set_cons_succ]
  refine qw_nil ?_
  intro vw4 hqb
  replace r2 := r2.belowAll hqb
  replace r3 := r3.belowAll hqb
  replace r5 := r5.belowAll hqb
  replace r6 := r6.belowAll hqb
  clear r8
  clear r9
  replace sb := below_on sb (Nat.le_refl _) hqb
  clear hqb
  (repeat ((fail_if_success (with_reducible show Code.wp _ (Code.region _ _ _) _ _ _)); go_step))
  apply wp_region_mixq [] [_, _, _, _, _, _, _, _, _, _] trivial List.nodup_nil rfl
  intro p
  refine mx_load 24 _ rfl _ rfl r5 (by simp <;> omega) 4 _ Try.underlying24 size_nat ?_
  simp only [Act.put, List.setIfInBounds_toArray, List.set_cons_zero, List.set_cons_succ]
  refine mx_load 24 _ rfl _ rfl r3 (by simp <;> omega) 4 _ Try.underlying24 size_nat ?_
  simp only [Act.put, List.setIfInBounds_toArray, List.set_cons_zero, List.set_cons_succ]
  refine mx_call 9 _ _ rfl Try.func9 (by kernel_rfl) #[.agg (natC 0), .agg (natC B)] rfl _ hm ?_
  simp only [Act.put, List.setIfInBounds_toArray, List.set_cons_zero, List.set_cons_succ]
  refine mx_move rfl rfl ?_
  simp only [Act.put, List.setIfInBounds_toArray, List.set_cons_zero, List.set_cons_succ]
  refine mx_ext rfl rfl rfl ?_
  simp only [Act.put, List.setIfInBounds_toArray, List.set_cons_zero, List.set_cons_succ]
  refine mx_ext rfl rfl rfl ?_
  simp only [Act.put, List.setIfInBounds_toArray, List.set_cons_zero, List.set_cons_succ]
  refine mx_new 24 rfl _ zero_nat ?_
  simp only [Act.put, List.setIfInBounds_toArray, List.set_cons_zero, List.set_cons_succ]
  refine mx_new 24 rfl _ zero_nat ?_
  simp only [Act.put, List.setIfInBounds_toArray, List.set_cons_zero, List.set_cons_succ]
  refine mx_put 13 24 _ _ rfl rfl rfl (natC P) rfl (by exact size_nat) (by simp only [natC_size]) (natC_one _) ?_
  simp only [Act.put]
  refine mx_put 15 24 _ _ rfl rfl rfl (natC H) rfl (by exact size_nat) (by simp only [natC_size]) (natC_one _) ?_
  simp only [Act.put]
  refine mx_end ?_
  intro vw5 hkw hrw hnew hdis
  have n11 := hnew 6 rfl
  have n12 := hnew 7 rfl
  have zr11 : Row vw5 (p 6) (natC P) 24 := hrw 13 (24, natC P) rfl
  have zr12 : Row vw5 (p 7) (natC H) 24 := hrw 15 (24, natC H) rfl
  replace r2 := hkw.row r2 (by simp <;> omega)
  replace r3 := hkw.row r3 (by simp <;> omega)
  clear r5
  replace r6 := hkw.row r6 (by simp <;> omega)
  replace sb := sb.trans (hkw.below w.heap.size sb.size (by simp <;> omega))
  clear hkw hrw hnew hdis n11 n12
  generalize p 6 = g11 at *
  generalize p 7 = g12 at *
  have r11 := zr11
  clear zr11
  have r12 := zr12
  clear zr12
  (repeat ((fail_if_success (with_reducible show Code.wp _ (Code.region _ _ _) _ _ _)); go_step))
  apply wp_region_mixq [] [_, _, _, _, _, _, _, _, _] trivial List.nodup_nil rfl
  intro p
  refine mx_load 24 _ rfl _ rfl r11 (by simp <;> omega) 4 _ Try.underlying24 size_nat ?_
  simp only [Act.put, List.setIfInBounds_toArray, List.set_cons_zero, List.set_cons_succ]
  refine mx_load 24 _ rfl _ rfl r6 (by simp <;> omega) 4 _ Try.underlying24 size_nat ?_
  simp only [Act.put, List.setIfInBounds_toArray, List.set_cons_zero, List.set_cons_succ]
  refine mx_call 16 _ _ rfl Try.func16 (by kernel_rfl) #[.agg (natC P), .agg (natC 0)] rfl _ ha ?_
  simp only [Act.put, List.setIfInBounds_toArray, List.set_cons_zero, List.set_cons_succ]
  refine mx_move rfl rfl ?_
  simp only [Act.put, List.setIfInBounds_toArray, List.set_cons_zero, List.set_cons_succ]
  refine mx_ext rfl rfl rfl ?_
  simp only [Act.put, List.setIfInBounds_toArray, List.set_cons_zero, List.set_cons_succ]
  refine mx_ext rfl rfl rfl ?_
  simp only [Act.put, List.setIfInBounds_toArray, List.set_cons_zero, List.set_cons_succ]
  refine mx_new 24 rfl _ zero_nat ?_
  simp only [Act.put, List.setIfInBounds_toArray, List.set_cons_zero, List.set_cons_succ]
  refine mx_put 13 24 _ _ rfl rfl rfl (natC S) rfl (by exact size_nat) (by simp only [natC_size]) (natC_one _) ?_
  simp only [Act.put]
  refine mx_asg rfl rfl ?_
  simp only [Act.put, List.setIfInBounds_toArray, List.set_cons_zero, List.set_cons_succ]
  refine mx_end ?_
  intro vw6 hkw hrw hnew hdis
  have n13 := hnew 6 rfl
  have zr13 : Row vw6 (p 6) (natC S) 24 := hrw 13 (24, natC S) rfl
  replace r2 := hkw.row r2 (by simp <;> omega)
  replace r3 := hkw.row r3 (by simp <;> omega)
  replace r6 := hkw.row r6 (by simp <;> omega)
  clear r11
  replace r12 := hkw.row r12 (by simp <;> omega)
  replace sb := sb.trans (hkw.below w.heap.size sb.size (by simp <;> omega))
  clear hkw hrw hnew hdis n13
  generalize p 6 = g13 at *
  have r13 := zr13
  clear zr13
  (repeat ((fail_if_success (with_reducible show Code.wp _ (Code.region _ _ _) _ _ _)); go_step))
  refine wp_region_qp ?_
  refine qw_move (by rfl) rfl rfl ?_
  simp only [Act.put, List.setIfInBounds_toArray, List.set_cons_zero, List.set_cons_succ]
  refine qw_value (by rfl) (.bool true) (exec_neq_i _ _ _ _ rfl (1) (0) rfl rfl) ?_
  simp only [Act.put, List.setIfInBounds_toArray, List.set_cons_zero, List.set_cons_succ]
  refine qw_move (by rfl) rfl rfl ?_
  simp only [Act.put, List.setIfInBounds_toArray, List.set_cons_zero, List.set_cons_succ]
  refine qw_skip (by rfl) ?_
  simp only [Act.put, List.setIfInBounds_toArray, List.set_cons_zero, List.set_cons_succ]
  refine qw_skip (by rfl) ?_
  simp only [Act.put, List.setIfInBounds_toArray, List.set_cons_zero, List.set_cons_succ]
  refine qw_skip (by rfl) ?_
  simp only [Act.put, List.setIfInBounds_toArray, List.set_cons_zero, List.set_cons_succ]
  refine qw_skip (by rfl) ?_
  simp only [Act.put, List.setIfInBounds_toArray, List.set_cons_zero, List.set_cons_succ]
  refine qw_skip (by rfl) ?_
  simp only [Act.put, List.setIfInBounds_toArray, List.set_cons_zero, List.set_cons_succ]
  refine qw_skip (by rfl) ?_
  simp only [Act.put, List.setIfInBounds_toArray, List.set_cons_zero, List.set_cons_succ]
  refine qw_skip (by rfl) ?_
  simp only [Act.put, List.setIfInBounds_toArray, List.set_cons_zero, List.set_cons_succ]
  refine qw_skip (by rfl) ?_
  simp only [Act.put, List.setIfInBounds_toArray, List.set_cons_zero, List.set_cons_succ]
  refine qw_skip (by rfl) ?_
  simp only [Act.put, List.setIfInBounds_toArray, List.set_cons_zero, List.set_cons_succ]
  refine qw_skip (by rfl) ?_
  simp only [Act.put, List.setIfInBounds_toArray, List.set_cons_zero, List.set_cons_succ]
  refine qw_skip (by rfl) ?_
  simp only [Act.put, List.setIfInBounds_toArray, List.set_cons_zero, List.set_cons_succ]
  refine qw_skip (by rfl) ?_
  simp only [Act.put, List.setIfInBounds_toArray, List.set_cons_zero, List.set_cons_succ]
  refine qw_skip (by rfl) ?_
  simp only [Act.put, List.setIfInBounds_toArray, List.set_cons_zero, List.set_cons_succ]
  refine qw_skip (by rfl) ?_
  simp only [Act.put, List.setIfInBounds_toArray, List.set_cons_zero, List.set_cons_succ]
  refine qw_skip (by rfl) ?_
  simp only [Act.put, List.setIfInBounds_toArray, List.set_cons_zero, List.set_cons_succ]
  refine qw_skip (by rfl) ?_
  simp only [Act.put, List.setIfInBounds_toArray, List.set_cons_zero, List.set_cons_succ]
  refine qw_skip (by rfl) ?_
  simp only [Act.put, List.setIfInBounds_toArray, List.set_cons_zero, List.set_cons_succ]
  refine qw_skip (by rfl) ?_
  simp only [Act.put, List.setIfInBounds_toArray, List.set_cons_zero, List.set_cons_succ]
  refine qw_pick true (v := .bool true) (by rfl) rfl rfl rfl ?_
  simp only [Act.put, List.setIfInBounds_toArray, List.set_cons_zero, List.set_cons_succ]
  refine qw_move (by rfl) rfl rfl ?_
  simp only [Act.put, List.setIfInBounds_toArray, List.set_cons_zero, List.set_cons_succ]
  refine qw_call (by rfl) 13 _ _ rfl Try.func13 (by kernel_rfl) #[] rfl _ haw ?_
  simp only [Act.put, List.setIfInBounds_toArray, List.set_cons_zero, List.set_cons_succ]
  refine qw_pick true (v := .bool true) (by rfl) rfl rfl rfl ?_
  simp only [Act.put, List.setIfInBounds_toArray, List.set_cons_zero, List.set_cons_succ]
  refine qw_asg (by rfl) rfl rfl ?_
  simp only [Act.put, List.setIfInBounds_toArray, List.set_cons_zero, List.set_cons_succ]
  refine qw_nil ?_
  intro vw7 hqb
  clear r2
  clear r3
  clear r6
  clear r12
  clear r13
  replace sb := below_on sb (Nat.le_refl _) hqb
  clear hqb
  -- the rows that stand: 
  go_wp2
  go_ret
  exact ⟨rfl, sb⟩

set_option maxRecDepth 100000 in
set_option maxHeartbeats 4000000 in
theorem core1 (A B Q R P : Nat) (w : World)
    (hd : ∀ w', Calls Try.prog 14 #[.agg (natC A), .agg (natC B)] w' fun e w2 => e = .returned (.tuple #[.agg (natC Q), .agg (natC R), .int .i64 0]) ∧ Below w'.heap.size w' w2)
    (hd2 : ∀ w', Calls Try.prog 15 #[.agg (natC A), .agg (natC B)] w' fun e w2 => e = .returned (.tuple #[.agg (natC Q), .agg (natC R), .int .i64 0]) ∧ Below w'.heap.size w' w2)
    (hm : ∀ w', Calls Try.prog 9 #[.agg (natC Q), .agg (natC B)] w' fun e w2 => e = .returned (.tuple #[.agg (natC P), .agg (natC 0)]) ∧ Below w'.heap.size w' w2)
    (ha : ∀ w', Calls Try.prog 16 #[.agg (natC P), .agg (natC R)] w' fun e w2 => e = .returned (.tuple #[.agg (natC A), .int .i64 0]) ∧ Below w'.heap.size w' w2)
    (hc : ∀ w', Calls Try.prog 17 #[.agg (natC R), .agg (natC B)] w' fun e w2 => e = .returned (.int .i64 (-1)) ∧ Below w'.heap.size w' w2) :
    Calls Try.prog 4 #[.agg (natC A), .agg (natC B)] w fun e w' => e = .returned (.bool true) ∧ Below w.heap.size w w' := by
  have haw := awake2_any
  go_enter Try.func4, Try.ntmps4
  (repeat ((fail_if_success (with_reducible show Code.wp _ (Code.region _ _ _) _ _ _)); go_step))
  apply wp_region_mixq [] [_, _, _] trivial List.nodup_nil rfl
  intro p
  refine mx_box 24 _ rfl _ rfl ?_
  simp only [Act.put, List.setIfInBounds_toArray, List.set_cons_zero, List.set_cons_succ]
  refine mx_box 24 _ rfl _ rfl ?_
  simp only [Act.put, List.setIfInBounds_toArray, List.set_cons_zero, List.set_cons_succ]
  refine mx_val (.bool false) (fun _ => rfl) ?_
  simp only [Act.put, List.setIfInBounds_toArray, List.set_cons_zero, List.set_cons_succ]
  refine mx_end ?_
  intro vw1 hkw hrw hnew hdis
  have n2 := hnew 0 rfl
  have n3 := hnew 1 rfl
  have zr2 : Row vw1 (p 0) (natC A) 24 := hrw 1 (24, natC A) rfl
  have zr3 : Row vw1 (p 1) (natC B) 24 := hrw 3 (24, natC B) rfl
  have sb := hkw.below w.heap.size (Nat.le_refl _) (by simp)
  clear hkw hrw hnew hdis n2 n3
  generalize p 0 = g2 at *
  generalize p 1 = g3 at *
  have r2 := zr2
  clear zr2
  have r3 := zr3
  clear zr3
  (repeat ((fail_if_success (with_reducible show Code.wp _ (Code.region _ _ _) _ _ _)); go_step))
  apply wp_region_mixq [] [_, _, _, _, _, _, _, _, _, _, _, _] trivial List.nodup_nil rfl
  intro p
  refine mx_load 24 _ rfl _ rfl r2 (by simp <;> omega) 4 _ Try.underlying24 size_nat ?_
  simp only [Act.put, List.setIfInBounds_toArray, List.set_cons_zero, List.set_cons_succ]
  refine mx_load 24 _ rfl _ rfl r3 (by simp <;> omega) 4 _ Try.underlying24 size_nat ?_
  simp only [Act.put, List.setIfInBounds_toArray, List.set_cons_zero, List.set_cons_succ]
  refine mx_call 14 _ _ rfl Try.func14 (by kernel_rfl) #[.agg (natC A), .agg (natC B)] rfl _ hd ?_
  simp only [Act.put, List.setIfInBounds_toArray, List.set_cons_zero, List.set_cons_succ]
  refine mx_move rfl rfl ?_
  simp only [Act.put, List.setIfInBounds_toArray, List.set_cons_zero, List.set_cons_succ]
  refine mx_ext rfl rfl rfl ?_
  simp only [Act.put, List.setIfInBounds_toArray, List.set_cons_zero, List.set_cons_succ]
  refine mx_ext rfl rfl rfl ?_
  simp only [Act.put, List.setIfInBounds_toArray, List.set_cons_zero, List.set_cons_succ]
  refine mx_ext rfl rfl rfl ?_
  simp only [Act.put, List.setIfInBounds_toArray, List.set_cons_zero, List.set_cons_succ]
  refine mx_new 24 rfl _ zero_nat ?_
  simp only [Act.put, List.setIfInBounds_toArray, List.set_cons_zero, List.set_cons_succ]
  refine mx_new 24 rfl _ zero_nat ?_
  simp only [Act.put, List.setIfInBounds_toArray, List.set_cons_zero, List.set_cons_succ]
  refine mx_put 15 24 _ _ rfl rfl rfl (natC Q) rfl (by exact size_nat) (by simp only [natC_size]) (natC_one _) ?_
  simp only [Act.put]
  refine mx_put 17 24 _ _ rfl rfl rfl (natC R) rfl (by exact size_nat) (by simp only [natC_size]) (natC_one _) ?_
  simp only [Act.put]
  refine mx_asg rfl rfl ?_
  simp only [Act.put, List.setIfInBounds_toArray, List.set_cons_zero, List.set_cons_succ]
  refine mx_end ?_
  intro vw2 hkw hrw hnew hdis
  have n5 := hnew 7 rfl
  have n6 := hnew 8 rfl
  have zr5 : Row vw2 (p 7) (natC Q) 24 := hrw 15 (24, natC Q) rfl
  have zr6 : Row vw2 (p 8) (natC R) 24 := hrw 17 (24, natC R) rfl
  replace r2 := hkw.row r2 (by simp <;> omega)
  replace r3 := hkw.row r3 (by simp <;> omega)
  replace sb := sb.trans (hkw.below w.heap.size sb.size (by simp <;> omega))
  clear hkw hrw hnew hdis n5 n6
  generalize p 7 = g5 at *
  generalize p 8 = g6 at *
  have r5 := zr5
  clear zr5
  have r6 := zr6
  clear zr6
  (repeat ((fail_if_success (with_reducible show Code.wp _ (Code.region _ _ _) _ _ _)); go_step))
  apply wp_region_mixq [] [_, _, _, _, _, _, _, _, _, _, _, _] trivial List.nodup_nil rfl
  intro p
  refine mx_load 24 _ rfl _ rfl r2 (by simp <;> omega) 4 _ Try.underlying24 size_nat ?_
  simp only [Act.put, List.setIfInBounds_toArray, List.set_cons_zero, List.set_cons_succ]
  refine mx_load 24 _ rfl _ rfl r3 (by simp <;> omega) 4 _ Try.underlying24 size_nat ?_
  simp only [Act.put, List.setIfInBounds_toArray, List.set_cons_zero, List.set_cons_succ]
  refine mx_call 15 _ _ rfl Try.func15 (by kernel_rfl) #[.agg (natC A), .agg (natC B)] rfl _ hd2 ?_
  simp only [Act.put, List.setIfInBounds_toArray, List.set_cons_zero, List.set_cons_succ]
  refine mx_move rfl rfl ?_
  simp only [Act.put, List.setIfInBounds_toArray, List.set_cons_zero, List.set_cons_succ]
  refine mx_ext rfl rfl rfl ?_
  simp only [Act.put, List.setIfInBounds_toArray, List.set_cons_zero, List.set_cons_succ]
  refine mx_ext rfl rfl rfl ?_
  simp only [Act.put, List.setIfInBounds_toArray, List.set_cons_zero, List.set_cons_succ]
  refine mx_ext rfl rfl rfl ?_
  simp only [Act.put, List.setIfInBounds_toArray, List.set_cons_zero, List.set_cons_succ]
  refine mx_new 24 rfl _ zero_nat ?_
  simp only [Act.put, List.setIfInBounds_toArray, List.set_cons_zero, List.set_cons_succ]
  refine mx_new 24 rfl _ zero_nat ?_
  simp only [Act.put, List.setIfInBounds_toArray, List.set_cons_zero, List.set_cons_succ]
  refine mx_put 15 24 _ _ rfl rfl rfl (natC Q) rfl (by exact size_nat) (by simp only [natC_size]) (natC_one _) ?_
  simp only [Act.put]
  refine mx_put 17 24 _ _ rfl rfl rfl (natC R) rfl (by exact size_nat) (by simp only [natC_size]) (natC_one _) ?_
  simp only [Act.put]
  refine mx_asg rfl rfl ?_
  simp only [Act.put, List.setIfInBounds_toArray, List.set_cons_zero, List.set_cons_succ]
  refine mx_end ?_
  intro vw3 hkw hrw hnew hdis
  have n8 := hnew 7 rfl
  have n9 := hnew 8 rfl
  have zr8 : Row vw3 (p 7) (natC Q) 24 := hrw 15 (24, natC Q) rfl
  have zr9 : Row vw3 (p 8) (natC R) 24 := hrw 17 (24, natC R) rfl
  replace r2 := hkw.row r2 (by simp <;> omega)
  replace r3 := hkw.row r3 (by simp <;> omega)
  replace r5 := hkw.row r5 (by simp <;> omega)
  replace r6 := hkw.row r6 (by simp <;> omega)
  replace sb := sb.trans (hkw.below w.heap.size sb.size (by simp <;> omega))
  clear hkw hrw hnew hdis n8 n9
  generalize p 7 = g8 at *
  generalize p 8 = g9 at *
  have r8 := zr8
  clear zr8
  have r9 := zr9
  clear zr9
  (repeat ((fail_if_success (with_reducible show Code.wp _ (Code.region _ _ _) _ _ _)); go_step))
  refine wp_region_qp ?_
  refine qw_load (by rfl) 24 _ rfl _ rfl r5 4 _ Try.underlying24 size_nat ?_
  simp only [Act.put, List.setIfInBounds_toArray, List.set_cons_zero, List.set_cons_succ]
  refine qw_load (by rfl) 24 _ rfl _ rfl r8 4 _ Try.underlying24 size_nat ?_
  simp only [Act.put, List.setIfInBounds_toArray, List.set_cons_zero, List.set_cons_succ]
  refine qw_value (by rfl) (.bool false) (fun w' => (exec_neq_nat _ _ _ rfl Q Q rfl rfl w').trans (by rw [decide_eq_true rfl]; rfl)) ?_
  simp only [Act.put, List.setIfInBounds_toArray, List.set_cons_zero, List.set_cons_succ]
  refine qw_move (by rfl) rfl rfl ?_
  simp only [Act.put, List.setIfInBounds_toArray, List.set_cons_zero, List.set_cons_succ]
  refine qw_load (by rfl) 24 _ rfl _ rfl r6 4 _ Try.underlying24 size_nat ?_
  simp only [Act.put, List.setIfInBounds_toArray, List.set_cons_zero, List.set_cons_succ]
  refine qw_load (by rfl) 24 _ rfl _ rfl r9 4 _ Try.underlying24 size_nat ?_
  simp only [Act.put, List.setIfInBounds_toArray, List.set_cons_zero, List.set_cons_succ]
  refine qw_value (by rfl) (.bool false) (fun w' => (exec_neq_nat _ _ _ rfl R R rfl rfl w').trans (by rw [decide_eq_true rfl]; rfl)) ?_
  simp only [Act.put, List.setIfInBounds_toArray, List.set_cons_zero, List.set_cons_succ]
  refine qw_pick false (v := .bool false) (by rfl) rfl rfl rfl ?_
  simp only [Act.put, List.setIfInBounds_toArray, List.set_cons_zero, List.set_cons_succ]
  refine qw_move (by rfl) rfl rfl ?_
  simp only [Act.put, List.setIfInBounds_toArray, List.set_cons_zero, List.set_cons_succ]
  refine qw_move (by rfl) rfl rfl ?_
  simp only [Act.put, List.setIfInBounds_toArray, List.set_cons_zero, List.set_cons_succ]
  refine qw_move (by rfl) rfl rfl ?_
  simp only [Act.put, List.setIfInBounds_toArray, List.set_cons_zero, List.set_cons_succ]
  refine qw_value (by rfl) (.bool false) (fun w' => (exec_neq_i _ _ _ _ rfl _ _ rfl rfl w').trans (by rw [bne_self_eq_false])) ?_
  simp only [Act.put, List.setIfInBounds_toArray, List.set_cons_zero, List.set_cons_succ]
  refine qw_pick false (v := .bool false) (by rfl) rfl rfl rfl ?_
  simp only [Act.put, List.setIfInBounds_toArray, List.set_cons_zero, List.set_cons_succ]
  refine qw_nil ?_
  intro vw4 hqb
  replace r2 := r2.belowAll hqb
  replace r3 := r3.belowAll hqb
  replace r5 := r5.belowAll hqb
  replace r6 := r6.belowAll hqb
  clear r8
  clear r9
  replace sb := below_on sb (Nat.le_refl _) hqb
  clear hqb
  (repeat ((fail_if_success (with_reducible show Code.wp _ (Code.region _ _ _) _ _ _)); go_step))
  apply wp_region_mixq [] [_, _, _, _, _, _, _, _, _, _] trivial List.nodup_nil rfl
  intro p
  refine mx_load 24 _ rfl _ rfl r5 (by simp <;> omega) 4 _ Try.underlying24 size_nat ?_
  simp only [Act.put, List.setIfInBounds_toArray, List.set_cons_zero, List.set_cons_succ]
  refine mx_load 24 _ rfl _ rfl r3 (by simp <;> omega) 4 _ Try.underlying24 size_nat ?_
  simp only [Act.put, List.setIfInBounds_toArray, List.set_cons_zero, List.set_cons_succ]
  refine mx_call 9 _ _ rfl Try.func9 (by kernel_rfl) #[.agg (natC Q), .agg (natC B)] rfl _ hm ?_
  simp only [Act.put, List.setIfInBounds_toArray, List.set_cons_zero, List.set_cons_succ]
  refine mx_move rfl rfl ?_
  simp only [Act.put, List.setIfInBounds_toArray, List.set_cons_zero, List.set_cons_succ]
  refine mx_ext rfl rfl rfl ?_
  simp only [Act.put, List.setIfInBounds_toArray, List.set_cons_zero, List.set_cons_succ]
  refine mx_ext rfl rfl rfl ?_
  simp only [Act.put, List.setIfInBounds_toArray, List.set_cons_zero, List.set_cons_succ]
  refine mx_new 24 rfl _ zero_nat ?_
  simp only [Act.put, List.setIfInBounds_toArray, List.set_cons_zero, List.set_cons_succ]
  refine mx_new 24 rfl _ zero_nat ?_
  simp only [Act.put, List.setIfInBounds_toArray, List.set_cons_zero, List.set_cons_succ]
  refine mx_put 13 24 _ _ rfl rfl rfl (natC P) rfl (by exact size_nat) (by simp only [natC_size]) (natC_one _) ?_
  simp only [Act.put]
  refine mx_put 15 24 _ _ rfl rfl rfl (natC 0) rfl (by exact size_nat) (by simp only [natC_size]) (natC_one _) ?_
  simp only [Act.put]
  refine mx_end ?_
  intro vw5 hkw hrw hnew hdis
  have n11 := hnew 6 rfl
  have n12 := hnew 7 rfl
  have zr11 : Row vw5 (p 6) (natC P) 24 := hrw 13 (24, natC P) rfl
  have zr12 : Row vw5 (p 7) (natC 0) 24 := hrw 15 (24, natC 0) rfl
  replace r2 := hkw.row r2 (by simp <;> omega)
  replace r3 := hkw.row r3 (by simp <;> omega)
  clear r5
  replace r6 := hkw.row r6 (by simp <;> omega)
  replace sb := sb.trans (hkw.below w.heap.size sb.size (by simp <;> omega))
  clear hkw hrw hnew hdis n11 n12
  generalize p 6 = g11 at *
  generalize p 7 = g12 at *
  have r11 := zr11
  clear zr11
  have r12 := zr12
  clear zr12
  (repeat ((fail_if_success (with_reducible show Code.wp _ (Code.region _ _ _) _ _ _)); go_step))
  apply wp_region_mixq [] [_, _, _, _, _, _, _, _, _] trivial List.nodup_nil rfl
  intro p
  refine mx_load 24 _ rfl _ rfl r11 (by simp <;> omega) 4 _ Try.underlying24 size_nat ?_
  simp only [Act.put, List.setIfInBounds_toArray, List.set_cons_zero, List.set_cons_succ]
  refine mx_load 24 _ rfl _ rfl r6 (by simp <;> omega) 4 _ Try.underlying24 size_nat ?_
  simp only [Act.put, List.setIfInBounds_toArray, List.set_cons_zero, List.set_cons_succ]
  refine mx_call 16 _ _ rfl Try.func16 (by kernel_rfl) #[.agg (natC P), .agg (natC R)] rfl _ ha ?_
  simp only [Act.put, List.setIfInBounds_toArray, List.set_cons_zero, List.set_cons_succ]
  refine mx_move rfl rfl ?_
  simp only [Act.put, List.setIfInBounds_toArray, List.set_cons_zero, List.set_cons_succ]
  refine mx_ext rfl rfl rfl ?_
  simp only [Act.put, List.setIfInBounds_toArray, List.set_cons_zero, List.set_cons_succ]
  refine mx_ext rfl rfl rfl ?_
  simp only [Act.put, List.setIfInBounds_toArray, List.set_cons_zero, List.set_cons_succ]
  refine mx_new 24 rfl _ zero_nat ?_
  simp only [Act.put, List.setIfInBounds_toArray, List.set_cons_zero, List.set_cons_succ]
  refine mx_put 13 24 _ _ rfl rfl rfl (natC A) rfl (by exact size_nat) (by simp only [natC_size]) (natC_one _) ?_
  simp only [Act.put]
  refine mx_asg rfl rfl ?_
  simp only [Act.put, List.setIfInBounds_toArray, List.set_cons_zero, List.set_cons_succ]
  refine mx_end ?_
  intro vw6 hkw hrw hnew hdis
  have n13 := hnew 6 rfl
  have zr13 : Row vw6 (p 6) (natC A) 24 := hrw 13 (24, natC A) rfl
  replace r2 := hkw.row r2 (by simp <;> omega)
  replace r3 := hkw.row r3 (by simp <;> omega)
  replace r6 := hkw.row r6 (by simp <;> omega)
  clear r11
  replace r12 := hkw.row r12 (by simp <;> omega)
  replace sb := sb.trans (hkw.below w.heap.size sb.size (by simp <;> omega))
  clear hkw hrw hnew hdis n13
  generalize p 6 = g13 at *
  have r13 := zr13
  clear zr13
  (repeat ((fail_if_success (with_reducible show Code.wp _ (Code.region _ _ _) _ _ _)); go_step))
  refine wp_region_qp ?_
  refine qw_move (by rfl) rfl rfl ?_
  simp only [Act.put, List.setIfInBounds_toArray, List.set_cons_zero, List.set_cons_succ]
  refine qw_value (by rfl) (.bool false) (fun w' => (exec_neq_i _ _ _ _ rfl _ _ rfl rfl w').trans (by rw [bne_self_eq_false])) ?_
  simp only [Act.put, List.setIfInBounds_toArray, List.set_cons_zero, List.set_cons_succ]
  refine qw_move (by rfl) rfl rfl ?_
  simp only [Act.put, List.setIfInBounds_toArray, List.set_cons_zero, List.set_cons_succ]
  refine qw_load (by rfl) 24 _ rfl _ rfl r13 4 _ Try.underlying24 size_nat ?_
  simp only [Act.put, List.setIfInBounds_toArray, List.set_cons_zero, List.set_cons_succ]
  refine qw_load (by rfl) 24 _ rfl _ rfl r2 4 _ Try.underlying24 size_nat ?_
  simp only [Act.put, List.setIfInBounds_toArray, List.set_cons_zero, List.set_cons_succ]
  refine qw_value (by rfl) (.bool true) (fun w' => (exec_eql_nat _ _ _ rfl A A rfl rfl w').trans (by rw [decide_eq_true rfl])) ?_
  simp only [Act.put, List.setIfInBounds_toArray, List.set_cons_zero, List.set_cons_succ]
  refine qw_move (by rfl) rfl rfl ?_
  simp only [Act.put, List.setIfInBounds_toArray, List.set_cons_zero, List.set_cons_succ]
  refine qw_move (by rfl) rfl rfl ?_
  simp only [Act.put, List.setIfInBounds_toArray, List.set_cons_zero, List.set_cons_succ]
  refine qw_value (by rfl) (.bool true) (exec_eql_int _ _ _ _ rfl _ _ rfl rfl) ?_
  simp only [Act.put, List.setIfInBounds_toArray, List.set_cons_zero, List.set_cons_succ]
  refine qw_pick true (v := .bool true) (by rfl) rfl rfl rfl ?_
  simp only [Act.put, List.setIfInBounds_toArray, List.set_cons_zero, List.set_cons_succ]
  refine qw_move (by rfl) rfl rfl ?_
  simp only [Act.put, List.setIfInBounds_toArray, List.set_cons_zero, List.set_cons_succ]
  refine qw_load (by rfl) 24 _ rfl _ rfl r12 4 _ Try.underlying24 size_nat ?_
  simp only [Act.put, List.setIfInBounds_toArray, List.set_cons_zero, List.set_cons_succ]
  refine qw_value (by rfl) (.agg (natC 0)) (exec_build0 24 rfl _ built_nat) ?_
  simp only [Act.put, List.setIfInBounds_toArray, List.set_cons_zero, List.set_cons_succ]
  refine qw_value (by rfl) (.bool true) (fun w' => (exec_eql_nat _ _ _ rfl 0 0 rfl rfl w').trans (by rw [decide_eq_true rfl])) ?_
  simp only [Act.put, List.setIfInBounds_toArray, List.set_cons_zero, List.set_cons_succ]
  refine qw_pick true (v := .bool true) (by rfl) rfl rfl rfl ?_
  simp only [Act.put, List.setIfInBounds_toArray, List.set_cons_zero, List.set_cons_succ]
  refine qw_move (by rfl) rfl rfl ?_
  simp only [Act.put, List.setIfInBounds_toArray, List.set_cons_zero, List.set_cons_succ]
  refine qw_load (by rfl) 24 _ rfl _ rfl r6 4 _ Try.underlying24 size_nat ?_
  simp only [Act.put, List.setIfInBounds_toArray, List.set_cons_zero, List.set_cons_succ]
  refine qw_load (by rfl) 24 _ rfl _ rfl r3 4 _ Try.underlying24 size_nat ?_
  simp only [Act.put, List.setIfInBounds_toArray, List.set_cons_zero, List.set_cons_succ]
  refine qw_call (by rfl) 17 _ _ rfl Try.func17 (by kernel_rfl) #[.agg (natC R), .agg (natC B)] rfl _ hc ?_
  simp only [Act.put, List.setIfInBounds_toArray, List.set_cons_zero, List.set_cons_succ]
  refine qw_value (by rfl) (.bool true) (exec_lss_i _ _ _ _ rfl (-1) 0 rfl rfl) ?_
  simp only [Act.put, List.setIfInBounds_toArray, List.set_cons_zero, List.set_cons_succ]
  refine qw_pick true (v := .bool true) (by rfl) rfl rfl rfl ?_
  simp only [Act.put, List.setIfInBounds_toArray, List.set_cons_zero, List.set_cons_succ]
  refine qw_pick false (v := .bool true) (by rfl) rfl rfl rfl ?_
  simp only [Act.put, List.setIfInBounds_toArray, List.set_cons_zero, List.set_cons_succ]
  refine qw_move (by rfl) rfl rfl ?_
  simp only [Act.put, List.setIfInBounds_toArray, List.set_cons_zero, List.set_cons_succ]
  refine qw_call (by rfl) 13 _ _ rfl Try.func13 (by kernel_rfl) #[] rfl _ haw ?_
  simp only [Act.put, List.setIfInBounds_toArray, List.set_cons_zero, List.set_cons_succ]
  refine qw_pick true (v := .bool true) (by rfl) rfl rfl rfl ?_
  simp only [Act.put, List.setIfInBounds_toArray, List.set_cons_zero, List.set_cons_succ]
  refine qw_asg (by rfl) rfl rfl ?_
  simp only [Act.put, List.setIfInBounds_toArray, List.set_cons_zero, List.set_cons_succ]
  refine qw_nil ?_
  intro vw7 hqb
  clear r2
  clear r3
  clear r6
  clear r12
  clear r13
  replace sb := below_on sb (Nat.le_refl _) hqb
  clear hqb
  -- the rows that stand: 
  go_wp2
  go_ret
  exact ⟨rfl, sb⟩
theorem walk (A B : Nat) (w : World) (hA : A < 2 ^ 256) (hB : B < 2 ^ 256) :
    Calls Try.prog 4 #[.agg (natC A), .agg (natC B)] w fun e w' => e = .returned (.bool true) ∧ Below w.heap.size w w' := by
  rcases Nat.eq_zero_or_pos B with h0 | h0
  · have hd := fun w' => wdiv_any A B w' hA hB
    have hd2 := fun w' => rdiv_any A B w' hA hB
    unfold divZ modZ errI at hd hd2
    rw [if_pos h0, if_pos h0, if_pos h0] at hd hd2
    exact core0 A B _ _ _ _ w hd hd2 (fun w' => wmul_any 0 B w' (by decide) hB) (fun w' => radd_any _ 0 w')
  · have hd := fun w' => wdiv_any A B w' hA hB
    have hd2 := fun w' => rdiv_any A B w' hA hB
    unfold divZ modZ errI at hd hd2
    rw [if_neg (by omega), if_neg (by omega), if_neg (by omega)] at hd hd2
    have hle : A / B ≤ A := Nat.div_le_self _ _
    have hr := Nat.mod_lt A h0
    have hdm : A / B * B + A % B = A := by rw [Nat.mul_comm]; exact Nat.div_add_mod A B
    have hm := fun w' => wmul_any (A / B) B w' (by omega) hB
    rw [show A / B * B / 2 ^ 256 = 0 from Nat.div_eq_of_lt (by omega)] at hm
    have ha := fun w' => radd_any (A / B * B) (A % B) w'
    rw [hdm, show cN (A / B * B) (A % B) 256 = 0 by rw [cN_eq, Nat.mod_eq_of_lt (show A / B * B < 2 ^ 256 by omega), Nat.mod_eq_of_lt (show A % B < 2 ^ 256 by omega), if_neg (by omega)]] at ha
    have hc := fun w' => rcmp_any (A % B) B w' (by omega) hB
    rw [show cmpI (A % B) B = -1 by unfold cmpI; rw [if_pos hr]] at hc
    exact core1 A B _ _ _ w hd hd2 hm ha hc

set_option maxRecDepth 100000 in
theorem lifted (os : Os) (started : os.Started) (H : Type) (enc : TypeId × Value → H) :
    ReturnsInHanded {} Try.checked os 4 .any (Rows.wideDivsSpec.pre6 enc Try.prog Try.f4 Rows.wideDivsRow.domain false) (Rows.wideDivsSpec.post enc Try.prog Try.f4 false true false false) := by
  refine returnsInHanded_of_change (C := Try.checked) own started (by kernel_rfl) Try.func4
    (ChangeSpec.witness6 (enc := enc) (C := Try.checked) false ⟨#[], #[.agg #[.int .u64 0, .int .u64 0, .int .u64 0, .int .u64 0], .agg #[.int .u64 0, .int .u64 0, .int .u64 0, .int .u64 0]], []⟩ 8 (by kernel_rfl) (by kernel_rfl) (by kernel_rfl) (by kernel_rfl)) ?_
  intro W base args ds gs before hval0 hW hcnd _
  have hval : ∀ (j : Nat) t v, Try.f4.params[j]? = some t → args[j]? = some v → Value.okWide Try.prog W .any base t v := hval0
  have hW' := hW
  obtain ⟨p, q, hA0, hV, rfl, hfz, hnd⟩ := hW
  have hA : DataW.TrodAll enc Try.prog W 0 (fun _ => true) true Try.f4.params.toList args.toList ds p := hA0
  rw [Try.params4] at hA hval
  obtain ⟨v0, vs0, d0, ds0, p0, q0, hargs, rfl, rfl, h0, r0⟩ := trodAll_cons hA
  obtain ⟨v1, vs1, d1, ds1, p1, q1, rfl, rfl, rfl, h1, r1⟩ := trodAll_cons r0
  obtain ⟨rfl, rfl, rfl⟩ := trodAll_nil r1
  obtain rfl : args = #[v0, v1] := by cases args; simp_all
  obtain ⟨rfl, rfl⟩ := trodVars_none hV
  have k0 := h0
  have lt0 := lt_of_trod h0
  obtain ⟨N0, hN0, rfl⟩ := open_nat (hval 0 24 v0 rfl rfl) h0
  have k1 := h1
  have lt1 := lt_of_trod h1
  obtain ⟨N1, hN1, rfl⟩ := open_nat (hval 1 24 v1 rfl rfl) h1
  clear hA0 hval0
  refine (walk N0 N1 W hN0 hN1).mono fun e W' ⟨he, bel⟩ => ?_
  subst he
  exact ⟨_, rfl, _, _, _, [], _, [], hW', trodAll_mk1 (shut_bool Try.underlying4 _), (trodAll_cons_mk (Below.trod laidOut (by kernel_rfl) (of_decide_eq_true (by kernel_rfl)) k0 bel lt0) (trodAll_cons_mk (Below.trod laidOut (by kernel_rfl) (of_decide_eq_true (by kernel_rfl)) k1 bel lt1) trodAll_mk0)), rfl, bel.frame _, fun h => by cases h⟩

theorem over : Rows.wideDivsRow.holds Try.pinned (OpenSpec.ofChange Rows.wideDivsSpec) :=
  OpenClaim.holds_of_wide 4 Try.f4 rfl rfl rfl rfl rfl rfl rfl ⟨rfl, rfl, rfl, rfl, rfl⟩ rfl rfl rfl rfl rfl (by kernel_rfl) Try.func4 (by kernel_rfl)
    (of_decide_eq_true (by kernel_rfl)) (by unfold Func.isWrapper; first | (rw [if_pos (by decide +kernel)]; kernel_rfl) | (rw [if_neg (by decide +kernel)]; exact ⟨rfl, rfl⟩))
    (fun os started H enc _ => lifted os started H enc)

end wideDivsP

/-- for every two naturals how often the one goes into the other one, and what is left, are the document's, and together they are that one again; no condition. -/
theorem wideDivs_holds : Rows.WideDivsSaid := wideDivsP.over
end Go.Proofs.Ytmmjjohnejimdaa
