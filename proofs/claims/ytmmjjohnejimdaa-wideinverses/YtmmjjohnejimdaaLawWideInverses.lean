/- WideInverses: for every two naturals the greatest natural that goes into both is the document's, and the program tells the inverse of the one by the other one just if there is one; no condition. -/
import Derived.Test.YtmmjjohnejimdaaWAwake
import Derived.Test.YtmmjjohnejimdaaOpen
namespace Go.Proofs.Ytmmjjohnejimdaa
open Go.ChangeShapes Go.WideShapes Go.ChangeAt Go.RowKit
namespace wideInversesP

set_option maxRecDepth 100000 in
set_option maxHeartbeats 4000000 in
theorem core0 (A M G : Nat) (w : World)
    (hg : ∀ w', Calls Try.prog 24 #[.agg (natC A), .agg (natC M)] w' fun e w2 => e = .returned (.agg (natC G)) ∧ Below w'.heap.size w' w2)
    (hi : ∀ w', Calls Try.prog 25 #[.agg (natC A), .agg (natC M)] w' fun e w2 => e = .returned (.tuple #[.agg (natC 0), .int .i64 1]) ∧ Below w'.heap.size w' w2)
    (hg2 : ∀ w', Calls Try.prog 26 #[.agg (natC A), .agg (natC M)] w' fun e w2 => e = .returned (.agg (natC G)) ∧ Below w'.heap.size w' w2)
    (hc : ∀ w', Calls Try.prog 17 #[.agg (natC M), .agg (natC 2)] w' fun e w2 => e = .returned (.int .i64 (-1)) ∧ Below w'.heap.size w' w2) :
    Calls Try.prog 6 #[.agg (natC A), .agg (natC M)] w fun e w' => e = .returned (.bool true) ∧ Below w.heap.size w w' := by
  have haw := awake2_any
  have o2 := fun w' => of2_any 2 w' (by decide)
  go_enter Try.func6, Try.ntmps6
  (repeat ((fail_if_success (with_reducible show Code.wp _ (Code.region _ _ _) _ _ _)); go_step))
  apply wp_region_mixq [] [_, _, _] trivial List.nodup_nil rfl
  intro p
  refine mx_box 24 _ rfl _ rfl ?_
  simp only [Act.put, List.setIfInBounds_toArray, List.set_cons_zero, List.set_cons_succ]
  refine mx_box 24 _ rfl _ rfl ?_
  simp only [Act.put, List.setIfInBounds_toArray, List.set_cons_zero, List.set_cons_succ]
  refine mx_val (.bool false) (fun _ => rfl) ?_
  simp only [Act.put, List.setIfInBounds_toArray, List.set_cons_zero, List.set_cons_succ]
  refine mx_end ?_
  intro vw1 hkw hrw hnew hdis
  have n2 := hnew 0 rfl
  have n3 := hnew 1 rfl
  have zr2 : Row vw1 (p 0) (natC A) 24 := hrw 1 (24, natC A) rfl
  have zr3 : Row vw1 (p 1) (natC M) 24 := hrw 3 (24, natC M) rfl
  have sb := hkw.below w.heap.size (Nat.le_refl _) (by simp)
  clear hkw hrw hnew hdis n2 n3
  generalize p 0 = g2 at *
  generalize p 1 = g3 at *
  have r2 := zr2
  clear zr2
  have r3 := zr3
  clear zr3
  (repeat ((fail_if_success (with_reducible show Code.wp _ (Code.region _ _ _) _ _ _)); go_step))
  apply wp_region_mixq [] [_, _, _, _, _] trivial List.nodup_nil rfl
  intro p
  refine mx_load 24 _ rfl _ rfl r2 (by simp <;> omega) 4 _ Try.underlying24 size_nat ?_
  simp only [Act.put, List.setIfInBounds_toArray, List.set_cons_zero, List.set_cons_succ]
  refine mx_load 24 _ rfl _ rfl r3 (by simp <;> omega) 4 _ Try.underlying24 size_nat ?_
  simp only [Act.put, List.setIfInBounds_toArray, List.set_cons_zero, List.set_cons_succ]
  refine mx_call 24 _ _ rfl Try.func24 (by kernel_rfl) #[.agg (natC A), .agg (natC M)] rfl _ hg ?_
  simp only [Act.put, List.setIfInBounds_toArray, List.set_cons_zero, List.set_cons_succ]
  refine mx_new 24 rfl _ zero_nat ?_
  simp only [Act.put, List.setIfInBounds_toArray, List.set_cons_zero, List.set_cons_succ]
  refine mx_put 7 24 _ _ rfl rfl rfl (natC G) rfl (by exact size_nat) (by simp only [natC_size]) (natC_one _) ?_
  simp only [Act.put]
  refine mx_end ?_
  intro vw2 hkw hrw hnew hdis
  have n5 := hnew 3 rfl
  have zr5 : Row vw2 (p 3) (natC G) 24 := hrw 7 (24, natC G) rfl
  replace r2 := hkw.row r2 (by simp <;> omega)
  replace r3 := hkw.row r3 (by simp <;> omega)
  replace sb := sb.trans (hkw.below w.heap.size sb.size (by simp <;> omega))
  clear hkw hrw hnew hdis n5
  generalize p 3 = g5 at *
  have r5 := zr5
  clear zr5
  (repeat ((fail_if_success (with_reducible show Code.wp _ (Code.region _ _ _) _ _ _)); go_step))
  apply wp_region_mixq [] [_, _, _, _, _, _, _, _, _] trivial List.nodup_nil rfl
  intro p
  refine mx_load 24 _ rfl _ rfl r2 (by simp <;> omega) 4 _ Try.underlying24 size_nat ?_
  simp only [Act.put, List.setIfInBounds_toArray, List.set_cons_zero, List.set_cons_succ]
  refine mx_load 24 _ rfl _ rfl r3 (by simp <;> omega) 4 _ Try.underlying24 size_nat ?_
  simp only [Act.put, List.setIfInBounds_toArray, List.set_cons_zero, List.set_cons_succ]
  refine mx_call 25 _ _ rfl Try.func25 (by kernel_rfl) #[.agg (natC A), .agg (natC M)] rfl _ hi ?_
  simp only [Act.put, List.setIfInBounds_toArray, List.set_cons_zero, List.set_cons_succ]
  refine mx_move rfl rfl ?_
  simp only [Act.put, List.setIfInBounds_toArray, List.set_cons_zero, List.set_cons_succ]
  refine mx_ext rfl rfl rfl ?_
  simp only [Act.put, List.setIfInBounds_toArray, List.set_cons_zero, List.set_cons_succ]
  refine mx_ext rfl rfl rfl ?_
  simp only [Act.put, List.setIfInBounds_toArray, List.set_cons_zero, List.set_cons_succ]
  refine mx_new 24 rfl _ zero_nat ?_
  simp only [Act.put, List.setIfInBounds_toArray, List.set_cons_zero, List.set_cons_succ]
  refine mx_put 13 24 _ _ rfl rfl rfl (natC 0) rfl (by exact size_nat) (by simp only [natC_size]) (natC_one _) ?_
  simp only [Act.put]
  refine mx_asg rfl rfl ?_
  simp only [Act.put, List.setIfInBounds_toArray, List.set_cons_zero, List.set_cons_succ]
  refine mx_end ?_
  intro vw3 hkw hrw hnew hdis
  have n6 := hnew 6 rfl
  have zr6 : Row vw3 (p 6) (natC 0) 24 := hrw 13 (24, natC 0) rfl
  replace r2 := hkw.row r2 (by simp <;> omega)
  replace r3 := hkw.row r3 (by simp <;> omega)
  replace r5 := hkw.row r5 (by simp <;> omega)
  replace sb := sb.trans (hkw.below w.heap.size sb.size (by simp <;> omega))
  clear hkw hrw hnew hdis n6
  generalize p 6 = g6 at *
  have r6 := zr6
  clear zr6
  (repeat ((fail_if_success (with_reducible show Code.wp _ (Code.region _ _ _) _ _ _)); go_step))
  refine wp_region_qw (by kernel_rfl) (by kernel_rfl) ?_
  refine qw_load (by rfl) 24 _ rfl _ rfl r5 4 _ Try.underlying24 size_nat ?_
  simp only [Act.put, List.setIfInBounds_toArray, List.set_cons_zero, List.set_cons_succ]
  refine qw_load (by rfl) 24 _ rfl _ rfl r2 4 _ Try.underlying24 size_nat ?_
  simp only [Act.put, List.setIfInBounds_toArray, List.set_cons_zero, List.set_cons_succ]
  refine qw_load (by rfl) 24 _ rfl _ rfl r3 4 _ Try.underlying24 size_nat ?_
  simp only [Act.put, List.setIfInBounds_toArray, List.set_cons_zero, List.set_cons_succ]
  refine qw_call (by rfl) 26 _ _ rfl Try.func26 (by kernel_rfl) #[.agg (natC A), .agg (natC M)] rfl _ hg2 ?_
  simp only [Act.put, List.setIfInBounds_toArray, List.set_cons_zero, List.set_cons_succ]
  refine qw_value (by rfl) (.bool false) (fun w' => (exec_neq_nat _ _ _ rfl G G rfl rfl w').trans (by rw [decide_eq_true rfl]; rfl)) ?_
  simp only [Act.put, List.setIfInBounds_toArray, List.set_cons_zero, List.set_cons_succ]
  refine qw_nil ?_
  intro vw4 hqb
  clear r2
  replace r3 := r3.belowAll hqb
  clear r5
  replace r6 := r6.belowAll hqb
  replace sb := below_on sb (Nat.le_refl _) hqb
  clear hqb
  (repeat ((fail_if_success (with_reducible show Code.wp _ (Code.region _ _ _) _ _ _)); go_step))
  refine wp_region_qw (by kernel_rfl) (by kernel_rfl) ?_
  refine qw_load (by rfl) 24 _ rfl _ rfl r3 4 _ Try.underlying24 size_nat ?_
  simp only [Act.put, List.setIfInBounds_toArray, List.set_cons_zero, List.set_cons_succ]
  refine qw_call (by rfl) 27 _ _ rfl Try.func27 (by kernel_rfl) #[.int .i64 2] rfl _ o2 ?_
  simp only [Act.put, List.setIfInBounds_toArray, List.set_cons_zero, List.set_cons_succ]
  refine qw_call (by rfl) 17 _ _ rfl Try.func17 (by kernel_rfl) #[.agg (natC M), .agg (natC 2)] rfl _ hc ?_
  simp only [Act.put, List.setIfInBounds_toArray, List.set_cons_zero, List.set_cons_succ]
  refine qw_value (by rfl) (.bool true) (exec_lss_i _ _ _ _ rfl (-1) 0 rfl rfl) ?_
  simp only [Act.put, List.setIfInBounds_toArray, List.set_cons_zero, List.set_cons_succ]
  refine qw_nil ?_
  intro vw5 hqb
  clear r3
  replace r6 := r6.belowAll hqb
  replace sb := below_on sb (Nat.le_refl _) hqb
  clear hqb
  (repeat ((fail_if_success (with_reducible show Code.wp _ (Code.region _ _ _) _ _ _)); go_step))
  refine wp_region_qp ?_
  refine qw_load (by rfl) 24 _ rfl _ rfl r6 4 _ Try.underlying24 size_nat ?_
  simp only [Act.put, List.setIfInBounds_toArray, List.set_cons_zero, List.set_cons_succ]
  refine qw_value (by rfl) (.agg (natC 0)) (exec_build0 24 rfl _ built_nat) ?_
  simp only [Act.put, List.setIfInBounds_toArray, List.set_cons_zero, List.set_cons_succ]
  refine qw_value (by rfl) (.bool true) (fun w' => (exec_eql_nat _ _ _ rfl 0 0 rfl rfl w').trans (by rw [decide_eq_true rfl])) ?_
  simp only [Act.put, List.setIfInBounds_toArray, List.set_cons_zero, List.set_cons_succ]
  refine qw_move (by rfl) rfl rfl ?_
  simp only [Act.put, List.setIfInBounds_toArray, List.set_cons_zero, List.set_cons_succ]
  refine qw_move (by rfl) rfl rfl ?_
  simp only [Act.put, List.setIfInBounds_toArray, List.set_cons_zero, List.set_cons_succ]
  refine qw_value (by rfl) (.bool true) (exec_eql_int _ _ _ _ rfl _ _ rfl rfl) ?_
  simp only [Act.put, List.setIfInBounds_toArray, List.set_cons_zero, List.set_cons_succ]
  refine qw_pick true (v := .bool true) (by rfl) rfl rfl rfl ?_
  simp only [Act.put, List.setIfInBounds_toArray, List.set_cons_zero, List.set_cons_succ]
  refine qw_move (by rfl) rfl rfl ?_
  simp only [Act.put, List.setIfInBounds_toArray, List.set_cons_zero, List.set_cons_succ]
  refine qw_call (by rfl) 13 _ _ rfl Try.func13 (by kernel_rfl) #[] rfl _ haw ?_
  simp only [Act.put, List.setIfInBounds_toArray, List.set_cons_zero, List.set_cons_succ]
  refine qw_pick true (v := .bool true) (by rfl) rfl rfl rfl ?_
  simp only [Act.put, List.setIfInBounds_toArray, List.set_cons_zero, List.set_cons_succ]
  refine qw_asg (by rfl) rfl rfl ?_
  simp only [Act.put, List.setIfInBounds_toArray, List.set_cons_zero, List.set_cons_succ]
  refine qw_nil ?_
  intro vw6 hqb
  clear r6
  replace sb := below_on sb (Nat.le_refl _) hqb
  clear hqb
  -- the rows that stand: 
  go_wp2
  go_ret
  exact ⟨rfl, sb⟩

set_option maxRecDepth 100000 in
set_option maxHeartbeats 4000000 in
theorem core1 (A M G : Nat) (z : Int) (w : World) (hz : decide (z < 0) = false) (hG : (!decide (G % 2 ^ 256 = 1 % 2 ^ 256)) = true)
    (hg : ∀ w', Calls Try.prog 24 #[.agg (natC A), .agg (natC M)] w' fun e w2 => e = .returned (.agg (natC G)) ∧ Below w'.heap.size w' w2)
    (hi : ∀ w', Calls Try.prog 25 #[.agg (natC A), .agg (natC M)] w' fun e w2 => e = .returned (.tuple #[.agg (natC 0), .int .i64 3]) ∧ Below w'.heap.size w' w2)
    (hg2 : ∀ w', Calls Try.prog 26 #[.agg (natC A), .agg (natC M)] w' fun e w2 => e = .returned (.agg (natC G)) ∧ Below w'.heap.size w' w2)
    (hc : ∀ w', Calls Try.prog 17 #[.agg (natC M), .agg (natC 2)] w' fun e w2 => e = .returned (.int .i64 z) ∧ Below w'.heap.size w' w2) :
    Calls Try.prog 6 #[.agg (natC A), .agg (natC M)] w fun e w' => e = .returned (.bool true) ∧ Below w.heap.size w w' := by
  have haw := awake2_any
  have o2 := fun w' => of2_any 2 w' (by decide)
  have o1 := fun w' => of2_any 1 w' (by decide)
  go_enter Try.func6, Try.ntmps6
  (repeat ((fail_if_success (with_reducible show Code.wp _ (Code.region _ _ _) _ _ _)); go_step))
  apply wp_region_mixq [] [_, _, _] trivial List.nodup_nil rfl
  intro p
  refine mx_box 24 _ rfl _ rfl ?_
  simp only [Act.put, List.setIfInBounds_toArray, List.set_cons_zero, List.set_cons_succ]
  refine mx_box 24 _ rfl _ rfl ?_
  simp only [Act.put, List.setIfInBounds_toArray, List.set_cons_zero, List.set_cons_succ]
  refine mx_val (.bool false) (fun _ => rfl) ?_
  simp only [Act.put, List.setIfInBounds_toArray, List.set_cons_zero, List.set_cons_succ]
  refine mx_end ?_
  intro vw1 hkw hrw hnew hdis
  have n2 := hnew 0 rfl
  have n3 := hnew 1 rfl
  have zr2 : Row vw1 (p 0) (natC A) 24 := hrw 1 (24, natC A) rfl
  have zr3 : Row vw1 (p 1) (natC M) 24 := hrw 3 (24, natC M) rfl
  have sb := hkw.below w.heap.size (Nat.le_refl _) (by simp)
  clear hkw hrw hnew hdis n2 n3
  generalize p 0 = g2 at *
  generalize p 1 = g3 at *
  have r2 := zr2
  clear zr2
  have r3 := zr3
  clear zr3
  (repeat ((fail_if_success (with_reducible show Code.wp _ (Code.region _ _ _) _ _ _)); go_step))
  apply wp_region_mixq [] [_, _, _, _, _] trivial List.nodup_nil rfl
  intro p
  refine mx_load 24 _ rfl _ rfl r2 (by simp <;> omega) 4 _ Try.underlying24 size_nat ?_
  simp only [Act.put, List.setIfInBounds_toArray, List.set_cons_zero, List.set_cons_succ]
  refine mx_load 24 _ rfl _ rfl r3 (by simp <;> omega) 4 _ Try.underlying24 size_nat ?_
  simp only [Act.put, List.setIfInBounds_toArray, List.set_cons_zero, List.set_cons_succ]
  refine mx_call 24 _ _ rfl Try.func24 (by kernel_rfl) #[.agg (natC A), .agg (natC M)] rfl _ hg ?_
  simp only [Act.put, List.setIfInBounds_toArray, List.set_cons_zero, List.set_cons_succ]
  refine mx_new 24 rfl _ zero_nat ?_
  simp only [Act.put, List.setIfInBounds_toArray, List.set_cons_zero, List.set_cons_succ]
  refine mx_put 7 24 _ _ rfl rfl rfl (natC G) rfl (by exact size_nat) (by simp only [natC_size]) (natC_one _) ?_
  simp only [Act.put]
  refine mx_end ?_
  intro vw2 hkw hrw hnew hdis
  have n5 := hnew 3 rfl
  have zr5 : Row vw2 (p 3) (natC G) 24 := hrw 7 (24, natC G) rfl
  replace r2 := hkw.row r2 (by simp <;> omega)
  replace r3 := hkw.row r3 (by simp <;> omega)
  replace sb := sb.trans (hkw.below w.heap.size sb.size (by simp <;> omega))
  clear hkw hrw hnew hdis n5
  generalize p 3 = g5 at *
  have r5 := zr5
  clear zr5
  (repeat ((fail_if_success (with_reducible show Code.wp _ (Code.region _ _ _) _ _ _)); go_step))
  apply wp_region_mixq [] [_, _, _, _, _, _, _, _, _] trivial List.nodup_nil rfl
  intro p
  refine mx_load 24 _ rfl _ rfl r2 (by simp <;> omega) 4 _ Try.underlying24 size_nat ?_
  simp only [Act.put, List.setIfInBounds_toArray, List.set_cons_zero, List.set_cons_succ]
  refine mx_load 24 _ rfl _ rfl r3 (by simp <;> omega) 4 _ Try.underlying24 size_nat ?_
  simp only [Act.put, List.setIfInBounds_toArray, List.set_cons_zero, List.set_cons_succ]
  refine mx_call 25 _ _ rfl Try.func25 (by kernel_rfl) #[.agg (natC A), .agg (natC M)] rfl _ hi ?_
  simp only [Act.put, List.setIfInBounds_toArray, List.set_cons_zero, List.set_cons_succ]
  refine mx_move rfl rfl ?_
  simp only [Act.put, List.setIfInBounds_toArray, List.set_cons_zero, List.set_cons_succ]
  refine mx_ext rfl rfl rfl ?_
  simp only [Act.put, List.setIfInBounds_toArray, List.set_cons_zero, List.set_cons_succ]
  refine mx_ext rfl rfl rfl ?_
  simp only [Act.put, List.setIfInBounds_toArray, List.set_cons_zero, List.set_cons_succ]
  refine mx_new 24 rfl _ zero_nat ?_
  simp only [Act.put, List.setIfInBounds_toArray, List.set_cons_zero, List.set_cons_succ]
  refine mx_put 13 24 _ _ rfl rfl rfl (natC 0) rfl (by exact size_nat) (by simp only [natC_size]) (natC_one _) ?_
  simp only [Act.put]
  refine mx_asg rfl rfl ?_
  simp only [Act.put, List.setIfInBounds_toArray, List.set_cons_zero, List.set_cons_succ]
  refine mx_end ?_
  intro vw3 hkw hrw hnew hdis
  have n6 := hnew 6 rfl
  have zr6 : Row vw3 (p 6) (natC 0) 24 := hrw 13 (24, natC 0) rfl
  replace r2 := hkw.row r2 (by simp <;> omega)
  replace r3 := hkw.row r3 (by simp <;> omega)
  replace r5 := hkw.row r5 (by simp <;> omega)
  replace sb := sb.trans (hkw.below w.heap.size sb.size (by simp <;> omega))
  clear hkw hrw hnew hdis n6
  generalize p 6 = g6 at *
  have r6 := zr6
  clear zr6
  (repeat ((fail_if_success (with_reducible show Code.wp _ (Code.region _ _ _) _ _ _)); go_step))
  refine wp_region_qw (by kernel_rfl) (by kernel_rfl) ?_
  refine qw_load (by rfl) 24 _ rfl _ rfl r5 4 _ Try.underlying24 size_nat ?_
  simp only [Act.put, List.setIfInBounds_toArray, List.set_cons_zero, List.set_cons_succ]
  refine qw_load (by rfl) 24 _ rfl _ rfl r2 4 _ Try.underlying24 size_nat ?_
  simp only [Act.put, List.setIfInBounds_toArray, List.set_cons_zero, List.set_cons_succ]
  refine qw_load (by rfl) 24 _ rfl _ rfl r3 4 _ Try.underlying24 size_nat ?_
  simp only [Act.put, List.setIfInBounds_toArray, List.set_cons_zero, List.set_cons_succ]
  refine qw_call (by rfl) 26 _ _ rfl Try.func26 (by kernel_rfl) #[.agg (natC A), .agg (natC M)] rfl _ hg2 ?_
  simp only [Act.put, List.setIfInBounds_toArray, List.set_cons_zero, List.set_cons_succ]
  refine qw_value (by rfl) (.bool false) (fun w' => (exec_neq_nat _ _ _ rfl G G rfl rfl w').trans (by rw [decide_eq_true rfl]; rfl)) ?_
  simp only [Act.put, List.setIfInBounds_toArray, List.set_cons_zero, List.set_cons_succ]
  refine qw_nil ?_
  intro vw4 hqb
  clear r2
  replace r3 := r3.belowAll hqb
  replace r5 := r5.belowAll hqb
  replace r6 := r6.belowAll hqb
  replace sb := below_on sb (Nat.le_refl _) hqb
  clear hqb
  (repeat ((fail_if_success (with_reducible show Code.wp _ (Code.region _ _ _) _ _ _)); go_step))
  refine wp_region_qw (by kernel_rfl) (by kernel_rfl) ?_
  refine qw_load (by rfl) 24 _ rfl _ rfl r3 4 _ Try.underlying24 size_nat ?_
  simp only [Act.put, List.setIfInBounds_toArray, List.set_cons_zero, List.set_cons_succ]
  refine qw_call (by rfl) 27 _ _ rfl Try.func27 (by kernel_rfl) #[.int .i64 2] rfl _ o2 ?_
  simp only [Act.put, List.setIfInBounds_toArray, List.set_cons_zero, List.set_cons_succ]
  refine qw_call (by rfl) 17 _ _ rfl Try.func17 (by kernel_rfl) #[.agg (natC M), .agg (natC 2)] rfl _ hc ?_
  simp only [Act.put, List.setIfInBounds_toArray, List.set_cons_zero, List.set_cons_succ]
  refine qw_value (by rfl) (.bool false) (fun w' => (exec_lss_i _ _ _ _ rfl z 0 rfl rfl w').trans (by rw [hz])) ?_
  simp only [Act.put, List.setIfInBounds_toArray, List.set_cons_zero, List.set_cons_succ]
  refine qw_nil ?_
  intro vw5 hqb
  clear r3
  replace r5 := r5.belowAll hqb
  replace r6 := r6.belowAll hqb
  replace sb := below_on sb (Nat.le_refl _) hqb
  clear hqb
  (repeat ((fail_if_success (with_reducible show Code.wp _ (Code.region _ _ _) _ _ _)); go_step))
  refine wp_region_qw (by kernel_rfl) (by kernel_rfl) ?_
  refine qw_load (by rfl) 24 _ rfl _ rfl r5 4 _ Try.underlying24 size_nat ?_
  simp only [Act.put, List.setIfInBounds_toArray, List.set_cons_zero, List.set_cons_succ]
  refine qw_call (by rfl) 27 _ _ rfl Try.func27 (by kernel_rfl) #[.int .i64 1] rfl _ o1 ?_
  simp only [Act.put, List.setIfInBounds_toArray, List.set_cons_zero, List.set_cons_succ]
  refine qw_value (by rfl) (.bool true) (fun w' => (exec_neq_nat _ _ _ rfl G 1 rfl rfl w').trans (by rw [hG])) ?_
  simp only [Act.put, List.setIfInBounds_toArray, List.set_cons_zero, List.set_cons_succ]
  refine qw_nil ?_
  intro vw6 hqb
  clear r5
  replace r6 := r6.belowAll hqb
  replace sb := below_on sb (Nat.le_refl _) hqb
  clear hqb
  (repeat ((fail_if_success (with_reducible show Code.wp _ (Code.region _ _ _) _ _ _)); go_step))
  refine wp_region_qp ?_
  refine qw_load (by rfl) 24 _ rfl _ rfl r6 4 _ Try.underlying24 size_nat ?_
  simp only [Act.put, List.setIfInBounds_toArray, List.set_cons_zero, List.set_cons_succ]
  refine qw_value (by rfl) (.agg (natC 0)) (exec_build0 24 rfl _ built_nat) ?_
  simp only [Act.put, List.setIfInBounds_toArray, List.set_cons_zero, List.set_cons_succ]
  refine qw_value (by rfl) (.bool true) (fun w' => (exec_eql_nat _ _ _ rfl 0 0 rfl rfl w').trans (by rw [decide_eq_true rfl])) ?_
  simp only [Act.put, List.setIfInBounds_toArray, List.set_cons_zero, List.set_cons_succ]
  refine qw_move (by rfl) rfl rfl ?_
  simp only [Act.put, List.setIfInBounds_toArray, List.set_cons_zero, List.set_cons_succ]
  refine qw_move (by rfl) rfl rfl ?_
  simp only [Act.put, List.setIfInBounds_toArray, List.set_cons_zero, List.set_cons_succ]
  refine qw_value (by rfl) (.bool true) (exec_eql_int _ _ _ _ rfl _ _ rfl rfl) ?_
  simp only [Act.put, List.setIfInBounds_toArray, List.set_cons_zero, List.set_cons_succ]
  refine qw_pick true (v := .bool true) (by rfl) rfl rfl rfl ?_
  simp only [Act.put, List.setIfInBounds_toArray, List.set_cons_zero, List.set_cons_succ]
  refine qw_move (by rfl) rfl rfl ?_
  simp only [Act.put, List.setIfInBounds_toArray, List.set_cons_zero, List.set_cons_succ]
  refine qw_call (by rfl) 13 _ _ rfl Try.func13 (by kernel_rfl) #[] rfl _ haw ?_
  simp only [Act.put, List.setIfInBounds_toArray, List.set_cons_zero, List.set_cons_succ]
  refine qw_pick true (v := .bool true) (by rfl) rfl rfl rfl ?_
  simp only [Act.put, List.setIfInBounds_toArray, List.set_cons_zero, List.set_cons_succ]
  refine qw_asg (by rfl) rfl rfl ?_
  simp only [Act.put, List.setIfInBounds_toArray, List.set_cons_zero, List.set_cons_succ]
  refine qw_nil ?_
  intro vw7 hqb
  clear r6
  replace sb := below_on sb (Nat.le_refl _) hqb
  clear hqb
  -- the rows that stand: 
  go_wp2
  go_ret
  exact ⟨rfl, sb⟩

set_option maxRecDepth 100000 in
set_option maxHeartbeats 4000000 in
theorem core2 (A M X : Nat) (z : Int) (w : World) (hz : decide (z < 0) = false)
    (hg : ∀ w', Calls Try.prog 24 #[.agg (natC A), .agg (natC M)] w' fun e w2 => e = .returned (.agg (natC 1)) ∧ Below w'.heap.size w' w2)
    (hi : ∀ w', Calls Try.prog 25 #[.agg (natC A), .agg (natC M)] w' fun e w2 => e = .returned (.tuple #[.agg (natC X), .int .i64 0]) ∧ Below w'.heap.size w' w2)
    (hg2 : ∀ w', Calls Try.prog 26 #[.agg (natC A), .agg (natC M)] w' fun e w2 => e = .returned (.agg (natC 1)) ∧ Below w'.heap.size w' w2)
    (hc : ∀ w', Calls Try.prog 17 #[.agg (natC M), .agg (natC 2)] w' fun e w2 => e = .returned (.int .i64 z) ∧ Below w'.heap.size w' w2)
    (hv : ∀ w', Calls Try.prog 28 #[.agg (natC X), .agg (natC A), .agg (natC M)] w' fun e w2 => e = .returned (.bool true) ∧ Below w'.heap.size w' w2) :
    Calls Try.prog 6 #[.agg (natC A), .agg (natC M)] w fun e w' => e = .returned (.bool true) ∧ Below w.heap.size w w' := by
  have haw := awake2_any
  have o2 := fun w' => of2_any 2 w' (by decide)
  have o1 := fun w' => of2_any 1 w' (by decide)
  go_enter Try.func6, Try.ntmps6
  (repeat ((fail_if_success (with_reducible show Code.wp _ (Code.region _ _ _) _ _ _)); go_step))
  apply wp_region_mixq [] [_, _, _] trivial List.nodup_nil rfl
  intro p
  refine mx_box 24 _ rfl _ rfl ?_
  simp only [Act.put, List.setIfInBounds_toArray, List.set_cons_zero, List.set_cons_succ]
  refine mx_box 24 _ rfl _ rfl ?_
  simp only [Act.put, List.setIfInBounds_toArray, List.set_cons_zero, List.set_cons_succ]
  refine mx_val (.bool false) (fun _ => rfl) ?_
  simp only [Act.put, List.setIfInBounds_toArray, List.set_cons_zero, List.set_cons_succ]
  refine mx_end ?_
  intro vw1 hkw hrw hnew hdis
  have n2 := hnew 0 rfl
  have n3 := hnew 1 rfl
  have zr2 : Row vw1 (p 0) (natC A) 24 := hrw 1 (24, natC A) rfl
  have zr3 : Row vw1 (p 1) (natC M) 24 := hrw 3 (24, natC M) rfl
  have sb := hkw.below w.heap.size (Nat.le_refl _) (by simp)
  clear hkw hrw hnew hdis n2 n3
  generalize p 0 = g2 at *
  generalize p 1 = g3 at *
  have r2 := zr2
  clear zr2
  have r3 := zr3
  clear zr3
  (repeat ((fail_if_success (with_reducible show Code.wp _ (Code.region _ _ _) _ _ _)); go_step))
  apply wp_region_mixq [] [_, _, _, _, _] trivial List.nodup_nil rfl
  intro p
  refine mx_load 24 _ rfl _ rfl r2 (by simp <;> omega) 4 _ Try.underlying24 size_nat ?_
  simp only [Act.put, List.setIfInBounds_toArray, List.set_cons_zero, List.set_cons_succ]
  refine mx_load 24 _ rfl _ rfl r3 (by simp <;> omega) 4 _ Try.underlying24 size_nat ?_
  simp only [Act.put, List.setIfInBounds_toArray, List.set_cons_zero, List.set_cons_succ]
  refine mx_call 24 _ _ rfl Try.func24 (by kernel_rfl) #[.agg (natC A), .agg (natC M)] rfl _ hg ?_
  simp only [Act.put, List.setIfInBounds_toArray, List.set_cons_zero, List.set_cons_succ]
  refine mx_new 24 rfl _ zero_nat ?_
  simp only [Act.put, List.setIfInBounds_toArray, List.set_cons_zero, List.set_cons_succ]
  refine mx_put 7 24 _ _ rfl rfl rfl (natC 1) rfl (by exact size_nat) (by simp only [natC_size]) (natC_one _) ?_
  simp only [Act.put]
  refine mx_end ?_
  intro vw2 hkw hrw hnew hdis
  have n5 := hnew 3 rfl
  have zr5 : Row vw2 (p 3) (natC 1) 24 := hrw 7 (24, natC 1) rfl
  replace r2 := hkw.row r2 (by simp <;> omega)
  replace r3 := hkw.row r3 (by simp <;> omega)
  replace sb := sb.trans (hkw.below w.heap.size sb.size (by simp <;> omega))
  clear hkw hrw hnew hdis n5
  generalize p 3 = g5 at *
  have r5 := zr5
  clear zr5
  (repeat ((fail_if_success (with_reducible show Code.wp _ (Code.region _ _ _) _ _ _)); go_step))
  apply wp_region_mixq [] [_, _, _, _, _, _, _, _, _] trivial List.nodup_nil rfl
  intro p
  refine mx_load 24 _ rfl _ rfl r2 (by simp <;> omega) 4 _ Try.underlying24 size_nat ?_
  simp only [Act.put, List.setIfInBounds_toArray, List.set_cons_zero, List.set_cons_succ]
  refine mx_load 24 _ rfl _ rfl r3 (by simp <;> omega) 4 _ Try.underlying24 size_nat ?_
  simp only [Act.put, List.setIfInBounds_toArray, List.set_cons_zero, List.set_cons_succ]
  refine mx_call 25 _ _ rfl Try.func25 (by kernel_rfl) #[.agg (natC A), .agg (natC M)] rfl _ hi ?_
  simp only [Act.put, List.setIfInBounds_toArray, List.set_cons_zero, List.set_cons_succ]
  refine mx_move rfl rfl ?_
  simp only [Act.put, List.setIfInBounds_toArray, List.set_cons_zero, List.set_cons_succ]
  refine mx_ext rfl rfl rfl ?_
  simp only [Act.put, List.setIfInBounds_toArray, List.set_cons_zero, List.set_cons_succ]
  refine mx_ext rfl rfl rfl ?_
  simp only [Act.put, List.setIfInBounds_toArray, List.set_cons_zero, List.set_cons_succ]
  refine mx_new 24 rfl _ zero_nat ?_
  simp only [Act.put, List.setIfInBounds_toArray, List.set_cons_zero, List.set_cons_succ]
  refine mx_put 13 24 _ _ rfl rfl rfl (natC X) rfl (by exact size_nat) (by simp only [natC_size]) (natC_one _) ?_
  simp only [Act.put]
  refine mx_asg rfl rfl ?_
  simp only [Act.put, List.setIfInBounds_toArray, List.set_cons_zero, List.set_cons_succ]
  refine mx_end ?_
  intro vw3 hkw hrw hnew hdis
  have n6 := hnew 6 rfl
  have zr6 : Row vw3 (p 6) (natC X) 24 := hrw 13 (24, natC X) rfl
  replace r2 := hkw.row r2 (by simp <;> omega)
  replace r3 := hkw.row r3 (by simp <;> omega)
  replace r5 := hkw.row r5 (by simp <;> omega)
  replace sb := sb.trans (hkw.below w.heap.size sb.size (by simp <;> omega))
  clear hkw hrw hnew hdis n6
  generalize p 6 = g6 at *
  have r6 := zr6
  clear zr6
  (repeat ((fail_if_success (with_reducible show Code.wp _ (Code.region _ _ _) _ _ _)); go_step))
  refine wp_region_qw (by kernel_rfl) (by kernel_rfl) ?_
  refine qw_load (by rfl) 24 _ rfl _ rfl r5 4 _ Try.underlying24 size_nat ?_
  simp only [Act.put, List.setIfInBounds_toArray, List.set_cons_zero, List.set_cons_succ]
  refine qw_load (by rfl) 24 _ rfl _ rfl r2 4 _ Try.underlying24 size_nat ?_
  simp only [Act.put, List.setIfInBounds_toArray, List.set_cons_zero, List.set_cons_succ]
  refine qw_load (by rfl) 24 _ rfl _ rfl r3 4 _ Try.underlying24 size_nat ?_
  simp only [Act.put, List.setIfInBounds_toArray, List.set_cons_zero, List.set_cons_succ]
  refine qw_call (by rfl) 26 _ _ rfl Try.func26 (by kernel_rfl) #[.agg (natC A), .agg (natC M)] rfl _ hg2 ?_
  simp only [Act.put, List.setIfInBounds_toArray, List.set_cons_zero, List.set_cons_succ]
  refine qw_value (by rfl) (.bool false) (fun w' => (exec_neq_nat _ _ _ rfl 1 1 rfl rfl w').trans (by rw [decide_eq_true rfl]; rfl)) ?_
  simp only [Act.put, List.setIfInBounds_toArray, List.set_cons_zero, List.set_cons_succ]
  refine qw_nil ?_
  intro vw4 hqb
  replace r2 := r2.belowAll hqb
  replace r3 := r3.belowAll hqb
  replace r5 := r5.belowAll hqb
  replace r6 := r6.belowAll hqb
  replace sb := below_on sb (Nat.le_refl _) hqb
  clear hqb
  (repeat ((fail_if_success (with_reducible show Code.wp _ (Code.region _ _ _) _ _ _)); go_step))
  refine wp_region_qw (by kernel_rfl) (by kernel_rfl) ?_
  refine qw_load (by rfl) 24 _ rfl _ rfl r3 4 _ Try.underlying24 size_nat ?_
  simp only [Act.put, List.setIfInBounds_toArray, List.set_cons_zero, List.set_cons_succ]
  refine qw_call (by rfl) 27 _ _ rfl Try.func27 (by kernel_rfl) #[.int .i64 2] rfl _ o2 ?_
  simp only [Act.put, List.setIfInBounds_toArray, List.set_cons_zero, List.set_cons_succ]
  refine qw_call (by rfl) 17 _ _ rfl Try.func17 (by kernel_rfl) #[.agg (natC M), .agg (natC 2)] rfl _ hc ?_
  simp only [Act.put, List.setIfInBounds_toArray, List.set_cons_zero, List.set_cons_succ]
  refine qw_value (by rfl) (.bool false) (fun w' => (exec_lss_i _ _ _ _ rfl z 0 rfl rfl w').trans (by rw [hz])) ?_
  simp only [Act.put, List.setIfInBounds_toArray, List.set_cons_zero, List.set_cons_succ]
  refine qw_nil ?_
  intro vw5 hqb
  replace r2 := r2.belowAll hqb
  replace r3 := r3.belowAll hqb
  replace r5 := r5.belowAll hqb
  replace r6 := r6.belowAll hqb
  replace sb := below_on sb (Nat.le_refl _) hqb
  clear hqb
  (repeat ((fail_if_success (with_reducible show Code.wp _ (Code.region _ _ _) _ _ _)); go_step))
  refine wp_region_qw (by kernel_rfl) (by kernel_rfl) ?_
  refine qw_load (by rfl) 24 _ rfl _ rfl r5 4 _ Try.underlying24 size_nat ?_
  simp only [Act.put, List.setIfInBounds_toArray, List.set_cons_zero, List.set_cons_succ]
  refine qw_call (by rfl) 27 _ _ rfl Try.func27 (by kernel_rfl) #[.int .i64 1] rfl _ o1 ?_
  simp only [Act.put, List.setIfInBounds_toArray, List.set_cons_zero, List.set_cons_succ]
  refine qw_value (by rfl) (.bool false) (fun w' => (exec_neq_nat _ _ _ rfl 1 1 rfl rfl w').trans (by rw [decide_eq_true rfl]; rfl)) ?_
  simp only [Act.put, List.setIfInBounds_toArray, List.set_cons_zero, List.set_cons_succ]
  refine qw_nil ?_
  intro vw6 hqb
  replace r2 := r2.belowAll hqb
  replace r3 := r3.belowAll hqb
  clear r5
  replace r6 := r6.belowAll hqb
  replace sb := below_on sb (Nat.le_refl _) hqb
  clear hqb
  (repeat ((fail_if_success (with_reducible show Code.wp _ (Code.region _ _ _) _ _ _)); go_step))
  refine wp_region_qp ?_
  refine qw_move (by rfl) rfl rfl ?_
  simp only [Act.put, List.setIfInBounds_toArray, List.set_cons_zero, List.set_cons_succ]
  refine qw_value (by rfl) (.bool true) (exec_eql_int _ _ _ _ rfl _ _ rfl rfl) ?_
  simp only [Act.put, List.setIfInBounds_toArray, List.set_cons_zero, List.set_cons_succ]
  refine qw_move (by rfl) rfl rfl ?_
  simp only [Act.put, List.setIfInBounds_toArray, List.set_cons_zero, List.set_cons_succ]
  refine qw_load (by rfl) 24 _ rfl _ rfl r6 4 _ Try.underlying24 size_nat ?_
  simp only [Act.put, List.setIfInBounds_toArray, List.set_cons_zero, List.set_cons_succ]
  refine qw_load (by rfl) 24 _ rfl _ rfl r2 4 _ Try.underlying24 size_nat ?_
  simp only [Act.put, List.setIfInBounds_toArray, List.set_cons_zero, List.set_cons_succ]
  refine qw_load (by rfl) 24 _ rfl _ rfl r3 4 _ Try.underlying24 size_nat ?_
  simp only [Act.put, List.setIfInBounds_toArray, List.set_cons_zero, List.set_cons_succ]
  refine qw_call (by rfl) 28 _ _ rfl Try.func28 (by kernel_rfl) #[.agg (natC X), .agg (natC A), .agg (natC M)] rfl _ hv ?_
  simp only [Act.put, List.setIfInBounds_toArray, List.set_cons_zero, List.set_cons_succ]
  refine qw_pick true (v := .bool true) (by rfl) rfl rfl rfl ?_
  simp only [Act.put, List.setIfInBounds_toArray, List.set_cons_zero, List.set_cons_succ]
  refine qw_move (by rfl) rfl rfl ?_
  simp only [Act.put, List.setIfInBounds_toArray, List.set_cons_zero, List.set_cons_succ]
  refine qw_call (by rfl) 13 _ _ rfl Try.func13 (by kernel_rfl) #[] rfl _ haw ?_
  simp only [Act.put, List.setIfInBounds_toArray, List.set_cons_zero, List.set_cons_succ]
  refine qw_pick true (v := .bool true) (by rfl) rfl rfl rfl ?_
  simp only [Act.put, List.setIfInBounds_toArray, List.set_cons_zero, List.set_cons_succ]
  refine qw_asg (by rfl) rfl rfl ?_
  simp only [Act.put, List.setIfInBounds_toArray, List.set_cons_zero, List.set_cons_succ]
  refine qw_nil ?_
  intro vw7 hqb
  clear r2
  clear r3
  clear r6
  replace sb := below_on sb (Nat.le_refl _) hqb
  clear hqb
  -- the rows that stand: 
  go_wp2
  go_ret
  exact ⟨rfl, sb⟩
theorem walk (A M : Nat) (w : World) (hA : A < 2 ^ 256) (hM : M < 2 ^ 256) :
    Calls Try.prog 6 #[.agg (natC A), .agg (natC M)] w fun e w' => e = .returned (.bool true) ∧ Below w.heap.size w w' := by
  have hg := fun w' => wgcd_any A M w' hA hM
  have hg2 := fun w' => rgcd_any A M w' hA hM
  have hi := fun w' => winv_any A M w' hA hM
  have hc := fun w' => rcmp_any M 2 w' hM (by decide)
  by_cases h2 : M < 2
  · rw [show cmpI M 2 = -1 by unfold cmpI; rw [if_pos h2]] at hc
    rw [show invZ A M = 0 by unfold invZ; rw [if_pos h2], show errV A M = 1 by unfold errV; rw [if_pos h2]] at hi
    exact core0 A M _ w hg hi hg2 hc
  · have hz : decide (cmpI M 2 < 0) = false := by
      unfold cmpI
      rw [if_neg h2]
      split <;> rfl
    by_cases h1 : Nat.gcd A M = 1
    · rw [h1] at hg hg2
      rw [show errV A M = 0 by unfold errV; rw [if_neg h2, if_pos h1]] at hi
      obtain ⟨hlt, hone⟩ := inv_is A M (by omega) h1
      refine core2 A M (invZ A M) _ w hz hg hi hg2 hc fun w' => rinv_core (invZ A M) A M w' hlt hM fun w'' => ?_
      have hmu := rmulmod_any (invZ A M) A M w'' (by omega) hA hM
      rw [show modZ (invZ A M * A) M = 1 by unfold modZ; rw [if_neg (by omega), hone], show errI M = 0 by unfold errI; rw [if_neg (by omega)]] at hmu
      exact hmu
    · rw [show invZ A M = 0 by unfold invZ; rw [if_neg h2, if_neg h1], show errV A M = 3 by unfold errV; rw [if_neg h2, if_neg h1]] at hi
      have hgl : Nat.gcd A M ≤ M := Nat.gcd_le_right _ (by omega)
      exact core1 A M _ _ w hz (neq_true h1 (by omega) (by decide)) hg hi hg2 hc

set_option maxRecDepth 100000 in
theorem lifted (os : Os) (started : os.Started) (H : Type) (enc : TypeId × Value → H) :
    ReturnsInHanded {} Try.checked os 6 .any (Rows.wideInversesSpec.pre6 enc Try.prog Try.f6 Rows.wideInversesRow.domain false) (Rows.wideInversesSpec.post enc Try.prog Try.f6 false true false false) := by
  refine returnsInHanded_of_change (C := Try.checked) own started (by kernel_rfl) Try.func6
    (ChangeSpec.witness6 (enc := enc) (C := Try.checked) false ⟨#[], #[.agg #[.int .u64 0, .int .u64 0, .int .u64 0, .int .u64 0], .agg #[.int .u64 0, .int .u64 0, .int .u64 0, .int .u64 0]], []⟩ 8 (by kernel_rfl) (by kernel_rfl) (by kernel_rfl) (by kernel_rfl)) ?_
  intro W base args ds gs before hval0 hW hcnd _
  have hval : ∀ (j : Nat) t v, Try.f6.params[j]? = some t → args[j]? = some v → Value.okWide Try.prog W .any base t v := hval0
  have hW' := hW
  obtain ⟨p, q, hA0, hV, rfl, hfz, hnd⟩ := hW
  have hA : DataW.TrodAll enc Try.prog W 0 (fun _ => true) true Try.f6.params.toList args.toList ds p := hA0
  rw [Try.params6] at hA hval
  obtain ⟨v0, vs0, d0, ds0, p0, q0, hargs, rfl, rfl, h0, r0⟩ := trodAll_cons hA
  obtain ⟨v1, vs1, d1, ds1, p1, q1, rfl, rfl, rfl, h1, r1⟩ := trodAll_cons r0
  obtain ⟨rfl, rfl, rfl⟩ := trodAll_nil r1
  obtain rfl : args = #[v0, v1] := by cases args; simp_all
  obtain ⟨rfl, rfl⟩ := trodVars_none hV
  have k0 := h0
  have lt0 := lt_of_trod h0
  obtain ⟨N0, hN0, rfl⟩ := open_nat (hval 0 24 v0 rfl rfl) h0
  have k1 := h1
  have lt1 := lt_of_trod h1
  obtain ⟨N1, hN1, rfl⟩ := open_nat (hval 1 24 v1 rfl rfl) h1
  clear hA0 hval0
  refine (walk N0 N1 W hN0 hN1).mono fun e W' ⟨he, bel⟩ => ?_
  subst he
  exact ⟨_, rfl, _, _, _, [], _, [], hW', trodAll_mk1 (shut_bool Try.underlying4 _), (trodAll_cons_mk (Below.trod laidOut (by kernel_rfl) (of_decide_eq_true (by kernel_rfl)) k0 bel lt0) (trodAll_cons_mk (Below.trod laidOut (by kernel_rfl) (of_decide_eq_true (by kernel_rfl)) k1 bel lt1) trodAll_mk0)), rfl, bel.frame _, fun h => by cases h⟩

theorem over : Rows.wideInversesRow.holds Try.pinned (OpenSpec.ofChange Rows.wideInversesSpec) :=
  OpenClaim.holds_of_wide 6 Try.f6 rfl rfl rfl rfl rfl rfl rfl ⟨rfl, rfl, rfl, rfl, rfl⟩ rfl rfl rfl rfl rfl (by kernel_rfl) Try.func6 (by kernel_rfl)
    (of_decide_eq_true (by kernel_rfl)) (by unfold Func.isWrapper; first | (rw [if_pos (by decide +kernel)]; kernel_rfl) | (rw [if_neg (by decide +kernel)]; exact ⟨rfl, rfl⟩))
    (fun os started H enc _ => lifted os started H enc)

end wideInversesP

/-- for every two naturals the greatest natural that goes into both is the document's, and the program tells the inverse of the one by the other one just if there is one; no condition. -/
theorem wideInverses_holds : Rows.WideInversesSaid := wideInversesP.over
end Go.Proofs.Ytmmjjohnejimdaa
