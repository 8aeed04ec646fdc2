/- MontMuls: for every three naturals: a ring below the third there is just if it is odd and not 1; the product, whether the first is in it, and its form, there and back, are the document's; no condition. -/
import Derived.Test.YtmmjjohnejimdaaOpen
namespace Go.Proofs.Ytmmjjohnejimdaa
open Go.ChangeShapes Go.WideShapes Go.ChangeAt Go.RowKit
namespace montMulsP

set_option maxRecDepth 100000 in
set_option maxHeartbeats 4000000 in
theorem core0 (A B M : Nat) (w : World)
    (hnew : ∀ w', Calls Try.prog 29 #[.agg (natC M)] w' fun e w2 => e = .returned (.tuple #[.pointer none, .int .i64 1]) ∧ Below w'.heap.size w' w2)
    (hmay : ∀ w', Calls Try.prog 30 #[.agg (natC M)] w' fun e w2 => e = .returned (.bool false) ∧ Below w'.heap.size w' w2) :
    Calls Try.prog 8 #[.agg (natC A), .agg (natC B), .agg (natC M)] w fun e w' => e = .returned (.bool true) ∧ Below w.heap.size w w' := by
  have haw := awake3_any
  go_enter Try.func8, Try.ntmps8
  (repeat ((fail_if_success (with_reducible show Code.wp _ (Code.region _ _ _) _ _ _)); go_step))
  apply wp_region_mixp [] [_, _, _, _] trivial List.nodup_nil
  · intro p
    refine mx_box 24 _ rfl _ rfl ?_
    simp only [Act.put, List.setIfInBounds_toArray, List.set_cons_zero, List.set_cons_succ]
    refine mx_box 24 _ rfl _ rfl ?_
    simp only [Act.put, List.setIfInBounds_toArray, List.set_cons_zero, List.set_cons_succ]
    refine mx_box 24 _ rfl _ rfl ?_
    simp only [Act.put, List.setIfInBounds_toArray, List.set_cons_zero, List.set_cons_succ]
    refine mx_val (.bool false) (fun _ => rfl) ?_
    simp only [Act.put, List.setIfInBounds_toArray, List.set_cons_zero, List.set_cons_succ]
    refine mx_end ?_
    intro w2 hkw hrw hnew hdis
    have n3 := hnew 0 rfl
    have n4 := hnew 1 rfl
    have n5 := hnew 2 rfl
    have zr3 : Row w2 (p 0) (natC A) 24 := hrw 1 (24, natC A) rfl
    have zr4 : Row w2 (p 1) (natC B) 24 := hrw 3 (24, natC B) rfl
    have zr5 : Row w2 (p 2) (natC M) 24 := hrw 5 (24, natC M) rfl
    have d3x4 := hdis 0 1 (by omega) rfl rfl
    have d3x5 := hdis 0 2 (by omega) rfl rfl
    have d4x5 := hdis 1 2 (by omega) rfl rfl
    have sb := hkw.below w.heap.size (Nat.le_refl _) (by simp)
    have b3 : w.heap.size ≤ p 0 := n3
    have b4 : w.heap.size ≤ p 1 := n4
    have b5 : w.heap.size ≤ p 2 := n5
    clear hkw hrw hnew hdis n3 n4 n5
    generalize p 0 = g3 at *
    generalize p 1 = g4 at *
    generalize p 2 = g5 at *
    have r3 := zr3
    clear zr3
    have r4 := zr4
    clear zr4
    have r5 := zr5
    clear zr5
    (repeat ((fail_if_success (with_reducible show Code.wp _ (Code.region _ _ _) _ _ _)); go_step))
    apply wp_region_mixp [] [_, _, _, _, _, _, _] trivial List.nodup_nil
    · intro p
      refine mx_load 24 _ rfl _ rfl r5 (by simp <;> omega) 4 _ Try.underlying24 size_nat ?_
      simp only [Act.put, List.setIfInBounds_toArray, List.set_cons_zero, List.set_cons_succ]
      refine mx_call 29 _ _ rfl Try.func29 (by kernel_rfl) #[.agg (natC M)] rfl _ hnew ?_
      simp only [Act.put, List.setIfInBounds_toArray, List.set_cons_zero, List.set_cons_succ]
      refine mx_move rfl rfl ?_
      simp only [Act.put, List.setIfInBounds_toArray, List.set_cons_zero, List.set_cons_succ]
      refine mx_ext rfl rfl rfl ?_
      simp only [Act.put, List.setIfInBounds_toArray, List.set_cons_zero, List.set_cons_succ]
      refine mx_ext rfl rfl rfl ?_
      simp only [Act.put, List.setIfInBounds_toArray, List.set_cons_zero, List.set_cons_succ]
      refine mx_asg rfl rfl ?_
      simp only [Act.put, List.setIfInBounds_toArray, List.set_cons_zero, List.set_cons_succ]
      refine mx_asg rfl rfl ?_
      simp only [Act.put, List.setIfInBounds_toArray, List.set_cons_zero, List.set_cons_succ]
      refine mx_end ?_
      intro w3 hkw hrw hnew hdis
      replace r5 := hkw.row r5 (by simp <;> omega)
      replace sb := sb.trans (hkw.below w.heap.size sb.size (by simp <;> omega))
      clear hkw hrw hnew hdis
      (repeat ((fail_if_success (with_reducible show Code.wp _ (Code.region _ _ _) _ _ _)); go_step))
      apply wp_region_mixp [] [_, _, _] trivial List.nodup_nil
      · intro p
        refine mx_load 24 _ rfl _ rfl r5 (by simp <;> omega) 4 _ Try.underlying24 size_nat ?_
        simp only [Act.put, List.setIfInBounds_toArray, List.set_cons_zero, List.set_cons_succ]
        refine mx_call 30 _ _ rfl Try.func30 (by kernel_rfl) #[.agg (natC M)] rfl _ hmay ?_
        simp only [Act.put, List.setIfInBounds_toArray, List.set_cons_zero, List.set_cons_succ]
        refine mx_val (.bool true) (exec_not _ _ rfl false rfl) ?_
        simp only [Act.put, List.setIfInBounds_toArray, List.set_cons_zero, List.set_cons_succ]
        refine mx_end ?_
        intro w4 hkw hrw hnew hdis
        replace sb := sb.trans (hkw.below w.heap.size sb.size (by simp <;> omega))
        clear hkw hrw hnew hdis
        (repeat ((fail_if_success (with_reducible show Code.wp _ (Code.region _ _ _) _ _ _)); go_step))
        refine wp_region_qp ?_
        refine qw_move (by rfl) rfl rfl ?_
        simp only [Act.put, List.setIfInBounds_toArray, List.set_cons_zero, List.set_cons_succ]
        refine qw_value (by rfl) (.bool true) (exec_eql_nilp 41 _ _ _ rfl none rfl rfl ptr_ring) ?_
        simp only [Act.put, List.setIfInBounds_toArray, List.set_cons_zero, List.set_cons_succ]
        refine qw_move (by rfl) rfl rfl ?_
        simp only [Act.put, List.setIfInBounds_toArray, List.set_cons_zero, List.set_cons_succ]
        refine qw_move (by rfl) rfl rfl ?_
        simp only [Act.put, List.setIfInBounds_toArray, List.set_cons_zero, List.set_cons_succ]
        refine qw_value (by rfl) (.bool true) (exec_eql_k .i64 _ _ _ _ rfl 1 1 rfl rfl true rfl) ?_
        simp only [Act.put, List.setIfInBounds_toArray, List.set_cons_zero, List.set_cons_succ]
        refine qw_pick true (v := .bool true) (by rfl) rfl rfl rfl ?_
        simp only [Act.put, List.setIfInBounds_toArray, List.set_cons_zero, List.set_cons_succ]
        refine qw_move (by rfl) rfl rfl ?_
        simp only [Act.put, List.setIfInBounds_toArray, List.set_cons_zero, List.set_cons_succ]
        refine qw_call (by rfl) 31 _ _ rfl Try.func31 (by kernel_rfl) #[] rfl _ haw ?_
        simp only [Act.put, List.setIfInBounds_toArray, List.set_cons_zero, List.set_cons_succ]
        refine qw_pick true (v := .bool true) (by rfl) rfl rfl rfl ?_
        simp only [Act.put, List.setIfInBounds_toArray, List.set_cons_zero, List.set_cons_succ]
        refine qw_asg (by rfl) rfl rfl ?_
        simp only [Act.put, List.setIfInBounds_toArray, List.set_cons_zero, List.set_cons_succ]
        refine qw_nil ?_
        intro w5 hqb
        replace sb := below_on sb (Nat.le_refl _) hqb
        clear hqb
        go_wp2
        go_ret
        exact ⟨rfl, sb⟩
      · rfl
    · rfl
  · rfl
set_option maxRecDepth 100000 in
set_option maxHeartbeats 4000000 in
theorem core1 (A B M P S F Q : Nat) (z : Int) (e1 e2 : Int) (RG : Array Value) (w : World)
    (hnew : ∀ w', Calls Try.prog 29 #[.agg (natC M)] w' fun e w2 => ∃ g, e = .returned (.tuple #[.pointer (some ⟨g, 0, none⟩), .int .i64 0]) ∧ w'.heap.size ≤ g ∧ Row w2 g RG 63 ∧ Below w'.heap.size w' w2)
    (hmay : ∀ w', Calls Try.prog 30 #[.agg (natC M)] w' fun e w2 => e = .returned (.bool true) ∧ Below w'.heap.size w' w2)
    (hmm : ∀ w', Calls Try.prog 23 #[.agg (natC A), .agg (natC B), .agg (natC M)] w' fun e w2 => e = .returned (.tuple #[.agg (natC P), .int .i64 e1]) ∧ Below w'.heap.size w' w2)
    (hrr : ∀ w', Calls Try.prog 12 #[.agg (natC A), .agg (natC 0), .agg (natC M)] w' fun e w2 => e = .returned (.tuple #[.agg (natC S), .int .i64 e2]) ∧ Below w'.heap.size w' w2)
    (hcm : ∀ w', Calls Try.prog 17 #[.agg (natC A), .agg (natC M)] w' fun e w2 => e = .returned (.int .i64 z) ∧ Below w'.heap.size w' w2)
    (hrf : ∀ w', Calls Try.prog 36 #[.agg (natC A), .agg (natC M)] w' fun e w2 => e = .returned (.agg (natC F)) ∧ Below w'.heap.size w' w2)
    (hmul : ∀ g w', Row w' g RG 63 → Calls Try.prog 32 #[.pointer (some ⟨g, 0, none⟩), .agg (natC A), .agg (natC B)] w' fun e w2 => e = .returned (.agg (natC P)) ∧ Below w'.heap.size w' w2)
    (hM : ∀ g w', Row w' g RG 63 → Calls Try.prog 33 #[.pointer (some ⟨g, 0, none⟩)] w' fun e w2 => e = .returned (.agg (natC M)) ∧ Below w'.heap.size w' w2)
    (hin : ∀ g w', Row w' g RG 63 → Calls Try.prog 34 #[.pointer (some ⟨g, 0, none⟩), .agg (natC A)] w' fun e w2 => e = .returned (.bool (decide (z < 0))) ∧ Below w'.heap.size w' w2)
    (hfo : ∀ g w', Row w' g RG 63 → Calls Try.prog 35 #[.pointer (some ⟨g, 0, none⟩), .agg (natC A)] w' fun e w2 => e = .returned (.agg (natC F)) ∧ Below w'.heap.size w' w2)
    (hpf : ∀ g w', Row w' g RG 63 → Calls Try.prog 37 #[.pointer (some ⟨g, 0, none⟩), .agg (natC F)] w' fun e w2 => e = .returned (.agg (natC S)) ∧ Below w'.heap.size w' w2)
    (hpl : ∀ g w', Row w' g RG 63 → Calls Try.prog 37 #[.pointer (some ⟨g, 0, none⟩), .agg (natC A)] w' fun e w2 => e = .returned (.agg (natC Q)) ∧ Below w'.heap.size w' w2)
    (hfp : ∀ g w', Row w' g RG 63 → Calls Try.prog 35 #[.pointer (some ⟨g, 0, none⟩), .agg (natC Q)] w' fun e w2 => e = .returned (.agg (natC S)) ∧ Below w'.heap.size w' w2) :
    Calls Try.prog 8 #[.agg (natC A), .agg (natC B), .agg (natC M)] w fun e w' => e = .returned (.bool true) ∧ Below w.heap.size w w' := by
  have haw := awake3_any
  go_enter Try.func8, Try.ntmps8
  (repeat ((fail_if_success (with_reducible show Code.wp _ (Code.region _ _ _) _ _ _)); go_step))
  apply wp_region_mixp [] [_, _, _, _] trivial List.nodup_nil
  · intro p
    refine mx_box 24 _ rfl _ rfl ?_
    simp only [Act.put, List.setIfInBounds_toArray, List.set_cons_zero, List.set_cons_succ]
    refine mx_box 24 _ rfl _ rfl ?_
    simp only [Act.put, List.setIfInBounds_toArray, List.set_cons_zero, List.set_cons_succ]
    refine mx_box 24 _ rfl _ rfl ?_
    simp only [Act.put, List.setIfInBounds_toArray, List.set_cons_zero, List.set_cons_succ]
    refine mx_val (.bool false) (fun _ => rfl) ?_
    simp only [Act.put, List.setIfInBounds_toArray, List.set_cons_zero, List.set_cons_succ]
    refine mx_end ?_
    intro w2 hkw hrw hnew hdis
    have n3 := hnew 0 rfl
    have n4 := hnew 1 rfl
    have n5 := hnew 2 rfl
    have zr3 : Row w2 (p 0) (natC A) 24 := hrw 1 (24, natC A) rfl
    have zr4 : Row w2 (p 1) (natC B) 24 := hrw 3 (24, natC B) rfl
    have zr5 : Row w2 (p 2) (natC M) 24 := hrw 5 (24, natC M) rfl
    have d3x4 := hdis 0 1 (by omega) rfl rfl
    have d3x5 := hdis 0 2 (by omega) rfl rfl
    have d4x5 := hdis 1 2 (by omega) rfl rfl
    have sb := hkw.below w.heap.size (Nat.le_refl _) (by simp)
    have b3 : w.heap.size ≤ p 0 := n3
    have b4 : w.heap.size ≤ p 1 := n4
    have b5 : w.heap.size ≤ p 2 := n5
    clear hkw hrw hnew hdis n3 n4 n5
    generalize p 0 = g3 at *
    generalize p 1 = g4 at *
    generalize p 2 = g5 at *
    have r3 := zr3
    clear zr3
    have r4 := zr4
    clear zr4
    have r5 := zr5
    clear zr5
    go_wp2_with (first
      | refine wpList_loadR rfl 24 _ rfl _ rfl r5 4 _ Try.underlying24 (by exact size_nat) ?_)
    refine (hnew _).mono ?_
    rintro _ wb ⟨g7, rfl, hg7, r7, bb⟩
    replace r3 := r3.belowAll bb
    replace r4 := r4.belowAll bb
    replace r5 := r5.belowAll bb
    have b7 : w.heap.size ≤ g7 := Nat.le_trans sb.size hg7
    replace sb := below_on sb (Nat.le_refl _) bb
    clear bb hg7 hnew
    dsimp only
    (repeat ((fail_if_success (with_reducible show Code.wp _ (Code.region _ _ _) _ _ _)); go_step))
    apply wp_region_mixp [] [_, _, _] trivial List.nodup_nil
    · intro p
      refine mx_load 24 _ rfl _ rfl r5 (by simp <;> omega) 4 _ Try.underlying24 size_nat ?_
      simp only [Act.put, List.setIfInBounds_toArray, List.set_cons_zero, List.set_cons_succ]
      refine mx_call 30 _ _ rfl Try.func30 (by kernel_rfl) #[.agg (natC M)] rfl _ hmay ?_
      simp only [Act.put, List.setIfInBounds_toArray, List.set_cons_zero, List.set_cons_succ]
      refine mx_val (.bool false) (exec_not _ _ rfl true rfl) ?_
      simp only [Act.put, List.setIfInBounds_toArray, List.set_cons_zero, List.set_cons_succ]
      refine mx_end ?_
      intro w4 hkw hrw hnew hdis
      replace r3 := hkw.row r3 (by simp <;> omega)
      replace r4 := hkw.row r4 (by simp <;> omega)
      replace r5 := hkw.row r5 (by simp <;> omega)
      replace r7 := hkw.row r7 (by simp <;> omega)
      replace sb := sb.trans (hkw.below w.heap.size sb.size (by simp <;> omega))
      clear hkw hrw hnew hdis
      (repeat ((fail_if_success (with_reducible show Code.wp _ (Code.region _ _ _) _ _ _)); go_step))
      refine wp_region_qp ?_
      refine qw_move (by rfl) rfl rfl ?_
      simp only [Act.put, List.setIfInBounds_toArray, List.set_cons_zero, List.set_cons_succ]
      refine qw_value (by rfl) (.bool false) (exec_neq_k .i64 _ _ _ _ rfl 0 0 rfl rfl false rfl) ?_
      simp only [Act.put, List.setIfInBounds_toArray, List.set_cons_zero, List.set_cons_succ]
      refine qw_move (by rfl) rfl rfl ?_
      simp only [Act.put, List.setIfInBounds_toArray, List.set_cons_zero, List.set_cons_succ]
      refine qw_move (by rfl) rfl rfl ?_
      simp only [Act.put, List.setIfInBounds_toArray, List.set_cons_zero, List.set_cons_succ]
      refine qw_value (by rfl) (.bool false) (exec_eql_nilp 41 _ _ _ rfl (some ⟨g7, 0, none⟩) rfl rfl ptr_ring) ?_
      simp only [Act.put, List.setIfInBounds_toArray, List.set_cons_zero, List.set_cons_succ]
      refine qw_pick false (v := .bool false) (by rfl) rfl rfl rfl ?_
      simp only [Act.put, List.setIfInBounds_toArray, List.set_cons_zero, List.set_cons_succ]
      refine qw_nil ?_
      intro w5 hqb
      replace r3 := r3.belowAll hqb
      replace r4 := r4.belowAll hqb
      replace r5 := r5.belowAll hqb
      replace r7 := r7.belowAll hqb
      replace sb := below_on sb (Nat.le_refl _) hqb
      clear hqb
      (repeat ((fail_if_success (with_reducible show Code.wp _ (Code.region _ _ _) _ _ _)); go_step))
      apply wp_region_mixp [] [_, _, _, _, _, _, _, _, _, _] trivial List.nodup_nil
      · intro p
        refine mx_load 24 _ rfl _ rfl r3 (by simp <;> omega) 4 _ Try.underlying24 size_nat ?_
        simp only [Act.put, List.setIfInBounds_toArray, List.set_cons_zero, List.set_cons_succ]
        refine mx_load 24 _ rfl _ rfl r4 (by simp <;> omega) 4 _ Try.underlying24 size_nat ?_
        simp only [Act.put, List.setIfInBounds_toArray, List.set_cons_zero, List.set_cons_succ]
        refine mx_load 24 _ rfl _ rfl r5 (by simp <;> omega) 4 _ Try.underlying24 size_nat ?_
        simp only [Act.put, List.setIfInBounds_toArray, List.set_cons_zero, List.set_cons_succ]
        refine mx_call 23 _ _ rfl Try.func23 (by kernel_rfl) #[.agg (natC A), .agg (natC B), .agg (natC M)] rfl _ hmm ?_
        simp only [Act.put, List.setIfInBounds_toArray, List.set_cons_zero, List.set_cons_succ]
        refine mx_move rfl rfl ?_
        simp only [Act.put, List.setIfInBounds_toArray, List.set_cons_zero, List.set_cons_succ]
        refine mx_ext rfl rfl rfl ?_
        simp only [Act.put, List.setIfInBounds_toArray, List.set_cons_zero, List.set_cons_succ]
        refine mx_ext rfl rfl rfl ?_
        simp only [Act.put, List.setIfInBounds_toArray, List.set_cons_zero, List.set_cons_succ]
        refine mx_new 24 rfl _ zero_nat ?_
        simp only [Act.put, List.setIfInBounds_toArray, List.set_cons_zero, List.set_cons_succ]
        refine mx_put 15 24 _ _ rfl rfl rfl (natC P) rfl (by exact size_nat) (by simp only [natC_size]) (natC_one _) ?_
        simp only [Act.put]
        refine mx_asg rfl rfl ?_
        simp only [Act.put, List.setIfInBounds_toArray, List.set_cons_zero, List.set_cons_succ]
        refine mx_end ?_
        intro w6 hkw hrw hnew hdis
        have n9 := hnew 7 rfl
        have zr9 : Row w6 (p 7) (natC P) 24 := hrw 15 (24, natC P) rfl
        replace r3 := hkw.row r3 (by simp <;> omega)
        replace r4 := hkw.row r4 (by simp <;> omega)
        replace r5 := hkw.row r5 (by simp <;> omega)
        replace r7 := hkw.row r7 (by simp <;> omega)
        replace sb := sb.trans (hkw.below w.heap.size sb.size (by simp <;> omega))
        clear hkw hrw hnew hdis n9
        generalize p 7 = g9 at *
        have r9 := zr9
        clear zr9
        (repeat ((fail_if_success (with_reducible show Code.wp _ (Code.region _ _ _) _ _ _)); go_step))
        apply wp_region_mixp [] [_, _, _, _, _, _, _, _, _, _] trivial List.nodup_nil
        · intro p
          refine mx_load 24 _ rfl _ rfl r3 (by simp <;> omega) 4 _ Try.underlying24 size_nat ?_
          simp only [Act.put, List.setIfInBounds_toArray, List.set_cons_zero, List.set_cons_succ]
          refine mx_val (.agg (natC 0)) (exec_build0 24 rfl _ built_nat) ?_
          simp only [Act.put, List.setIfInBounds_toArray, List.set_cons_zero, List.set_cons_succ]
          refine mx_load 24 _ rfl _ rfl r5 (by simp <;> omega) 4 _ Try.underlying24 size_nat ?_
          simp only [Act.put, List.setIfInBounds_toArray, List.set_cons_zero, List.set_cons_succ]
          refine mx_call 12 _ _ rfl Try.func12 (by kernel_rfl) #[.agg (natC A), .agg (natC 0), .agg (natC M)] rfl _ hrr ?_
          simp only [Act.put, List.setIfInBounds_toArray, List.set_cons_zero, List.set_cons_succ]
          refine mx_move rfl rfl ?_
          simp only [Act.put, List.setIfInBounds_toArray, List.set_cons_zero, List.set_cons_succ]
          refine mx_ext rfl rfl rfl ?_
          simp only [Act.put, List.setIfInBounds_toArray, List.set_cons_zero, List.set_cons_succ]
          refine mx_ext rfl rfl rfl ?_
          simp only [Act.put, List.setIfInBounds_toArray, List.set_cons_zero, List.set_cons_succ]
          refine mx_new 24 rfl _ zero_nat ?_
          simp only [Act.put, List.setIfInBounds_toArray, List.set_cons_zero, List.set_cons_succ]
          refine mx_put 15 24 _ _ rfl rfl rfl (natC S) rfl (by exact size_nat) (by simp only [natC_size]) (natC_one _) ?_
          simp only [Act.put]
          refine mx_asg rfl rfl ?_
          simp only [Act.put, List.setIfInBounds_toArray, List.set_cons_zero, List.set_cons_succ]
          refine mx_end ?_
          intro w7 hkw hrw hnew hdis
          have n11 := hnew 7 rfl
          have zr11 : Row w7 (p 7) (natC S) 24 := hrw 15 (24, natC S) rfl
          replace r3 := hkw.row r3 (by simp <;> omega)
          replace r4 := hkw.row r4 (by simp <;> omega)
          replace r5 := hkw.row r5 (by simp <;> omega)
          replace r7 := hkw.row r7 (by simp <;> omega)
          replace r9 := hkw.row r9 (by simp <;> omega)
          replace sb := sb.trans (hkw.below w.heap.size sb.size (by simp <;> omega))
          clear hkw hrw hnew hdis n11
          generalize p 7 = g11 at *
          have r11 := zr11
          clear zr11
          (repeat ((fail_if_success (with_reducible show Code.wp _ (Code.region _ _ _) _ _ _)); go_step))
          refine wp_region_qw (by kernel_rfl) (by kernel_rfl) ?_
          refine qw_move (by rfl) rfl rfl ?_
          simp only [Act.put, List.setIfInBounds_toArray, List.set_cons_zero, List.set_cons_succ]
          refine qw_load (by rfl) 24 _ rfl _ rfl r3 4 _ Try.underlying24 size_nat ?_
          simp only [Act.put, List.setIfInBounds_toArray, List.set_cons_zero, List.set_cons_succ]
          refine qw_load (by rfl) 24 _ rfl _ rfl r4 4 _ Try.underlying24 size_nat ?_
          simp only [Act.put, List.setIfInBounds_toArray, List.set_cons_zero, List.set_cons_succ]
          refine qw_callK (by rfl) 32 _ _ rfl Try.func32 (by kernel_rfl) #[.pointer (some ⟨g7, 0, none⟩), .agg (natC A), .agg (natC B)] rfl _ (fun w' hb => hmul g7 w' (r7.belowAll hb)) ?_
          simp only [Act.put, List.setIfInBounds_toArray, List.set_cons_zero, List.set_cons_succ]
          refine qw_load (by rfl) 24 _ rfl _ rfl r9 4 _ Try.underlying24 size_nat ?_
          simp only [Act.put, List.setIfInBounds_toArray, List.set_cons_zero, List.set_cons_succ]
          refine qw_value (by rfl) (.bool true) (fun w' => (exec_eql_nat _ _ _ rfl P P rfl rfl w').trans (by rw [decide_eq_true rfl])) ?_
          simp only [Act.put, List.setIfInBounds_toArray, List.set_cons_zero, List.set_cons_succ]
          refine qw_move (by rfl) rfl rfl ?_
          simp only [Act.put, List.setIfInBounds_toArray, List.set_cons_zero, List.set_cons_succ]
          refine qw_move (by rfl) rfl rfl ?_
          simp only [Act.put, List.setIfInBounds_toArray, List.set_cons_zero, List.set_cons_succ]
          refine qw_callK (by rfl) 33 _ _ rfl Try.func33 (by kernel_rfl) #[.pointer (some ⟨g7, 0, none⟩)] rfl _ (fun w' hb => hM g7 w' (r7.belowAll hb)) ?_
          simp only [Act.put, List.setIfInBounds_toArray, List.set_cons_zero, List.set_cons_succ]
          refine qw_load (by rfl) 24 _ rfl _ rfl r5 4 _ Try.underlying24 size_nat ?_
          simp only [Act.put, List.setIfInBounds_toArray, List.set_cons_zero, List.set_cons_succ]
          refine qw_value (by rfl) (.bool true) (fun w' => (exec_eql_nat _ _ _ rfl M M rfl rfl w').trans (by rw [decide_eq_true rfl])) ?_
          simp only [Act.put, List.setIfInBounds_toArray, List.set_cons_zero, List.set_cons_succ]
          refine qw_pick true (v := .bool true) (by rfl) rfl rfl rfl ?_
          simp only [Act.put, List.setIfInBounds_toArray, List.set_cons_zero, List.set_cons_succ]
          refine qw_move (by rfl) rfl rfl ?_
          simp only [Act.put, List.setIfInBounds_toArray, List.set_cons_zero, List.set_cons_succ]
          refine qw_move (by rfl) rfl rfl ?_
          simp only [Act.put, List.setIfInBounds_toArray, List.set_cons_zero, List.set_cons_succ]
          refine qw_load (by rfl) 24 _ rfl _ rfl r3 4 _ Try.underlying24 size_nat ?_
          simp only [Act.put, List.setIfInBounds_toArray, List.set_cons_zero, List.set_cons_succ]
          refine qw_callK (by rfl) 34 _ _ rfl Try.func34 (by kernel_rfl) #[.pointer (some ⟨g7, 0, none⟩), .agg (natC A)] rfl _ (fun w' hb => hin g7 w' (r7.belowAll hb)) ?_
          simp only [Act.put, List.setIfInBounds_toArray, List.set_cons_zero, List.set_cons_succ]
          refine qw_load (by rfl) 24 _ rfl _ rfl r3 4 _ Try.underlying24 size_nat ?_
          simp only [Act.put, List.setIfInBounds_toArray, List.set_cons_zero, List.set_cons_succ]
          refine qw_load (by rfl) 24 _ rfl _ rfl r5 4 _ Try.underlying24 size_nat ?_
          simp only [Act.put, List.setIfInBounds_toArray, List.set_cons_zero, List.set_cons_succ]
          refine qw_call (by rfl) 17 _ _ rfl Try.func17 (by kernel_rfl) #[.agg (natC A), .agg (natC M)] rfl _ hcm ?_
          simp only [Act.put, List.setIfInBounds_toArray, List.set_cons_zero, List.set_cons_succ]
          refine qw_value (by rfl) (.bool (decide (z < 0))) (exec_lt_i _ _ _ _ rfl z 0 rfl rfl) ?_
          simp only [Act.put, List.setIfInBounds_toArray, List.set_cons_zero, List.set_cons_succ]
          refine qw_value (by rfl) (.bool true) (exec_eql_bool _ _ _ _ rfl (decide (z < 0)) rfl rfl Try.underlying4) ?_
          simp only [Act.put, List.setIfInBounds_toArray, List.set_cons_zero, List.set_cons_succ]
          refine qw_pick true (v := .bool true) (by rfl) rfl rfl rfl ?_
          simp only [Act.put, List.setIfInBounds_toArray, List.set_cons_zero, List.set_cons_succ]
          refine qw_move (by rfl) rfl rfl ?_
          simp only [Act.put, List.setIfInBounds_toArray, List.set_cons_zero, List.set_cons_succ]
          refine qw_move (by rfl) rfl rfl ?_
          simp only [Act.put, List.setIfInBounds_toArray, List.set_cons_zero, List.set_cons_succ]
          refine qw_load (by rfl) 24 _ rfl _ rfl r3 4 _ Try.underlying24 size_nat ?_
          simp only [Act.put, List.setIfInBounds_toArray, List.set_cons_zero, List.set_cons_succ]
          refine qw_callK (by rfl) 35 _ _ rfl Try.func35 (by kernel_rfl) #[.pointer (some ⟨g7, 0, none⟩), .agg (natC A)] rfl _ (fun w' hb => hfo g7 w' (r7.belowAll hb)) ?_
          simp only [Act.put, List.setIfInBounds_toArray, List.set_cons_zero, List.set_cons_succ]
          refine qw_load (by rfl) 24 _ rfl _ rfl r3 4 _ Try.underlying24 size_nat ?_
          simp only [Act.put, List.setIfInBounds_toArray, List.set_cons_zero, List.set_cons_succ]
          refine qw_load (by rfl) 24 _ rfl _ rfl r5 4 _ Try.underlying24 size_nat ?_
          simp only [Act.put, List.setIfInBounds_toArray, List.set_cons_zero, List.set_cons_succ]
          refine qw_call (by rfl) 36 _ _ rfl Try.func36 (by kernel_rfl) #[.agg (natC A), .agg (natC M)] rfl _ hrf ?_
          simp only [Act.put, List.setIfInBounds_toArray, List.set_cons_zero, List.set_cons_succ]
          refine qw_value (by rfl) (.bool true) (fun w' => (exec_eql_nat _ _ _ rfl F F rfl rfl w').trans (by rw [decide_eq_true rfl])) ?_
          simp only [Act.put, List.setIfInBounds_toArray, List.set_cons_zero, List.set_cons_succ]
          refine qw_pick true (v := .bool true) (by rfl) rfl rfl rfl ?_
          simp only [Act.put, List.setIfInBounds_toArray, List.set_cons_zero, List.set_cons_succ]
          refine qw_move (by rfl) rfl rfl ?_
          simp only [Act.put, List.setIfInBounds_toArray, List.set_cons_zero, List.set_cons_succ]
          refine qw_move (by rfl) rfl rfl ?_
          simp only [Act.put, List.setIfInBounds_toArray, List.set_cons_zero, List.set_cons_succ]
          refine qw_move (by rfl) rfl rfl ?_
          simp only [Act.put, List.setIfInBounds_toArray, List.set_cons_zero, List.set_cons_succ]
          refine qw_load (by rfl) 24 _ rfl _ rfl r3 4 _ Try.underlying24 size_nat ?_
          simp only [Act.put, List.setIfInBounds_toArray, List.set_cons_zero, List.set_cons_succ]
          refine qw_callK (by rfl) 35 _ _ rfl Try.func35 (by kernel_rfl) #[.pointer (some ⟨g7, 0, none⟩), .agg (natC A)] rfl _ (fun w' hb => hfo g7 w' (r7.belowAll hb)) ?_
          simp only [Act.put, List.setIfInBounds_toArray, List.set_cons_zero, List.set_cons_succ]
          refine qw_callK (by rfl) 37 _ _ rfl Try.func37 (by kernel_rfl) #[.pointer (some ⟨g7, 0, none⟩), .agg (natC F)] rfl _ (fun w' hb => hpf g7 w' (r7.belowAll hb)) ?_
          simp only [Act.put, List.setIfInBounds_toArray, List.set_cons_zero, List.set_cons_succ]
          refine qw_load (by rfl) 24 _ rfl _ rfl r11 4 _ Try.underlying24 size_nat ?_
          simp only [Act.put, List.setIfInBounds_toArray, List.set_cons_zero, List.set_cons_succ]
          refine qw_value (by rfl) (.bool true) (fun w' => (exec_eql_nat _ _ _ rfl S S rfl rfl w').trans (by rw [decide_eq_true rfl])) ?_
          simp only [Act.put, List.setIfInBounds_toArray, List.set_cons_zero, List.set_cons_succ]
          refine qw_pick true (v := .bool true) (by rfl) rfl rfl rfl ?_
          simp only [Act.put, List.setIfInBounds_toArray, List.set_cons_zero, List.set_cons_succ]
          refine qw_move (by rfl) rfl rfl ?_
          simp only [Act.put, List.setIfInBounds_toArray, List.set_cons_zero, List.set_cons_succ]
          refine qw_move (by rfl) rfl rfl ?_
          simp only [Act.put, List.setIfInBounds_toArray, List.set_cons_zero, List.set_cons_succ]
          refine qw_move (by rfl) rfl rfl ?_
          simp only [Act.put, List.setIfInBounds_toArray, List.set_cons_zero, List.set_cons_succ]
          refine qw_load (by rfl) 24 _ rfl _ rfl r3 4 _ Try.underlying24 size_nat ?_
          simp only [Act.put, List.setIfInBounds_toArray, List.set_cons_zero, List.set_cons_succ]
          refine qw_callK (by rfl) 37 _ _ rfl Try.func37 (by kernel_rfl) #[.pointer (some ⟨g7, 0, none⟩), .agg (natC A)] rfl _ (fun w' hb => hpl g7 w' (r7.belowAll hb)) ?_
          simp only [Act.put, List.setIfInBounds_toArray, List.set_cons_zero, List.set_cons_succ]
          refine qw_callK (by rfl) 35 _ _ rfl Try.func35 (by kernel_rfl) #[.pointer (some ⟨g7, 0, none⟩), .agg (natC Q)] rfl _ (fun w' hb => hfp g7 w' (r7.belowAll hb)) ?_
          simp only [Act.put, List.setIfInBounds_toArray, List.set_cons_zero, List.set_cons_succ]
          refine qw_load (by rfl) 24 _ rfl _ rfl r11 4 _ Try.underlying24 size_nat ?_
          simp only [Act.put, List.setIfInBounds_toArray, List.set_cons_zero, List.set_cons_succ]
          refine qw_value (by rfl) (.bool true) (fun w' => (exec_eql_nat _ _ _ rfl S S rfl rfl w').trans (by rw [decide_eq_true rfl])) ?_
          simp only [Act.put, List.setIfInBounds_toArray, List.set_cons_zero, List.set_cons_succ]
          refine qw_pick true (v := .bool true) (by rfl) rfl rfl rfl ?_
          simp only [Act.put, List.setIfInBounds_toArray, List.set_cons_zero, List.set_cons_succ]
          refine qw_move (by rfl) rfl rfl ?_
          simp only [Act.put, List.setIfInBounds_toArray, List.set_cons_zero, List.set_cons_succ]
          refine qw_call (by rfl) 31 _ _ rfl Try.func31 (by kernel_rfl) #[] rfl _ haw ?_
          simp only [Act.put, List.setIfInBounds_toArray, List.set_cons_zero, List.set_cons_succ]
          refine qw_pick true (v := .bool true) (by rfl) rfl rfl rfl ?_
          simp only [Act.put, List.setIfInBounds_toArray, List.set_cons_zero, List.set_cons_succ]
          refine qw_asg (by rfl) rfl rfl ?_
          simp only [Act.put, List.setIfInBounds_toArray, List.set_cons_zero, List.set_cons_succ]
          refine qw_nil ?_
          intro w8 hqb
          replace sb := below_on sb (Nat.le_refl _) hqb
          clear hqb
          go_wp2
          go_ret
          exact ⟨rfl, sb⟩
        · rfl
      · rfl
    · rfl
  · rfl
theorem walk (A B M : Nat) (w : World) (hA : A < 2 ^ 256) (hB : B < 2 ^ 256) (hM : M < 2 ^ 256) :
    Calls Try.prog 8 #[.agg (natC A), .agg (natC B), .agg (natC M)] w fun e w' => e = .returned (.bool true) ∧ Below w.heap.size w w' := by
  by_cases ho : M % 2 = 0
  · exact core0 A B M w (fun w' => new_even M w' ho) (fun w' => may_even M w' ho)
  by_cases h1 : M = 1
  · subst h1
    exact core0 A B 1 w (fun w' => new_one w') (fun w' => may_odd 1 false w' (by decide) rfl)
  have q : RgQ M := ⟨hM, by omega, by omega⟩
  have hb1 : (!decide (M % 2 ^ 256 = 1 % 2 ^ 256)) = true := by
    rw [Nat.mod_eq_of_lt hM, decide_eq_false (fun h => h1 (h.trans (by decide)))]; rfl
  have em : modZ (A * B) M = A * B % M := by unfold modZ; rw [if_neg (by omega)]
  have es : modZ (0 * 2 ^ 256 + A) M = A % M := by unfold modZ; rw [if_neg (by omega), Nat.zero_mul, Nat.zero_add]
  have hpl : mt A 1 M < 2 ^ 256 := Nat.lt_trans (mt_lt A 1 M q.two) hM
  exact core1 A B M (A * B % M) (A % M) (fm M A) (mt A 1 M) (cmpI A M) (errI M) (errI M) _ w (fun w' => new_any M w' q.odd q.two hM) (fun w' => may_odd M true w' q.odd hb1)
    (fun w' => em ▸ rmulmod_any A B M w' hA hB hM) (fun w' => es ▸ rrem_any A 0 M w' hA (by decide) hM) (fun w' => rcmp_any A M w' hA hM) (fun w' => rform_any A M w' hA hM q.two)
    (fun g w' => mul_ok A B M g q w' hA hB) (fun g w' => ringM_any M _ _ _ g w' (by omega) hM) (fun g w' => ringIn_any A M _ _ _ g w' hA (by omega) hM) (fun g w' => form_ok A M g q w' hA)
    (fun g w' => plain_of_form A M g q w') (fun g w' => plain_ok A M g q w' hA) (fun g w' r => form_plain A M q ▸ form_ok (mt A 1 M) M g q w' hpl r)

set_option maxRecDepth 100000 in
theorem lifted (os : Os) (started : os.Started) (H : Type) (enc : TypeId × Value → H) :
    ReturnsInHanded {} Try.checked os 8 .any (Rows.montMulsSpec.pre6 enc Try.prog Try.f8 Rows.montMulsRow.domain false) (Rows.montMulsSpec.post enc Try.prog Try.f8 false true false false) := by
  refine returnsInHanded_of_change (C := Try.checked) own started (by kernel_rfl) Try.func8
    (ChangeSpec.witness6 (enc := enc) (C := Try.checked) false ⟨#[], #[.agg #[.int .u64 0, .int .u64 0, .int .u64 0, .int .u64 0], .agg #[.int .u64 0, .int .u64 0, .int .u64 0, .int .u64 0], .agg #[.int .u64 0, .int .u64 0, .int .u64 0, .int .u64 0]], []⟩ 8 (by kernel_rfl) (by kernel_rfl) (by kernel_rfl) (by kernel_rfl)) ?_
  intro W base args ds gs before hval0 hW hcnd _
  have hval : ∀ (j : Nat) t v, Try.f8.params[j]? = some t → args[j]? = some v → Value.okWide Try.prog W .any base t v := hval0
  have hW' := hW
  obtain ⟨p, q, hA0, hV, rfl, hfz, hnd⟩ := hW
  have hA : DataW.TrodAll enc Try.prog W 0 (fun _ => true) true Try.f8.params.toList args.toList ds p := hA0
  rw [Try.params8] at hA hval
  obtain ⟨v0, vs0, d0, ds0, p0, q0, hargs, rfl, rfl, h0, r0⟩ := trodAll_cons hA
  obtain ⟨v1, vs1, d1, ds1, p1, q1, rfl, rfl, rfl, h1, r1⟩ := trodAll_cons r0
  obtain ⟨v2, vs2, d2, ds2, p2, q2, rfl, rfl, rfl, h2, r2⟩ := trodAll_cons r1
  obtain ⟨rfl, rfl, rfl⟩ := trodAll_nil r2
  obtain rfl : args = #[v0, v1, v2] := by cases args; simp_all
  obtain ⟨rfl, rfl⟩ := trodVars_none hV
  have k0 := h0
  have lt0 := lt_of_trod h0
  obtain ⟨N0, hN0, rfl⟩ := open_nat (hval 0 24 v0 rfl rfl) h0
  have k1 := h1
  have lt1 := lt_of_trod h1
  obtain ⟨N1, hN1, rfl⟩ := open_nat (hval 1 24 v1 rfl rfl) h1
  have k2 := h2
  have lt2 := lt_of_trod h2
  obtain ⟨N2, hN2, rfl⟩ := open_nat (hval 2 24 v2 rfl rfl) h2
  clear hA0 hval0
  refine (walk N0 N1 N2 W hN0 hN1 hN2).mono fun e W' ⟨he, bel⟩ => ?_
  subst he
  exact ⟨_, rfl, _, _, _, [], _, [], hW', trodAll_mk1 (shut_bool Try.underlying4 _), (trodAll_cons_mk (Below.trod laidOut (by kernel_rfl) (of_decide_eq_true (by kernel_rfl)) k0 bel lt0) (trodAll_cons_mk (Below.trod laidOut (by kernel_rfl) (of_decide_eq_true (by kernel_rfl)) k1 bel lt1) (trodAll_cons_mk (Below.trod laidOut (by kernel_rfl) (of_decide_eq_true (by kernel_rfl)) k2 bel lt2) trodAll_mk0))), rfl, bel.frame _, fun h => by cases h⟩

theorem over : Rows.montMulsRow.holds Try.pinned (OpenSpec.ofChange Rows.montMulsSpec) :=
  OpenClaim.holds_of_wide 8 Try.f8 rfl rfl rfl rfl rfl rfl rfl ⟨rfl, rfl, rfl, rfl, rfl⟩ rfl rfl rfl rfl rfl (by kernel_rfl) Try.func8 (by kernel_rfl)
    (of_decide_eq_true (by kernel_rfl)) (by unfold Func.isWrapper; first | (rw [if_pos (by decide +kernel)]; kernel_rfl) | (rw [if_neg (by decide +kernel)]; exact ⟨rfl, rfl⟩))
    (fun os started H enc _ => lifted os started H enc)

end montMulsP

/-- for every three naturals: a ring below the third there is just if it is odd and not 1; the product, whether the first is in it, and its form, there and back, are the document's; no condition. -/
theorem montMuls_holds : Rows.MontMulsSaid := montMulsP.over
end Go.Proofs.Ytmmjjohnejimdaa
