/- MontProds: for every natural and any naturals as bases and exponents: where there is a ring, the product of the powers is what they are, one multiplied with the other; lengths that differ are refused; no condition. -/
import Derived.Test.YtcdfefljagddmaaMRef
import Derived.Test.YtcdfefljagddmaaMNobody
import Derived.Test.YtcdfefljagddmaaGS
import Derived.Test.YtcdfefljagddmaaGU
namespace Go.Proofs.Ytcdfefljagddmaa
open Go.ChangeShapes Go.WideShapes Go.ChangeAt Go.RowKit
namespace montProdsP

set_option maxRecDepth 100000 in
set_option maxHeartbeats 4000000 in
theorem core0 (M n m cb ce : Nat) (ab ae : Option Addr) (w : World)
    (hnew : ∀ w', Calls Try.prog 9 #[.agg (natC M)] w' fun e w2 => e = .returned (.tuple #[.pointer none, .int .i64 1]) ∧ Below w'.heap.size w' w2)
    (hmay : ∀ w', Calls Try.prog 10 #[.agg (natC M)] w' fun e w2 => e = .returned (.bool false) ∧ Below w'.heap.size w' w2) :
    Calls Try.prog 6 #[.agg (natC M), .slice ab n cb, .slice ae m ce] w fun e w' => e = .returned (.bool true) ∧ Below w.heap.size w w' := by
  have haw := awake3_any
  go_enter Try.func6, Try.ntmps6
  (repeat ((fail_if_success (with_reducible show Code.wp _ (Code.region _ _ _) _ _ _)); go_step))
  apply wp_region_mixp [] [_, _] trivial List.nodup_nil
  · intro p
    refine mx_box 24 _ rfl _ rfl ?_
    simp only [Act.put, List.setIfInBounds_toArray, List.set_cons_zero, List.set_cons_succ]
    refine mx_val (.bool false) (fun _ => rfl) ?_
    simp only [Act.put, List.setIfInBounds_toArray, List.set_cons_zero, List.set_cons_succ]
    refine mx_end ?_
    intro w2 hkw hrw hnew hdis
    have n3 := hnew 0 rfl
    have zr3 : Row w2 (p 0) (natC M) 24 := hrw 1 (24, natC M) rfl
    have sb := hkw.below w.heap.size (Nat.le_refl _) (by simp)
    have b3 : w.heap.size ≤ p 0 := n3
    clear hkw hrw hnew hdis n3
    generalize p 0 = g3 at *
    have r3 := zr3
    clear zr3
    (repeat ((fail_if_success (with_reducible show Code.wp _ (Code.region _ _ _) _ _ _)); go_step))
    apply wp_region_mixp [] [_, _, _, _, _, _, _] trivial List.nodup_nil
    · intro p
      refine mx_load 24 _ rfl _ rfl r3 (by simp <;> omega) 4 _ Try.underlying24 size_nat ?_
      simp only [Act.put, List.setIfInBounds_toArray, List.set_cons_zero, List.set_cons_succ]
      refine mx_call 9 _ _ rfl Try.func9 (by kernel_rfl) #[.agg (natC M)] rfl _ hnew ?_
      simp only [Act.put, List.setIfInBounds_toArray, List.set_cons_zero, List.set_cons_succ]
      refine mx_move rfl rfl ?_
      simp only [Act.put, List.setIfInBounds_toArray, List.set_cons_zero, List.set_cons_succ]
      refine mx_ext rfl rfl rfl ?_
      simp only [Act.put, List.setIfInBounds_toArray, List.set_cons_zero, List.set_cons_succ]
      refine mx_ext rfl rfl rfl ?_
      simp only [Act.put, List.setIfInBounds_toArray, List.set_cons_zero, List.set_cons_succ]
      refine mx_asg rfl rfl ?_
      simp only [Act.put, List.setIfInBounds_toArray, List.set_cons_zero, List.set_cons_succ]
      refine mx_asg rfl rfl ?_
      simp only [Act.put, List.setIfInBounds_toArray, List.set_cons_zero, List.set_cons_succ]
      refine mx_end ?_
      intro w3 hkw hrw hnew hdis
      replace r3 := hkw.row r3 (by simp <;> omega)
      replace sb := sb.trans (hkw.below w.heap.size sb.size (by simp <;> omega))
      clear hkw hrw hnew hdis
      (repeat ((fail_if_success (with_reducible show Code.wp _ (Code.region _ _ _) _ _ _)); go_step))
      refine wp_region_qp ?_
      refine qw_load (by rfl) 24 _ rfl _ rfl r3 4 _ Try.underlying24 size_nat ?_
      simp only [Act.put, List.setIfInBounds_toArray, List.set_cons_zero, List.set_cons_succ]
      refine qw_call (by rfl) 10 _ _ rfl Try.func10 (by kernel_rfl) #[.agg (natC M)] rfl _ hmay ?_
      simp only [Act.put, List.setIfInBounds_toArray, List.set_cons_zero, List.set_cons_succ]
      refine qw_value (by rfl) (.bool true) (exec_not _ _ rfl false rfl) ?_
      simp only [Act.put, List.setIfInBounds_toArray, List.set_cons_zero, List.set_cons_succ]
      refine qw_move (by rfl) rfl rfl ?_
      simp only [Act.put, List.setIfInBounds_toArray, List.set_cons_zero, List.set_cons_succ]
      refine qw_skip (by rfl) ?_
      simp only [Act.put, List.setIfInBounds_toArray, List.set_cons_zero, List.set_cons_succ]
      refine qw_skip (by rfl) ?_
      simp only [Act.put, List.setIfInBounds_toArray, List.set_cons_zero, List.set_cons_succ]
      refine qw_skip (by rfl) ?_
      simp only [Act.put, List.setIfInBounds_toArray, List.set_cons_zero, List.set_cons_succ]
      refine qw_pick true (v := .bool true) (by rfl) rfl rfl rfl ?_
      simp only [Act.put, List.setIfInBounds_toArray, List.set_cons_zero, List.set_cons_succ]
      refine qw_move (by rfl) rfl rfl ?_
      simp only [Act.put, List.setIfInBounds_toArray, List.set_cons_zero, List.set_cons_succ]
      refine qw_skip (by rfl) ?_
      simp only [Act.put, List.setIfInBounds_toArray, List.set_cons_zero, List.set_cons_succ]
      refine qw_skip (by rfl) ?_
      simp only [Act.put, List.setIfInBounds_toArray, List.set_cons_zero, List.set_cons_succ]
      refine qw_skip (by rfl) ?_
      simp only [Act.put, List.setIfInBounds_toArray, List.set_cons_zero, List.set_cons_succ]
      refine qw_pick true (v := .bool true) (by rfl) rfl rfl rfl ?_
      simp only [Act.put, List.setIfInBounds_toArray, List.set_cons_zero, List.set_cons_succ]
      refine qw_nil ?_
      intro w4 hqb
      replace r3 := r3.belowAll hqb
      replace sb := below_on sb (Nat.le_refl _) hqb
      clear hqb
      (repeat ((fail_if_success (with_reducible show Code.wp _ (Code.region _ _ _) _ _ _)); go_step))
      refine wp_region_qp ?_
      refine qw_move (by rfl) rfl rfl ?_
      simp only [Act.put, List.setIfInBounds_toArray, List.set_cons_zero, List.set_cons_succ]
      refine qw_value (by rfl) (.bool false) (exec_eql_k .i64 _ _ _ _ rfl 1 0 rfl rfl false rfl) ?_
      simp only [Act.put, List.setIfInBounds_toArray, List.set_cons_zero, List.set_cons_succ]
      refine qw_load (by rfl) 24 _ rfl _ rfl r3 4 _ Try.underlying24 size_nat ?_
      simp only [Act.put, List.setIfInBounds_toArray, List.set_cons_zero, List.set_cons_succ]
      refine qw_call (by rfl) 10 _ _ rfl Try.func10 (by kernel_rfl) #[.agg (natC M)] rfl _ hmay ?_
      simp only [Act.put, List.setIfInBounds_toArray, List.set_cons_zero, List.set_cons_succ]
      refine qw_value (by rfl) (.bool true) (exec_eql_bool _ _ _ _ rfl false rfl rfl Try.underlying4) ?_
      simp only [Act.put, List.setIfInBounds_toArray, List.set_cons_zero, List.set_cons_succ]
      refine qw_move (by rfl) rfl rfl ?_
      simp only [Act.put, List.setIfInBounds_toArray, List.set_cons_zero, List.set_cons_succ]
      refine qw_call (by rfl) 11 _ _ rfl Try.func11 (by kernel_rfl) #[] rfl _ haw ?_
      simp only [Act.put, List.setIfInBounds_toArray, List.set_cons_zero, List.set_cons_succ]
      refine qw_pick true (v := .bool true) (by rfl) rfl rfl rfl ?_
      simp only [Act.put, List.setIfInBounds_toArray, List.set_cons_zero, List.set_cons_succ]
      refine qw_asg (by rfl) rfl rfl ?_
      simp only [Act.put, List.setIfInBounds_toArray, List.set_cons_zero, List.set_cons_succ]
      refine qw_nil ?_
      intro w5 hqb
      replace sb := below_on sb (Nat.le_refl _) hqb
      clear hqb
      go_wp2
      go_ret
      exact ⟨rfl, sb⟩
    · rfl
  · rfl
set_option maxRecDepth 100000 in
set_option maxHeartbeats 4000000 in
theorem core1 (M n m cb ce : Nat) (ab ae : Option Addr) (b e X Y : Nat → Nat) (RG : Array Value) (gb ob ge oe : Nat) (bcs ecs : Array Value) (tb te : TypeId) (w : World)
    (hnb : NatsAt w ab n b gb ob bcs tb) (hne : NatsAt w ae m e ge oe ecs te)
    (hnew : ∀ w', Calls Try.prog 9 #[.agg (natC M)] w' fun e w2 => ∃ g, e = .returned (.tuple #[.pointer (some ⟨g, 0, none⟩), .int .i64 0]) ∧ w'.heap.size ≤ g ∧ Row w2 g RG 53 ∧ Below w'.heap.size w' w2)
    (hmay : ∀ w', Calls Try.prog 10 #[.agg (natC M)] w' fun e w2 => e = .returned (.bool true) ∧ Below w'.heap.size w' w2)
    (hlen : n ≠ m → ∀ g w', Row w' g RG 53 → Calls Try.prog 26 #[.pointer (some ⟨g, 0, none⟩), .slice ab n cb, .slice ae m ce] w' fun e w2 => e = .returned (.tuple #[.agg (natC 0), .int .i64 1]) ∧ Below w'.heap.size w' w2)
    (hpr : n = m → n ≤ 6 → ∀ g w', Row w' g RG 53 → Below w.heap.size w w' → Calls Try.prog 26 #[.pointer (some ⟨g, 0, none⟩), .slice ab n cb, .slice ae m ce] w' fun e w2 => e = .returned (.tuple #[.agg (natC (X n)), .int .i64 0]) ∧ Below w'.heap.size w' w2)
    (hm1 : ∀ g w', Row w' g RG 53 → Calls Try.prog 14 #[.pointer (some ⟨g, 0, none⟩), .agg (natC 1), .agg (natC 1)] w' fun e w2 => e = .returned (.agg (natC (X 0))) ∧ Below w'.heap.size w' w2)
    (hex : n = m → ∀ i, i < n → ∀ g w', Row w' g RG 53 → Calls Try.prog 22 #[.pointer (some ⟨g, 0, none⟩), .agg (natC (b i)), .agg (natC (e i))] w' fun e w2 => e = .returned (.agg (natC (Y i))) ∧ Below w'.heap.size w' w2)
    (hmu : ∀ i, ∀ g w', Row w' g RG 53 → Calls Try.prog 14 #[.pointer (some ⟨g, 0, none⟩), .agg (natC (X i)), .agg (natC (Y i))] w' fun e w2 => e = .returned (.agg (natC (X (i + 1)))) ∧ Below w'.heap.size w' w2) :
    Calls Try.prog 6 #[.agg (natC M), .slice ab n cb, .slice ae m ce] w fun e w' => e = .returned (.bool true) ∧ Below w.heap.size w w' := by
  have haw := awake3_any
  have o1 := fun w' => of3_any 1 w' (by decide)
  have HB : Hid (NatsAt w ab n b gb ob bcs tb) := hnb
  have HE : Hid (NatsAt w ae m e ge oe ecs te) := hne
  clear hnb hne
  go_enter Try.func6, Try.ntmps6
  (repeat ((fail_if_success (with_reducible show Code.wp _ (Code.region _ _ _) _ _ _)); go_step))
  apply wp_region_mixp [] [_, _] trivial List.nodup_nil
  · intro p
    refine mx_box 24 _ rfl _ rfl ?_
    simp only [Act.put, List.setIfInBounds_toArray, List.set_cons_zero, List.set_cons_succ]
    refine mx_val (.bool false) (fun _ => rfl) ?_
    simp only [Act.put, List.setIfInBounds_toArray, List.set_cons_zero, List.set_cons_succ]
    refine mx_end ?_
    intro w2 hkw hrw hnew hdis
    have n3 := hnew 0 rfl
    have zr3 : Row w2 (p 0) (natC M) 24 := hrw 1 (24, natC M) rfl
    have sb := hkw.below w.heap.size (Nat.le_refl _) (by simp)
    have b3 : w.heap.size ≤ p 0 := n3
    clear hkw hrw hnew hdis n3
    generalize p 0 = g3 at *
    have r3 := zr3
    clear zr3
    go_wp2_with (first
      | refine wpList_loadR rfl 24 _ rfl _ rfl r3 4 _ Try.underlying24 (by exact size_nat) ?_)
    refine (hnew _).mono ?_
    rintro _ wb ⟨g7, rfl, hg7, r7, bb⟩
    replace r3 := r3.belowAll bb
    have b7 : w.heap.size ≤ g7 := Nat.le_trans sb.size hg7
    replace sb := below_on sb (Nat.le_refl _) bb
    clear bb hg7 hnew
    dsimp only
    by_cases h6 : 6 < n
    · clear hlen hpr hm1 hex hmu o1
      (repeat ((fail_if_success (with_reducible show Code.wp _ (Code.region _ _ _) _ _ _)); go_step))
      refine wp_region_qp ?_
      refine qw_load (by rfl) 24 _ rfl _ rfl r3 4 _ Try.underlying24 size_nat ?_
      simp only [Act.put, List.setIfInBounds_toArray, List.set_cons_zero, List.set_cons_succ]
      refine qw_call (by rfl) 10 _ _ rfl Try.func10 (by kernel_rfl) #[.agg (natC M)] rfl _ hmay ?_
      simp only [Act.put, List.setIfInBounds_toArray, List.set_cons_zero, List.set_cons_succ]
      refine qw_value (by rfl) (.bool false) (exec_not _ _ rfl true rfl) ?_
      simp only [Act.put, List.setIfInBounds_toArray, List.set_cons_zero, List.set_cons_succ]
      refine qw_move (by rfl) rfl rfl ?_
      simp only [Act.put, List.setIfInBounds_toArray, List.set_cons_zero, List.set_cons_succ]
      refine qw_move (by rfl) rfl rfl ?_
      simp only [Act.put, List.setIfInBounds_toArray, List.set_cons_zero, List.set_cons_succ]
      refine qw_value (by rfl) (.int .i64 n) (exec_len_s 49 _ rfl ab n cb rfl sl_nats) ?_
      simp only [Act.put, List.setIfInBounds_toArray, List.set_cons_zero, List.set_cons_succ]
      refine qw_value (by rfl) (.bool true) (exec_gt_i _ _ _ _ rfl n 6 rfl rfl true (decide_eq_true (by omega))) ?_
      simp only [Act.put, List.setIfInBounds_toArray, List.set_cons_zero, List.set_cons_succ]
      refine qw_pick false (v := .bool true) (by rfl) rfl rfl rfl ?_
      simp only [Act.put, List.setIfInBounds_toArray, List.set_cons_zero, List.set_cons_succ]
      refine qw_move (by rfl) rfl rfl ?_
      simp only [Act.put, List.setIfInBounds_toArray, List.set_cons_zero, List.set_cons_succ]
      refine qw_skip (by rfl) ?_
      simp only [Act.put, List.setIfInBounds_toArray, List.set_cons_zero, List.set_cons_succ]
      refine qw_skip (by rfl) ?_
      simp only [Act.put, List.setIfInBounds_toArray, List.set_cons_zero, List.set_cons_succ]
      refine qw_skip (by rfl) ?_
      simp only [Act.put, List.setIfInBounds_toArray, List.set_cons_zero, List.set_cons_succ]
      refine qw_pick true (v := .bool true) (by rfl) rfl rfl rfl ?_
      simp only [Act.put, List.setIfInBounds_toArray, List.set_cons_zero, List.set_cons_succ]
      refine qw_nil ?_
      intro w4 hqb
      replace r3 := r3.belowAll hqb
      replace r7 := r7.belowAll hqb
      replace sb := below_on sb (Nat.le_refl _) hqb
      clear hqb
      (repeat ((fail_if_success (with_reducible show Code.wp _ (Code.region _ _ _) _ _ _)); go_step))
      refine wp_region_qp ?_
      refine qw_move (by rfl) rfl rfl ?_
      simp only [Act.put, List.setIfInBounds_toArray, List.set_cons_zero, List.set_cons_succ]
      refine qw_value (by rfl) (.bool true) (exec_eql_k .i64 _ _ _ _ rfl 0 0 rfl rfl true rfl) ?_
      simp only [Act.put, List.setIfInBounds_toArray, List.set_cons_zero, List.set_cons_succ]
      refine qw_load (by rfl) 24 _ rfl _ rfl r3 4 _ Try.underlying24 size_nat ?_
      simp only [Act.put, List.setIfInBounds_toArray, List.set_cons_zero, List.set_cons_succ]
      refine qw_call (by rfl) 10 _ _ rfl Try.func10 (by kernel_rfl) #[.agg (natC M)] rfl _ hmay ?_
      simp only [Act.put, List.setIfInBounds_toArray, List.set_cons_zero, List.set_cons_succ]
      refine qw_value (by rfl) (.bool true) (exec_eql_bool _ _ _ _ rfl true rfl rfl Try.underlying4) ?_
      simp only [Act.put, List.setIfInBounds_toArray, List.set_cons_zero, List.set_cons_succ]
      refine qw_move (by rfl) rfl rfl ?_
      simp only [Act.put, List.setIfInBounds_toArray, List.set_cons_zero, List.set_cons_succ]
      refine qw_call (by rfl) 11 _ _ rfl Try.func11 (by kernel_rfl) #[] rfl _ haw ?_
      simp only [Act.put, List.setIfInBounds_toArray, List.set_cons_zero, List.set_cons_succ]
      refine qw_pick true (v := .bool true) (by rfl) rfl rfl rfl ?_
      simp only [Act.put, List.setIfInBounds_toArray, List.set_cons_zero, List.set_cons_succ]
      refine qw_asg (by rfl) rfl rfl ?_
      simp only [Act.put, List.setIfInBounds_toArray, List.set_cons_zero, List.set_cons_succ]
      refine qw_nil ?_
      intro w5 hqb
      replace sb := below_on sb (Nat.le_refl _) hqb
      clear hqb
      go_wp2
      go_ret
      exact ⟨rfl, sb⟩
    by_cases h7 : 6 < m
    · clear hlen hpr hm1 hex hmu o1
      (repeat ((fail_if_success (with_reducible show Code.wp _ (Code.region _ _ _) _ _ _)); go_step))
      refine wp_region_qp ?_
      refine qw_load (by rfl) 24 _ rfl _ rfl r3 4 _ Try.underlying24 size_nat ?_
      simp only [Act.put, List.setIfInBounds_toArray, List.set_cons_zero, List.set_cons_succ]
      refine qw_call (by rfl) 10 _ _ rfl Try.func10 (by kernel_rfl) #[.agg (natC M)] rfl _ hmay ?_
      simp only [Act.put, List.setIfInBounds_toArray, List.set_cons_zero, List.set_cons_succ]
      refine qw_value (by rfl) (.bool false) (exec_not _ _ rfl true rfl) ?_
      simp only [Act.put, List.setIfInBounds_toArray, List.set_cons_zero, List.set_cons_succ]
      refine qw_move (by rfl) rfl rfl ?_
      simp only [Act.put, List.setIfInBounds_toArray, List.set_cons_zero, List.set_cons_succ]
      refine qw_move (by rfl) rfl rfl ?_
      simp only [Act.put, List.setIfInBounds_toArray, List.set_cons_zero, List.set_cons_succ]
      refine qw_value (by rfl) (.int .i64 n) (exec_len_s 49 _ rfl ab n cb rfl sl_nats) ?_
      simp only [Act.put, List.setIfInBounds_toArray, List.set_cons_zero, List.set_cons_succ]
      refine qw_value (by rfl) (.bool false) (exec_gt_i _ _ _ _ rfl n 6 rfl rfl false (decide_eq_false (by omega))) ?_
      simp only [Act.put, List.setIfInBounds_toArray, List.set_cons_zero, List.set_cons_succ]
      refine qw_pick false (v := .bool false) (by rfl) rfl rfl rfl ?_
      simp only [Act.put, List.setIfInBounds_toArray, List.set_cons_zero, List.set_cons_succ]
      refine qw_move (by rfl) rfl rfl ?_
      simp only [Act.put, List.setIfInBounds_toArray, List.set_cons_zero, List.set_cons_succ]
      refine qw_move (by rfl) rfl rfl ?_
      simp only [Act.put, List.setIfInBounds_toArray, List.set_cons_zero, List.set_cons_succ]
      refine qw_value (by rfl) (.int .i64 m) (exec_len_s 49 _ rfl ae m ce rfl sl_nats) ?_
      simp only [Act.put, List.setIfInBounds_toArray, List.set_cons_zero, List.set_cons_succ]
      refine qw_value (by rfl) (.bool true) (exec_gt_i _ _ _ _ rfl m 6 rfl rfl true (decide_eq_true (by omega))) ?_
      simp only [Act.put, List.setIfInBounds_toArray, List.set_cons_zero, List.set_cons_succ]
      refine qw_pick false (v := .bool true) (by rfl) rfl rfl rfl ?_
      simp only [Act.put, List.setIfInBounds_toArray, List.set_cons_zero, List.set_cons_succ]
      refine qw_nil ?_
      intro w4 hqb
      replace r3 := r3.belowAll hqb
      replace r7 := r7.belowAll hqb
      replace sb := below_on sb (Nat.le_refl _) hqb
      clear hqb
      (repeat ((fail_if_success (with_reducible show Code.wp _ (Code.region _ _ _) _ _ _)); go_step))
      refine wp_region_qp ?_
      refine qw_move (by rfl) rfl rfl ?_
      simp only [Act.put, List.setIfInBounds_toArray, List.set_cons_zero, List.set_cons_succ]
      refine qw_value (by rfl) (.bool true) (exec_eql_k .i64 _ _ _ _ rfl 0 0 rfl rfl true rfl) ?_
      simp only [Act.put, List.setIfInBounds_toArray, List.set_cons_zero, List.set_cons_succ]
      refine qw_load (by rfl) 24 _ rfl _ rfl r3 4 _ Try.underlying24 size_nat ?_
      simp only [Act.put, List.setIfInBounds_toArray, List.set_cons_zero, List.set_cons_succ]
      refine qw_call (by rfl) 10 _ _ rfl Try.func10 (by kernel_rfl) #[.agg (natC M)] rfl _ hmay ?_
      simp only [Act.put, List.setIfInBounds_toArray, List.set_cons_zero, List.set_cons_succ]
      refine qw_value (by rfl) (.bool true) (exec_eql_bool _ _ _ _ rfl true rfl rfl Try.underlying4) ?_
      simp only [Act.put, List.setIfInBounds_toArray, List.set_cons_zero, List.set_cons_succ]
      refine qw_move (by rfl) rfl rfl ?_
      simp only [Act.put, List.setIfInBounds_toArray, List.set_cons_zero, List.set_cons_succ]
      refine qw_call (by rfl) 11 _ _ rfl Try.func11 (by kernel_rfl) #[] rfl _ haw ?_
      simp only [Act.put, List.setIfInBounds_toArray, List.set_cons_zero, List.set_cons_succ]
      refine qw_pick true (v := .bool true) (by rfl) rfl rfl rfl ?_
      simp only [Act.put, List.setIfInBounds_toArray, List.set_cons_zero, List.set_cons_succ]
      refine qw_asg (by rfl) rfl rfl ?_
      simp only [Act.put, List.setIfInBounds_toArray, List.set_cons_zero, List.set_cons_succ]
      refine qw_nil ?_
      intro w5 hqb
      replace sb := below_on sb (Nat.le_refl _) hqb
      clear hqb
      go_wp2
      go_ret
      exact ⟨rfl, sb⟩
    (repeat ((fail_if_success (with_reducible show Code.wp _ (Code.region _ _ _) _ _ _)); go_step))
    refine wp_region_qp ?_
    refine qw_load (by rfl) 24 _ rfl _ rfl r3 4 _ Try.underlying24 size_nat ?_
    simp only [Act.put, List.setIfInBounds_toArray, List.set_cons_zero, List.set_cons_succ]
    refine qw_call (by rfl) 10 _ _ rfl Try.func10 (by kernel_rfl) #[.agg (natC M)] rfl _ hmay ?_
    simp only [Act.put, List.setIfInBounds_toArray, List.set_cons_zero, List.set_cons_succ]
    refine qw_value (by rfl) (.bool false) (exec_not _ _ rfl true rfl) ?_
    simp only [Act.put, List.setIfInBounds_toArray, List.set_cons_zero, List.set_cons_succ]
    refine qw_move (by rfl) rfl rfl ?_
    simp only [Act.put, List.setIfInBounds_toArray, List.set_cons_zero, List.set_cons_succ]
    refine qw_move (by rfl) rfl rfl ?_
    simp only [Act.put, List.setIfInBounds_toArray, List.set_cons_zero, List.set_cons_succ]
    refine qw_value (by rfl) (.int .i64 n) (exec_len_s 49 _ rfl ab n cb rfl sl_nats) ?_
    simp only [Act.put, List.setIfInBounds_toArray, List.set_cons_zero, List.set_cons_succ]
    refine qw_value (by rfl) (.bool false) (exec_gt_i _ _ _ _ rfl n 6 rfl rfl false (decide_eq_false (by omega))) ?_
    simp only [Act.put, List.setIfInBounds_toArray, List.set_cons_zero, List.set_cons_succ]
    refine qw_pick false (v := .bool false) (by rfl) rfl rfl rfl ?_
    simp only [Act.put, List.setIfInBounds_toArray, List.set_cons_zero, List.set_cons_succ]
    refine qw_move (by rfl) rfl rfl ?_
    simp only [Act.put, List.setIfInBounds_toArray, List.set_cons_zero, List.set_cons_succ]
    refine qw_move (by rfl) rfl rfl ?_
    simp only [Act.put, List.setIfInBounds_toArray, List.set_cons_zero, List.set_cons_succ]
    refine qw_value (by rfl) (.int .i64 m) (exec_len_s 49 _ rfl ae m ce rfl sl_nats) ?_
    simp only [Act.put, List.setIfInBounds_toArray, List.set_cons_zero, List.set_cons_succ]
    refine qw_value (by rfl) (.bool false) (exec_gt_i _ _ _ _ rfl m 6 rfl rfl false (decide_eq_false (by omega))) ?_
    simp only [Act.put, List.setIfInBounds_toArray, List.set_cons_zero, List.set_cons_succ]
    refine qw_pick false (v := .bool false) (by rfl) rfl rfl rfl ?_
    simp only [Act.put, List.setIfInBounds_toArray, List.set_cons_zero, List.set_cons_succ]
    refine qw_nil ?_
    intro w4 hqb
    replace r3 := r3.belowAll hqb
    replace r7 := r7.belowAll hqb
    replace sb := below_on sb (Nat.le_refl _) hqb
    clear hqb
    clear r3 hmay
    by_cases hnm : n = m
    · subst hnm
      replace hpr := hpr rfl (by omega)
      replace hex := hex rfl
      clear hlen h7
      (repeat ((fail_if_success (with_reducible show Code.wp _ (Code.region _ _ _) _ _ _)); go_step))
      apply wp_region_mixp [] [_, _, _, _, _, _, _, _, _, _] trivial List.nodup_nil
      · intro p
        refine mx_move rfl rfl ?_
        simp only [Act.put, List.setIfInBounds_toArray, List.set_cons_zero, List.set_cons_succ]
        refine mx_move rfl rfl ?_
        simp only [Act.put, List.setIfInBounds_toArray, List.set_cons_zero, List.set_cons_succ]
        refine mx_move rfl rfl ?_
        simp only [Act.put, List.setIfInBounds_toArray, List.set_cons_zero, List.set_cons_succ]
        refine mx_callK 26 _ _ rfl Try.func26 (by kernel_rfl) #[.pointer (some ⟨g7, 0, none⟩), .slice ab n cb, .slice ae n ce] rfl _ (fun w' hk => hpr g7 w' (hk.row r7 (by simp)) (sb.trans (hk.below w.heap.size sb.size (by simp)))) ?_
        simp only [Act.put, List.setIfInBounds_toArray, List.set_cons_zero, List.set_cons_succ]
        refine mx_move rfl rfl ?_
        simp only [Act.put, List.setIfInBounds_toArray, List.set_cons_zero, List.set_cons_succ]
        refine mx_ext rfl rfl rfl ?_
        simp only [Act.put, List.setIfInBounds_toArray, List.set_cons_zero, List.set_cons_succ]
        refine mx_ext rfl rfl rfl ?_
        simp only [Act.put, List.setIfInBounds_toArray, List.set_cons_zero, List.set_cons_succ]
        refine mx_new 24 rfl _ zero_nat ?_
        simp only [Act.put, List.setIfInBounds_toArray, List.set_cons_zero, List.set_cons_succ]
        refine mx_put 15 24 _ _ rfl rfl rfl (natC (X n)) rfl (by exact size_nat) (by simp only [natC_size]) (natC_one _) ?_
        simp only [Act.put]
        refine mx_asg rfl rfl ?_
        simp only [Act.put, List.setIfInBounds_toArray, List.set_cons_zero, List.set_cons_succ]
        refine mx_end ?_
        intro w5 hkw hrw hnew hdis
        have n9 := hnew 7 rfl
        have zr9 : Row w5 (p 7) (natC (X n)) 24 := hrw 15 (24, natC (X n)) rfl
        have d7x9 := Nat.lt_of_lt_of_le r7.lt n9
        replace r7 := hkw.row r7 (by simp <;> omega)
        have b9 := Nat.le_trans sb.size n9
        replace sb := sb.trans (hkw.below w.heap.size sb.size (by simp <;> omega))
        clear hkw hrw hnew hdis n9
        generalize p 7 = g9 at *
        have r9 := zr9
        clear zr9
        clear hpr
        (repeat ((fail_if_success (with_reducible show Code.wp _ (Code.region _ _ _) _ _ _)); go_step))
        apply wp_region_mixp [] [_, _, _, _, _] trivial List.nodup_nil
        · intro p
          refine mx_move rfl rfl ?_
          simp only [Act.put, List.setIfInBounds_toArray, List.set_cons_zero, List.set_cons_succ]
          refine mx_val (.int .i64 n) (exec_len_s 49 _ rfl ab n cb rfl sl_nats) ?_
          simp only [Act.put, List.setIfInBounds_toArray, List.set_cons_zero, List.set_cons_succ]
          refine mx_move rfl rfl ?_
          simp only [Act.put, List.setIfInBounds_toArray, List.set_cons_zero, List.set_cons_succ]
          refine mx_val (.int .i64 n) (exec_len_s 49 _ rfl ae n ce rfl sl_nats) ?_
          simp only [Act.put, List.setIfInBounds_toArray, List.set_cons_zero, List.set_cons_succ]
          refine mx_val (.bool false) (exec_neq_k .i64 _ _ _ _ rfl n n rfl rfl false (by rw [decide_eq_true rfl]; rfl)) ?_
          simp only [Act.put, List.setIfInBounds_toArray, List.set_cons_zero, List.set_cons_succ]
          refine mx_end ?_
          intro w6 hkw hrw hnew hdis
          replace r7 := hkw.row r7 (by simp <;> omega)
          replace r9 := hkw.row r9 (by simp <;> omega)
          replace sb := sb.trans (hkw.below w.heap.size sb.size (by simp <;> omega))
          clear hkw hrw hnew hdis
          (repeat ((fail_if_success (with_reducible show Code.wp _ (Code.region _ _ _) _ _ _)); go_step))
          apply wp_region_mixp [] [_, _, _, _, _, _] trivial List.nodup_nil
          · intro p
            refine mx_move rfl rfl ?_
            simp only [Act.put, List.setIfInBounds_toArray, List.set_cons_zero, List.set_cons_succ]
            refine mx_call 21 _ _ rfl Try.func21 (by kernel_rfl) #[.int .i64 1] rfl _ o1 ?_
            simp only [Act.put, List.setIfInBounds_toArray, List.set_cons_zero, List.set_cons_succ]
            refine mx_call 21 _ _ rfl Try.func21 (by kernel_rfl) #[.int .i64 1] rfl _ o1 ?_
            simp only [Act.put, List.setIfInBounds_toArray, List.set_cons_zero, List.set_cons_succ]
            refine mx_callK 14 _ _ rfl Try.func14 (by kernel_rfl) #[.pointer (some ⟨g7, 0, none⟩), .agg (natC 1), .agg (natC 1)] rfl _ (fun w' hk => hm1 g7 w' (hk.row r7 (by simp))) ?_
            simp only [Act.put, List.setIfInBounds_toArray, List.set_cons_zero, List.set_cons_succ]
            refine mx_new 24 rfl _ zero_nat ?_
            simp only [Act.put, List.setIfInBounds_toArray, List.set_cons_zero, List.set_cons_succ]
            refine mx_put 9 24 _ _ rfl rfl rfl (natC (X 0)) rfl (by exact size_nat) (by simp only [natC_size]) (natC_one _) ?_
            simp only [Act.put]
            refine mx_end ?_
            intro w7 hkw hrw hnew hdis
            have n11 := hnew 4 rfl
            have zr11 : Row w7 (p 4) (natC (X 0)) 24 := hrw 9 (24, natC (X 0)) rfl
            have d7x11 := Nat.lt_of_lt_of_le r7.lt n11
            have d9x11 := Nat.lt_of_lt_of_le r9.lt n11
            replace r7 := hkw.row r7 (by simp <;> omega)
            replace r9 := hkw.row r9 (by simp <;> omega)
            have b11 := Nat.le_trans sb.size n11
            replace sb := sb.trans (hkw.below w.heap.size sb.size (by simp <;> omega))
            clear hkw hrw hnew hdis n11
            generalize p 4 = g11 at *
            have r11 := zr11
            clear zr11
            clear hm1 o1
            go_wp2
            go_loopg [12] n (fun g s12 wr => ∃ i : Nat, i + g = n ∧ s12 = .int .i64 i ∧ Row wr g7 RG 53 ∧ Row wr g9 (natC (X n)) 24 ∧ Row wr g11 (natC (X i)) 24 ∧ Below w.heap.size w wr)
            case atStart => exact ⟨0, by omega, rfl, r7, r9, r11, sb⟩
            case round =>
              clear r7 r9 r11 sb
              obtain ⟨i, hi, rfl, r7, r9, r11, sb⟩ := hrel
              cases gk with
              | zero =>
                obtain rfl : i = n := by omega
                clear hi hex hmu
                (repeat ((fail_if_success (with_reducible show Code.wp _ (Code.region _ _ _) _ _ _)); go_step))
                refine wp_region_qp ?_
                refine qw_move (by rfl) rfl rfl ?_
                simp only [Act.put, List.setIfInBounds_toArray, List.set_cons_zero, List.set_cons_succ]
                refine qw_move (by rfl) rfl rfl ?_
                simp only [Act.put, List.setIfInBounds_toArray, List.set_cons_zero, List.set_cons_succ]
                refine qw_value (by rfl) (.int .i64 i) (exec_len_s 49 _ rfl ab i cb rfl sl_nats) ?_
                simp only [Act.put, List.setIfInBounds_toArray, List.set_cons_zero, List.set_cons_succ]
                refine qw_value (by rfl) (.bool false) (fun w' => (exec_lt_i _ _ _ _ rfl i i rfl rfl w').trans (by rw [decide_eq_false (Int.lt_irrefl _)])) ?_
                simp only [Act.put, List.setIfInBounds_toArray, List.set_cons_zero, List.set_cons_succ]
                refine qw_move (by rfl) rfl rfl ?_
                simp only [Act.put, List.setIfInBounds_toArray, List.set_cons_zero, List.set_cons_succ]
                refine qw_skip (by rfl) ?_
                simp only [Act.put, List.setIfInBounds_toArray, List.set_cons_zero, List.set_cons_succ]
                refine qw_skip (by rfl) ?_
                simp only [Act.put, List.setIfInBounds_toArray, List.set_cons_zero, List.set_cons_succ]
                refine qw_skip (by rfl) ?_
                simp only [Act.put, List.setIfInBounds_toArray, List.set_cons_zero, List.set_cons_succ]
                refine qw_skip (by rfl) ?_
                simp only [Act.put, List.setIfInBounds_toArray, List.set_cons_zero, List.set_cons_succ]
                refine qw_pick false (v := .bool false) (by rfl) rfl rfl rfl ?_
                simp only [Act.put, List.setIfInBounds_toArray, List.set_cons_zero, List.set_cons_succ]
                refine qw_nil ?_
                intro w8 hqb
                replace r9 := r9.belowAll hqb
                replace r11 := r11.belowAll hqb
                replace sb := below_on sb (Nat.le_refl _) hqb
                clear hqb
                (repeat ((fail_if_success (with_reducible show Code.wp _ (Code.region _ _ _) _ _ _)); go_step))
                refine wp_region_qp ?_
                refine qw_load (by rfl) 24 _ rfl _ rfl r9 4 _ Try.underlying24 size_nat ?_
                simp only [Act.put, List.setIfInBounds_toArray, List.set_cons_zero, List.set_cons_succ]
                refine qw_load (by rfl) 24 _ rfl _ rfl r11 4 _ Try.underlying24 size_nat ?_
                simp only [Act.put, List.setIfInBounds_toArray, List.set_cons_zero, List.set_cons_succ]
                refine qw_value (by rfl) (.bool true) (fun w' => (exec_eql_nat _ _ _ rfl (X i) (X i) rfl rfl w').trans (by rw [decide_eq_true rfl])) ?_
                simp only [Act.put, List.setIfInBounds_toArray, List.set_cons_zero, List.set_cons_succ]
                refine qw_move (by rfl) rfl rfl ?_
                simp only [Act.put, List.setIfInBounds_toArray, List.set_cons_zero, List.set_cons_succ]
                refine qw_move (by rfl) rfl rfl ?_
                simp only [Act.put, List.setIfInBounds_toArray, List.set_cons_zero, List.set_cons_succ]
                refine qw_value (by rfl) (.bool true) (exec_eql_k .i64 _ _ _ _ rfl 0 0 rfl rfl true rfl) ?_
                simp only [Act.put, List.setIfInBounds_toArray, List.set_cons_zero, List.set_cons_succ]
                refine qw_pick true (v := .bool true) (by rfl) rfl rfl rfl ?_
                simp only [Act.put, List.setIfInBounds_toArray, List.set_cons_zero, List.set_cons_succ]
                refine qw_move (by rfl) rfl rfl ?_
                simp only [Act.put, List.setIfInBounds_toArray, List.set_cons_zero, List.set_cons_succ]
                refine qw_call (by rfl) 11 _ _ rfl Try.func11 (by kernel_rfl) #[] rfl _ haw ?_
                simp only [Act.put, List.setIfInBounds_toArray, List.set_cons_zero, List.set_cons_succ]
                refine qw_pick true (v := .bool true) (by rfl) rfl rfl rfl ?_
                simp only [Act.put, List.setIfInBounds_toArray, List.set_cons_zero, List.set_cons_succ]
                refine qw_asg (by rfl) rfl rfl ?_
                simp only [Act.put, List.setIfInBounds_toArray, List.set_cons_zero, List.set_cons_succ]
                refine qw_nil ?_
                intro w9 hqb
                replace sb := below_on sb (Nat.le_refl _) hqb
                clear hqb
                go_wp2
                go_ret
                exact ⟨rfl, sb⟩
              | succ g =>
                have hlt : i < n := by omega
                replace hex := hex i hlt
                replace hmu := hmu i
                clear haw
                (repeat ((fail_if_success (with_reducible show Code.wp _ (Code.region _ _ _) _ _ _)); go_step))
                refine wp_region_qp ?_
                refine qw_move (by rfl) rfl rfl ?_
                simp only [Act.put, List.setIfInBounds_toArray, List.set_cons_zero, List.set_cons_succ]
                refine qw_move (by rfl) rfl rfl ?_
                simp only [Act.put, List.setIfInBounds_toArray, List.set_cons_zero, List.set_cons_succ]
                refine qw_value (by rfl) (.int .i64 n) (exec_len_s 49 _ rfl ab n cb rfl sl_nats) ?_
                simp only [Act.put, List.setIfInBounds_toArray, List.set_cons_zero, List.set_cons_succ]
                refine qw_value (by rfl) (.bool true) (fun w' => (exec_lt_i _ _ _ _ rfl i n rfl rfl w').trans (by rw [decide_eq_true (by omega)])) ?_
                simp only [Act.put, List.setIfInBounds_toArray, List.set_cons_zero, List.set_cons_succ]
                refine qw_move (by rfl) rfl rfl ?_
                simp only [Act.put, List.setIfInBounds_toArray, List.set_cons_zero, List.set_cons_succ]
                refine qw_move (by rfl) rfl rfl ?_
                simp only [Act.put, List.setIfInBounds_toArray, List.set_cons_zero, List.set_cons_succ]
                refine qw_move (by rfl) rfl rfl ?_
                simp only [Act.put, List.setIfInBounds_toArray, List.set_cons_zero, List.set_cons_succ]
                refine qw_value (by rfl) (.int .i64 n) (exec_len_s 49 _ rfl ae n ce rfl sl_nats) ?_
                simp only [Act.put, List.setIfInBounds_toArray, List.set_cons_zero, List.set_cons_succ]
                refine qw_value (by rfl) (.bool true) (fun w' => (exec_lt_i _ _ _ _ rfl i n rfl rfl w').trans (by rw [decide_eq_true (by omega)])) ?_
                simp only [Act.put, List.setIfInBounds_toArray, List.set_cons_zero, List.set_cons_succ]
                refine qw_pick true (v := .bool true) (by rfl) rfl rfl rfl ?_
                simp only [Act.put, List.setIfInBounds_toArray, List.set_cons_zero, List.set_cons_succ]
                refine qw_nil ?_
                intro w8 hqb
                replace r7 := r7.belowAll hqb
                replace r9 := r9.belowAll hqb
                replace r11 := r11.belowAll hqb
                replace sb := below_on sb (Nat.le_refl _) hqb
                clear hqb
                obtain h0 | ⟨rfl, rB, hbt⟩ := (HB.out.below sb).at'
                · omega
                obtain h0 | ⟨rfl, rE, het⟩ := (HE.out.below sb).at'
                · omega
                have lB := (HB.out.below sb).at'.resolve_left (by omega) |>.2.1.lt
                have dB : gb ≠ g11 := fun h => by
                  have := (HB.out.at'.resolve_left (by omega)).2.1.lt
                  omega
                have dE : ge ≠ g11 := fun h => by
                  have := (HE.out.at'.resolve_left (by omega)).2.1.lt
                  omega
                (repeat ((fail_if_success (with_reducible show Code.wp _ (Code.region _ _ _) _ _ _)); go_step))
                apply wp_region_mix (by kernel_rfl) [(g11, 24, natC (X i))] [_, _, _, _, _, _, _, _, _, _, _, _, _, _] ⟨r11, trivial⟩ (by simp <;> omega)
                · intro p
                  refine mx_move rfl rfl ?_
                  simp only [Act.put, List.setIfInBounds_toArray, List.set_cons_zero, List.set_cons_succ]
                  refine mx_loadT 0 24 _ rfl rfl rfl 4 _ Try.underlying24 size_nat ?_
                  simp only [Act.put, List.setIfInBounds_toArray, List.set_cons_zero, List.set_cons_succ]
                  refine mx_move rfl rfl ?_
                  simp only [Act.put, List.setIfInBounds_toArray, List.set_cons_zero, List.set_cons_succ]
                  refine mx_move rfl rfl ?_
                  simp only [Act.put, List.setIfInBounds_toArray, List.set_cons_zero, List.set_cons_succ]
                  refine mx_move rfl rfl ?_
                  simp only [Act.put, List.setIfInBounds_toArray, List.set_cons_zero, List.set_cons_succ]
                  refine mx_val (.pointer (some ⟨gb, ob + i * 4, none⟩)) (exec_index_s 49 _ _ rfl gb ob n cb rfl i rfl hlt _ Try.underlying49 4 size_nat4) ?_
                  simp only [Act.put, List.setIfInBounds_toArray, List.set_cons_zero, List.set_cons_succ]
                  refine mx_loadmR 24 _ rfl _ ((ob + i * 4)) rfl rB (by simp <;> omega) (natC (b i)) (hbt i hlt) _ Try.underlying24 rfl size_nat ?_
                  simp only [Act.put, List.setIfInBounds_toArray, List.set_cons_zero, List.set_cons_succ]
                  refine mx_move rfl rfl ?_
                  simp only [Act.put, List.setIfInBounds_toArray, List.set_cons_zero, List.set_cons_succ]
                  refine mx_move rfl rfl ?_
                  simp only [Act.put, List.setIfInBounds_toArray, List.set_cons_zero, List.set_cons_succ]
                  refine mx_val (.pointer (some ⟨ge, oe + i * 4, none⟩)) (exec_index_s 49 _ _ rfl ge oe n ce rfl i rfl hlt _ Try.underlying49 4 size_nat4) ?_
                  simp only [Act.put, List.setIfInBounds_toArray, List.set_cons_zero, List.set_cons_succ]
                  refine mx_loadmR 24 _ rfl _ ((oe + i * 4)) rfl rE (by simp <;> omega) (natC (e i)) (het i hlt) _ Try.underlying24 rfl size_nat ?_
                  simp only [Act.put, List.setIfInBounds_toArray, List.set_cons_zero, List.set_cons_succ]
                  refine mx_callK 22 _ _ rfl Try.func22 (by kernel_rfl) #[.pointer (some ⟨g7, 0, none⟩), .agg (natC (b i)), .agg (natC (e i))] rfl _ (fun w' hk => hex g7 w' (hk.row r7 (by simp <;> omega))) ?_
                  simp only [Act.put, List.setIfInBounds_toArray, List.set_cons_zero, List.set_cons_succ]
                  refine mx_callK 14 _ _ rfl Try.func14 (by kernel_rfl) #[.pointer (some ⟨g7, 0, none⟩), .agg (natC (X i)), .agg (natC (Y i))] rfl _ (fun w' hk => hmu g7 w' (hk.row r7 (by simp <;> omega))) ?_
                  simp only [Act.put, List.setIfInBounds_toArray, List.set_cons_zero, List.set_cons_succ]
                  refine mx_put 0 24 _ _ rfl rfl rfl (natC (X (i + 1))) rfl (by exact size_nat) (by simp only [natC_size]) (natC_one _) ?_
                  simp only [Act.put]
                  refine mx_end ?_
                  intro w10 hkw hrw hnew hdis
                  have zr11 : Row w10 (g11) (natC (X (i + 1))) 24 := hrw 0 (24, natC (X (i + 1))) rfl
                  replace r7 := hkw.row r7 (by simp <;> omega)
                  replace r9 := hkw.row r9 (by simp <;> omega)
                  replace sb := sb.trans (hkw.below w.heap.size sb.size (by simp <;> omega))
                  clear hkw hrw hnew hdis r11
                  have r11 := zr11
                  clear zr11
                  (repeat ((fail_if_success (with_reducible show Code.wp _ (Code.region _ _ _) _ _ _)); go_step))
                  apply wp_region_mixp [] [_, _, _] trivial List.nodup_nil
                  · intro p
                    refine mx_move rfl rfl ?_
                    simp only [Act.put, List.setIfInBounds_toArray, List.set_cons_zero, List.set_cons_succ]
                    refine mx_val (.int .i64 ((i + 1 : Nat) : Int)) (exec_add_in _ _ _ _ rfl i 1 rfl rfl (by omega)) ?_
                    simp only [Act.put, List.setIfInBounds_toArray, List.set_cons_zero, List.set_cons_succ]
                    refine mx_asg rfl rfl ?_
                    simp only [Act.put, List.setIfInBounds_toArray, List.set_cons_zero, List.set_cons_succ]
                    refine mx_end ?_
                    intro w11 hkw hrw hnew hdis
                    replace r7 := hkw.row r7 (by simp <;> omega)
                    replace r9 := hkw.row r9 (by simp <;> omega)
                    replace r11 := hkw.row r11 (by simp <;> omega)
                    replace sb := sb.trans (hkw.below w.heap.size sb.size (by simp <;> omega))
                    clear hkw hrw hnew hdis
                    go_wp2
                    go_roundg g
                    case measure => omega
                    case rel => exact ⟨i + 1, by omega, rfl, r7, r9, r11, sb⟩
                  · rfl
                · kernel_rfl
          · rfl
        · rfl
      · rfl
    · replace hlen := hlen hnm
      clear hpr hm1 hex hmu o1
      (repeat ((fail_if_success (with_reducible show Code.wp _ (Code.region _ _ _) _ _ _)); go_step))
      apply wp_region_mixp [] [_, _, _, _, _, _, _, _, _, _] trivial List.nodup_nil
      · intro p
        refine mx_move rfl rfl ?_
        simp only [Act.put, List.setIfInBounds_toArray, List.set_cons_zero, List.set_cons_succ]
        refine mx_move rfl rfl ?_
        simp only [Act.put, List.setIfInBounds_toArray, List.set_cons_zero, List.set_cons_succ]
        refine mx_move rfl rfl ?_
        simp only [Act.put, List.setIfInBounds_toArray, List.set_cons_zero, List.set_cons_succ]
        refine mx_callK 26 _ _ rfl Try.func26 (by kernel_rfl) #[.pointer (some ⟨g7, 0, none⟩), .slice ab n cb, .slice ae m ce] rfl _ (fun w' hk => hlen g7 w' (hk.row r7 (by simp))) ?_
        simp only [Act.put, List.setIfInBounds_toArray, List.set_cons_zero, List.set_cons_succ]
        refine mx_move rfl rfl ?_
        simp only [Act.put, List.setIfInBounds_toArray, List.set_cons_zero, List.set_cons_succ]
        refine mx_ext rfl rfl rfl ?_
        simp only [Act.put, List.setIfInBounds_toArray, List.set_cons_zero, List.set_cons_succ]
        refine mx_ext rfl rfl rfl ?_
        simp only [Act.put, List.setIfInBounds_toArray, List.set_cons_zero, List.set_cons_succ]
        refine mx_new 24 rfl _ zero_nat ?_
        simp only [Act.put, List.setIfInBounds_toArray, List.set_cons_zero, List.set_cons_succ]
        refine mx_put 15 24 _ _ rfl rfl rfl (natC 0) rfl (by exact size_nat) (by simp only [natC_size]) (natC_one _) ?_
        simp only [Act.put]
        refine mx_asg rfl rfl ?_
        simp only [Act.put, List.setIfInBounds_toArray, List.set_cons_zero, List.set_cons_succ]
        refine mx_end ?_
        intro w5 hkw hrw hnew hdis
        have n9 := hnew 7 rfl
        have zr9 : Row w5 (p 7) (natC 0) 24 := hrw 15 (24, natC 0) rfl
        replace sb := sb.trans (hkw.below w.heap.size sb.size (by simp <;> omega))
        clear hkw hrw hnew hdis n9
        generalize p 7 = g9 at *
        have r9 := zr9
        clear zr9
        clear hlen
        (repeat ((fail_if_success (with_reducible show Code.wp _ (Code.region _ _ _) _ _ _)); go_step))
        apply wp_region_mixp [] [_, _, _, _, _] trivial List.nodup_nil
        · intro p
          refine mx_move rfl rfl ?_
          simp only [Act.put, List.setIfInBounds_toArray, List.set_cons_zero, List.set_cons_succ]
          refine mx_val (.int .i64 n) (exec_len_s 49 _ rfl ab n cb rfl sl_nats) ?_
          simp only [Act.put, List.setIfInBounds_toArray, List.set_cons_zero, List.set_cons_succ]
          refine mx_move rfl rfl ?_
          simp only [Act.put, List.setIfInBounds_toArray, List.set_cons_zero, List.set_cons_succ]
          refine mx_val (.int .i64 m) (exec_len_s 49 _ rfl ae m ce rfl sl_nats) ?_
          simp only [Act.put, List.setIfInBounds_toArray, List.set_cons_zero, List.set_cons_succ]
          refine mx_val (.bool true) (exec_neq_k .i64 _ _ _ _ rfl n m rfl rfl true (by rw [decide_eq_false (by omega)]; rfl)) ?_
          simp only [Act.put, List.setIfInBounds_toArray, List.set_cons_zero, List.set_cons_succ]
          refine mx_end ?_
          intro w6 hkw hrw hnew hdis
          replace r9 := hkw.row r9 (by simp <;> omega)
          replace sb := sb.trans (hkw.below w.heap.size sb.size (by simp <;> omega))
          clear hkw hrw hnew hdis
          (repeat ((fail_if_success (with_reducible show Code.wp _ (Code.region _ _ _) _ _ _)); go_step))
          refine wp_region_qp ?_
          refine qw_load (by rfl) 24 _ rfl _ rfl r9 4 _ Try.underlying24 size_nat ?_
          simp only [Act.put, List.setIfInBounds_toArray, List.set_cons_zero, List.set_cons_succ]
          refine qw_value (by rfl) (.agg (natC 0)) (exec_build0 24 rfl _ built_nat) ?_
          simp only [Act.put, List.setIfInBounds_toArray, List.set_cons_zero, List.set_cons_succ]
          refine qw_value (by rfl) (.bool true) (fun w' => (exec_eql_nat _ _ _ rfl 0 0 rfl rfl w').trans (by rw [decide_eq_true rfl])) ?_
          simp only [Act.put, List.setIfInBounds_toArray, List.set_cons_zero, List.set_cons_succ]
          refine qw_move (by rfl) rfl rfl ?_
          simp only [Act.put, List.setIfInBounds_toArray, List.set_cons_zero, List.set_cons_succ]
          refine qw_move (by rfl) rfl rfl ?_
          simp only [Act.put, List.setIfInBounds_toArray, List.set_cons_zero, List.set_cons_succ]
          refine qw_value (by rfl) (.bool true) (exec_eql_k .i64 _ _ _ _ rfl 1 1 rfl rfl true rfl) ?_
          simp only [Act.put, List.setIfInBounds_toArray, List.set_cons_zero, List.set_cons_succ]
          refine qw_pick true (v := .bool true) (by rfl) rfl rfl rfl ?_
          simp only [Act.put, List.setIfInBounds_toArray, List.set_cons_zero, List.set_cons_succ]
          refine qw_move (by rfl) rfl rfl ?_
          simp only [Act.put, List.setIfInBounds_toArray, List.set_cons_zero, List.set_cons_succ]
          refine qw_call (by rfl) 11 _ _ rfl Try.func11 (by kernel_rfl) #[] rfl _ haw ?_
          simp only [Act.put, List.setIfInBounds_toArray, List.set_cons_zero, List.set_cons_succ]
          refine qw_pick true (v := .bool true) (by rfl) rfl rfl rfl ?_
          simp only [Act.put, List.setIfInBounds_toArray, List.set_cons_zero, List.set_cons_succ]
          refine qw_asg (by rfl) rfl rfl ?_
          simp only [Act.put, List.setIfInBounds_toArray, List.set_cons_zero, List.set_cons_succ]
          refine qw_nil ?_
          intro w7 hqb
          replace sb := below_on sb (Nat.le_refl _) hqb
          clear hqb
          go_wp2
          go_ret
          exact ⟨rfl, sb⟩
        · rfl
      · rfl
  · rfl
theorem walk (M n m cb ce : Nat) (ab ae : Option Addr) (b e : Nat → Nat) (gb ob ge oe : Nat) (bcs ecs : Array Value) (tb te : TypeId) (w : World) (hM : M < 2 ^ 256)
    (hnb : NatsAt w ab n b gb ob bcs tb) (hne : NatsAt w ae m e ge oe ecs te) (hn : n < 9223372036854775808) :
    Calls Try.prog 6 #[.agg (natC M), .slice ab n cb, .slice ae m ce] w fun e w' => e = .returned (.bool true) ∧ Below w.heap.size w w' := by
  by_cases ho : M % 2 = 0
  · exact core0 M n m cb ce ab ae w (fun w' => new_even M w' ho) (fun w' => may_even M w' ho)
  by_cases h1' : M = 1
  · subst h1'
    exact core0 1 n m cb ce ab ae w (fun w' => new_one w') (fun w' => may_odd 1 false w' (by decide) rfl)
  have q : RgQ M := ⟨hM, by omega, by omega⟩
  have hb1 : (!decide (M % 2 ^ 256 = 1 % 2 ^ 256)) = true := by
    rw [Nat.mod_eq_of_lt hM, decide_eq_false (fun h => h1' (h.trans (by decide)))]; rfl
  have lm' : ∀ z, z % M < 2 ^ 256 := fun z => Nat.lt_trans (Nat.mod_lt _ (by omega)) hM
  refine core1 M n m cb ce ab ae b e (fun k => prd (fun i => b i ^ e i) k % M) (fun i => b i ^ e i % M) _ gb ob ge oe bcs ecs tb te w hnb hne (fun w' => new_any M w' q.odd q.two hM) (fun w' => may_odd M true w' q.odd hb1)
    (fun h g w' r => prod_len _ ab ae n m cb ce w' h (fun w2 hb => given_any M _ _ _ g w2 (by omega) hM (r.belowAll hb)))
    (fun h h6 g w' r hb => ?_) (fun g w' r => mul_ok 1 1 M g q w' (by decide) (by decide) r) (fun h i hi g w' r => exp_any (b i) (e i) M g w' (hnb.lt i hi) (hne.lt i (by omega)) hM q.odd q.two r)
    (fun i g w' r => prd_mod (fun i => b i ^ e i) M i ▸ mul_ok _ _ M g q w' (lm' _) (lm' _) r)
  subst h
  exact prod_ok n M b e ab ae cb ce gb ob ge oe bcs ecs tb te g w' ⟨by omega, hM, q.odd, q.two, hnb.below hb, hne.below hb⟩ r

set_option maxRecDepth 100000 in
theorem lifted (os : Os) (started : os.Started) (H : Type) (enc : TypeId × Value → H) :
    ReturnsInHanded {} Try.checked os 6 .any (Rows.montProdsSpec.pre6 enc Try.prog Try.f6 Rows.montProdsRow.domain false) (Rows.montProdsSpec.post enc Try.prog Try.f6 false true false false) := by
  refine returnsInHanded_of_change (C := Try.checked) own started (by kernel_rfl) Try.func6
    (ChangeSpec.witness6 (enc := enc) (C := Try.checked) false ⟨#[], #[.agg #[.int .u64 0, .int .u64 0, .int .u64 0, .int .u64 0], .slice none 0 0, .slice none 0 0], []⟩ 8 (by kernel_rfl) (by kernel_rfl) (by kernel_rfl) (by kernel_rfl)) ?_
  intro W base args ds gs before hval0 hW hcnd _
  have hval : ∀ (j : Nat) t v, Try.f6.params[j]? = some t → args[j]? = some v → Value.okWide Try.prog W .any base t v := hval0
  have hW' := hW
  obtain ⟨p, q, hA0, hV, rfl, hfz, hnd⟩ := hW
  have hA : DataW.TrodAll enc Try.prog W 0 (fun _ => true) true Try.f6.params.toList args.toList ds p := hA0
  rw [Try.params6] at hA hval
  obtain ⟨v0, vs0, d0, ds0, p0, q0, hargs, rfl, rfl, h0, r0⟩ := trodAll_cons hA
  obtain ⟨v1, vs1, d1, ds1, p1, q1, rfl, rfl, rfl, h1, r1⟩ := trodAll_cons r0
  obtain ⟨v2, vs2, d2, ds2, p2, q2, rfl, rfl, rfl, h2, r2⟩ := trodAll_cons r1
  obtain ⟨rfl, rfl, rfl⟩ := trodAll_nil r2
  obtain rfl : args = #[v0, v1, v2] := by cases args; simp_all
  obtain ⟨rfl, rfl⟩ := trodVars_none hV
  have k0 := h0
  have lt0 := lt_of_trod h0
  obtain ⟨N0, hN0, rfl⟩ := open_nat (hval 0 24 v0 rfl rfl) h0
  have k1 := h1
  have lt1 := lt_of_trod h1
  obtain ⟨ab, n, cb, b, gb, ob, bcs, tb, rfl, l1, l2, q1⟩ := open_nats (hval 1 49 v1 rfl rfl) h1
  have k2 := h2
  have lt2 := lt_of_trod h2
  obtain ⟨ae, m, ce, x, ge, oe, ecs, te, rfl, l3, l4, q2⟩ := open_nats (hval 2 49 v2 rfl rfl) h2
  clear hA0 hval0
  refine (walk N0 n m cb ce ab ae b x gb ob ge oe bcs ecs tb te W hN0 q1 q2 (Nat.lt_of_le_of_lt (Nat.le_trans l1 l2) (by decide))).mono fun e W' ⟨he, bel⟩ => ?_
  subst he
  exact ⟨_, rfl, _, _, _, [], _, [], hW', trodAll_mk1 (shut_bool Try.underlying4 _), (trodAll_cons_mk (Below.trod laidOut (by kernel_rfl) (of_decide_eq_true (by kernel_rfl)) k0 bel lt0) (trodAll_cons_mk (Below.trod laidOut (by kernel_rfl) (of_decide_eq_true (by kernel_rfl)) k1 bel lt1) (trodAll_cons_mk (Below.trod laidOut (by kernel_rfl) (of_decide_eq_true (by kernel_rfl)) k2 bel lt2) trodAll_mk0))), rfl, bel.frame _, fun h => by cases h⟩

theorem over : Rows.montProdsRow.holds Try.pinned (OpenSpec.ofChange Rows.montProdsSpec) :=
  OpenClaim.holds_of_wide 6 Try.f6 rfl rfl rfl rfl rfl rfl rfl ⟨rfl, rfl, rfl, rfl, rfl⟩ rfl rfl rfl rfl rfl (by kernel_rfl) Try.func6 (by kernel_rfl)
    (of_decide_eq_true (by kernel_rfl)) (by unfold Func.isWrapper; first | (rw [if_pos (by decide +kernel)]; kernel_rfl) | (rw [if_neg (by decide +kernel)]; exact ⟨rfl, rfl⟩))
    (fun os started H enc _ => lifted os started H enc)

end montProdsP

/-- for every natural and any naturals as bases and exponents: the product of the powers is what they are, one multiplied with the other; lengths that differ are refused; no condition. -/
theorem montProds_holds : Rows.MontProdsSaid := montProdsP.over
end Go.Proofs.Ytcdfefljagddmaa
