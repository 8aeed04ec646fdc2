/- MontAdds: for every two naturals and all exponents below 2^120: where there is a ring, powers of one base are multiplied as their exponents are added, a power's power is that of the product, a product's power the product of the powers; no condition. -/
import Derived.Test.YtcdfefljagddmaaMRef
import Derived.Test.YtcdfefljagddmaaGS
import Derived.Test.YtcdfefljagddmaaGU
namespace Go.Proofs.Ytcdfefljagddmaa
open Go.ChangeShapes Go.WideShapes Go.ChangeAt Go.RowKit
/-- Two times two limbs. -/
def ex4 (x0 x1 y0 y1 : Nat) : Array Value := #[.int .u64 x0, .int .u64 x1, .int .u64 y0, .int .u64 y1]
theorem exec_shr_uu {P : Program} {o : Oper} {ρ : Operand → Value} (t : TypeId) (x y : Operand) (u : TypeId) (ho : o.op = .binOp .shr t x y u) (n s : Nat) (hx : ρ x = .int .u64 n) (hy : ρ y = .int .u64 s) (hs : s < 64) (w : World) :
    (execOp ρ o).run P w = .ok (.value (.int .u64 ((n / 2 ^ s : Nat) : Int))) w := by
  unfold execOp
  simp only [ho, hx, hy]
  simp [go_sem]
theorem built2 (a b : Int) : Try.prog.built 24 [(0, .int .u64 a), (1, .int .u64 b)] = some #[.int .u64 a, .int .u64 b, .int .u64 0, .int .u64 0] := by kernel_rfl
theorem built4 (a b c d : Int) : Try.prog.built 24 [(0, .int .u64 a), (1, .int .u64 b), (2, .int .u64 c), (3, .int .u64 d)] = some #[.int .u64 a, .int .u64 b, .int .u64 c, .int .u64 d] := by kernel_rfl
theorem exec_build2 {o : Oper} {ρ : Operand → Value} (x y : Operand) (ho : o.op = .build 24 #[(0, x), (1, y)]) (a b : Int) (h0 : ρ x = .int .u64 a) (h1 : ρ y = .int .u64 b) (N : Nat) (hn : natC N = #[.int .u64 a, .int .u64 b, .int .u64 0, .int .u64 0]) (w : World) :
    (execOp ρ o).run Try.prog w = .ok (.value (.agg (natC N))) w := by
  unfold execOp
  simp only [ho, List.map_toArray, List.map_cons, List.map_nil, h0, h1, Sem.run_bind]
  rw [run_build w 24 _ (natC N) (by rw [hn]; exact built2 a b)]
  rfl
theorem exec_build4 {o : Oper} {ρ : Operand → Value} (x y z u : Operand) (ho : o.op = .build 24 #[(0, x), (1, y), (2, z), (3, u)]) (a b c d : Int) (h0 : ρ x = .int .u64 a) (h1 : ρ y = .int .u64 b) (h2 : ρ z = .int .u64 c) (h3 : ρ u = .int .u64 d) (N : Nat) (hn : natC N = #[.int .u64 a, .int .u64 b, .int .u64 c, .int .u64 d]) (w : World) :
    (execOp ρ o).run Try.prog w = .ok (.value (.agg (natC N))) w := by
  unfold execOp
  simp only [ho, List.map_toArray, List.map_cons, List.map_nil, h0, h1, h2, h3, Sem.run_bind]
  rw [run_build w 24 _ (natC N) (by rw [hn]; exact built4 a b c d)]
  rfl
namespace montAddsP

set_option maxRecDepth 100000 in
set_option maxHeartbeats 4000000 in
theorem core0 (A M x0 x1 y0 y1 : Nat) (w : World)
    (hnew : ∀ w', Calls Try.prog 9 #[.agg (natC M)] w' fun e w2 => e = .returned (.tuple #[.pointer none, .int .i64 1]) ∧ Below w'.heap.size w' w2)
    (hmay : ∀ w', Calls Try.prog 10 #[.agg (natC M)] w' fun e w2 => e = .returned (.bool false) ∧ Below w'.heap.size w' w2) :
    Calls Try.prog 5 #[.agg (natC A), .agg (natC M), .agg (ex4 x0 x1 y0 y1)] w fun e w' => e = .returned (.bool true) ∧ Below w.heap.size w w' := by
  have haw := awake3_any
  go_enter Try.func5, Try.ntmps5
  (repeat ((fail_if_success (with_reducible show Code.wp _ (Code.region _ _ _) _ _ _)); go_step))
  apply wp_region_mixp [] [_, _, _, _] trivial List.nodup_nil
  · intro p
    refine mx_box 24 _ rfl _ rfl ?_
    simp only [Act.put, List.setIfInBounds_toArray, List.set_cons_zero, List.set_cons_succ]
    refine mx_box 24 _ rfl _ rfl ?_
    simp only [Act.put, List.setIfInBounds_toArray, List.set_cons_zero, List.set_cons_succ]
    refine mx_box 42 _ rfl _ rfl ?_
    simp only [Act.put, List.setIfInBounds_toArray, List.set_cons_zero, List.set_cons_succ]
    refine mx_val (.bool false) (fun _ => rfl) ?_
    simp only [Act.put, List.setIfInBounds_toArray, List.set_cons_zero, List.set_cons_succ]
    refine mx_end ?_
    intro w2 hkw hrw hnew2 _
    have r4 : Row w2 (p 1) (natC M) 24 := hrw 3 (24, natC M) rfl
    have sb : Below w.heap.size w w2 := hkw.below w.heap.size (Nat.le_refl _) (by simp)
    clear hkw hrw hnew2
    generalize p 0 = g3 at *
    generalize p 1 = g4 at *
    generalize p 2 = g5 at *
    (repeat ((fail_if_success (with_reducible show Code.wp _ (Code.region _ _ _) _ _ _)); go_step))
    apply wp_region_mixp [] [_, _, _, _, _, _, _] trivial List.nodup_nil
    · intro p
      refine mx_load 24 _ rfl _ rfl r4 (by simp <;> omega) 4 _ Try.underlying24 size_nat ?_
      simp only [Act.put, List.setIfInBounds_toArray, List.set_cons_zero, List.set_cons_succ]
      refine mx_call 9 _ _ rfl Try.func9 (by kernel_rfl) #[.agg (natC M)] rfl _ hnew ?_
      simp only [Act.put, List.setIfInBounds_toArray, List.set_cons_zero, List.set_cons_succ]
      refine mx_move rfl rfl ?_
      simp only [Act.put, List.setIfInBounds_toArray, List.set_cons_zero, List.set_cons_succ]
      refine mx_ext rfl rfl rfl ?_
      simp only [Act.put, List.setIfInBounds_toArray, List.set_cons_zero, List.set_cons_succ]
      refine mx_ext rfl rfl rfl ?_
      simp only [Act.put, List.setIfInBounds_toArray, List.set_cons_zero, List.set_cons_succ]
      refine mx_asg rfl rfl ?_
      simp only [Act.put, List.setIfInBounds_toArray, List.set_cons_zero, List.set_cons_succ]
      refine mx_asg rfl rfl ?_
      simp only [Act.put, List.setIfInBounds_toArray, List.set_cons_zero, List.set_cons_succ]
      refine mx_end ?_
      intro w3 hkw hrw hnew hdis
      replace r4 := hkw.row r4 (by simp <;> omega)
      replace sb := sb.trans (hkw.below w.heap.size sb.size (by simp <;> omega))
      clear hkw hrw hnew hdis
      (repeat ((fail_if_success (with_reducible show Code.wp _ (Code.region _ _ _) _ _ _)); go_step))
      apply wp_region_mixp [] [_, _, _] trivial List.nodup_nil
      · intro p
        refine mx_load 24 _ rfl _ rfl r4 (by simp <;> omega) 4 _ Try.underlying24 size_nat ?_
        simp only [Act.put, List.setIfInBounds_toArray, List.set_cons_zero, List.set_cons_succ]
        refine mx_call 10 _ _ rfl Try.func10 (by kernel_rfl) #[.agg (natC M)] rfl _ hmay ?_
        simp only [Act.put, List.setIfInBounds_toArray, List.set_cons_zero, List.set_cons_succ]
        refine mx_val (.bool true) (exec_not _ _ rfl false rfl) ?_
        simp only [Act.put, List.setIfInBounds_toArray, List.set_cons_zero, List.set_cons_succ]
        refine mx_end ?_
        intro w4 hkw hrw hnew hdis
        replace sb := sb.trans (hkw.below w.heap.size sb.size (by simp <;> omega))
        clear hkw hrw hnew hdis
        (repeat ((fail_if_success (with_reducible show Code.wp _ (Code.region _ _ _) _ _ _)); go_step))
        refine wp_region_qp ?_
        refine qw_move (by rfl) rfl rfl ?_
        simp only [Act.put, List.setIfInBounds_toArray, List.set_cons_zero, List.set_cons_succ]
        refine qw_value (by rfl) (.bool true) (exec_eql_nilp 25 _ _ _ rfl none rfl rfl ptr_ring) ?_
        simp only [Act.put, List.setIfInBounds_toArray, List.set_cons_zero, List.set_cons_succ]
        refine qw_move (by rfl) rfl rfl ?_
        simp only [Act.put, List.setIfInBounds_toArray, List.set_cons_zero, List.set_cons_succ]
        refine qw_move (by rfl) rfl rfl ?_
        simp only [Act.put, List.setIfInBounds_toArray, List.set_cons_zero, List.set_cons_succ]
        refine qw_value (by rfl) (.bool true) (exec_eql_k .i64 _ _ _ _ rfl 1 1 rfl rfl true rfl) ?_
        simp only [Act.put, List.setIfInBounds_toArray, List.set_cons_zero, List.set_cons_succ]
        refine qw_pick true (v := .bool true) (by rfl) rfl rfl rfl ?_
        simp only [Act.put, List.setIfInBounds_toArray, List.set_cons_zero, List.set_cons_succ]
        refine qw_move (by rfl) rfl rfl ?_
        simp only [Act.put, List.setIfInBounds_toArray, List.set_cons_zero, List.set_cons_succ]
        refine qw_call (by rfl) 11 _ _ rfl Try.func11 (by kernel_rfl) #[] rfl _ haw ?_
        simp only [Act.put, List.setIfInBounds_toArray, List.set_cons_zero, List.set_cons_succ]
        refine qw_pick true (v := .bool true) (by rfl) rfl rfl rfl ?_
        simp only [Act.put, List.setIfInBounds_toArray, List.set_cons_zero, List.set_cons_succ]
        refine qw_asg (by rfl) rfl rfl ?_
        simp only [Act.put, List.setIfInBounds_toArray, List.set_cons_zero, List.set_cons_succ]
        refine qw_nil ?_
        intro w5 hqb
        replace sb := below_on sb (Nat.le_refl _) hqb
        clear hqb
        go_wp2
        go_ret
        exact ⟨rfl, sb⟩
      · rfl
    · rfl
  · rfl
set_option maxRecDepth 100000 in
set_option maxHeartbeats 4000000 in
theorem core1 (A M x0 x1 y0 y1 X Y S P H B a1 a2 aS aP AB pB b1 : Nat) (c0 : Int) (RG : Array Value) (w : World)
    (hX : natC X = #[.int .u64 x0, .int .u64 ((x1 / 2 ^ 8 : Nat) : Int), .int .u64 0, .int .u64 0]) (hY : natC Y = #[.int .u64 y0, .int .u64 ((y1 / 2 ^ 8 : Nat) : Int), .int .u64 0, .int .u64 0])
    (hB : natC B = #[.int .u64 (lm A 3 : Nat), .int .u64 (lm A 2 : Nat), .int .u64 (lm M 1 : Nat), .int .u64 (lm M 0 : Nat)])
    (hnew : ∀ w', Calls Try.prog 9 #[.agg (natC M)] w' fun e w2 => ∃ g, e = .returned (.tuple #[.pointer (some ⟨g, 0, none⟩), .int .i64 0]) ∧ w'.heap.size ≤ g ∧ Row w2 g RG 53 ∧ Below w'.heap.size w' w2)
    (hmay : ∀ w', Calls Try.prog 10 #[.agg (natC M)] w' fun e w2 => e = .returned (.bool true) ∧ Below w'.heap.size w' w2)
    (hadd : ∀ w', Calls Try.prog 24 #[.agg (natC X), .agg (natC Y)] w' fun e w2 => e = .returned (.tuple #[.agg (natC S), .int .i64 c0]) ∧ Below w'.heap.size w' w2)
    (hmu2 : ∀ w', Calls Try.prog 25 #[.agg (natC X), .agg (natC Y)] w' fun e w2 => e = .returned (.tuple #[.agg (natC P), .agg (natC H)]) ∧ Below w'.heap.size w' w2)
    (e1 : ∀ g w', Row w' g RG 53 → Calls Try.prog 22 #[.pointer (some ⟨g, 0, none⟩), .agg (natC A), .agg (natC X)] w' fun e w2 => e = .returned (.agg (natC a1)) ∧ Below w'.heap.size w' w2)
    (e2 : ∀ g w', Row w' g RG 53 → Calls Try.prog 22 #[.pointer (some ⟨g, 0, none⟩), .agg (natC A), .agg (natC Y)] w' fun e w2 => e = .returned (.agg (natC a2)) ∧ Below w'.heap.size w' w2)
    (m1 : ∀ g w', Row w' g RG 53 → Calls Try.prog 14 #[.pointer (some ⟨g, 0, none⟩), .agg (natC a1), .agg (natC a2)] w' fun e w2 => e = .returned (.agg (natC aS)) ∧ Below w'.heap.size w' w2)
    (e3 : ∀ g w', Row w' g RG 53 → Calls Try.prog 22 #[.pointer (some ⟨g, 0, none⟩), .agg (natC A), .agg (natC S)] w' fun e w2 => e = .returned (.agg (natC aS)) ∧ Below w'.heap.size w' w2)
    (e4 : ∀ g w', Row w' g RG 53 → Calls Try.prog 22 #[.pointer (some ⟨g, 0, none⟩), .agg (natC a1), .agg (natC Y)] w' fun e w2 => e = .returned (.agg (natC aP)) ∧ Below w'.heap.size w' w2)
    (e5 : ∀ g w', Row w' g RG 53 → Calls Try.prog 22 #[.pointer (some ⟨g, 0, none⟩), .agg (natC A), .agg (natC P)] w' fun e w2 => e = .returned (.agg (natC aP)) ∧ Below w'.heap.size w' w2)
    (m2 : ∀ g w', Row w' g RG 53 → Calls Try.prog 14 #[.pointer (some ⟨g, 0, none⟩), .agg (natC A), .agg (natC B)] w' fun e w2 => e = .returned (.agg (natC AB)) ∧ Below w'.heap.size w' w2)
    (e6 : ∀ g w', Row w' g RG 53 → Calls Try.prog 22 #[.pointer (some ⟨g, 0, none⟩), .agg (natC AB), .agg (natC X)] w' fun e w2 => e = .returned (.agg (natC pB)) ∧ Below w'.heap.size w' w2)
    (e7 : ∀ g w', Row w' g RG 53 → Calls Try.prog 22 #[.pointer (some ⟨g, 0, none⟩), .agg (natC B), .agg (natC X)] w' fun e w2 => e = .returned (.agg (natC b1)) ∧ Below w'.heap.size w' w2)
    (m3 : ∀ g w', Row w' g RG 53 → Calls Try.prog 14 #[.pointer (some ⟨g, 0, none⟩), .agg (natC a1), .agg (natC b1)] w' fun e w2 => e = .returned (.agg (natC pB)) ∧ Below w'.heap.size w' w2) :
    Calls Try.prog 5 #[.agg (natC A), .agg (natC M), .agg (ex4 x0 x1 y0 y1)] w fun e w' => e = .returned (.bool true) ∧ Below w.heap.size w w' := by
  have haw := awake3_any
  go_enter Try.func5, Try.ntmps5
  (repeat ((fail_if_success (with_reducible show Code.wp _ (Code.region _ _ _) _ _ _)); go_step))
  apply wp_region_mixp [] [_, _, _, _] trivial List.nodup_nil
  · intro p
    refine mx_box 24 _ rfl _ rfl ?_
    simp only [Act.put, List.setIfInBounds_toArray, List.set_cons_zero, List.set_cons_succ]
    refine mx_box 24 _ rfl _ rfl ?_
    simp only [Act.put, List.setIfInBounds_toArray, List.set_cons_zero, List.set_cons_succ]
    refine mx_box 42 _ rfl _ rfl ?_
    simp only [Act.put, List.setIfInBounds_toArray, List.set_cons_zero, List.set_cons_succ]
    refine mx_val (.bool false) (fun _ => rfl) ?_
    simp only [Act.put, List.setIfInBounds_toArray, List.set_cons_zero, List.set_cons_succ]
    refine mx_end ?_
    intro w2 hkw hrw hnew2 _
    have r3 : Row w2 (p 0) (natC A) 24 := hrw 1 (24, natC A) rfl
    have r4 : Row w2 (p 1) (natC M) 24 := hrw 3 (24, natC M) rfl
    have r5 : Row w2 (p 2) (ex4 x0 x1 y0 y1) 42 := hrw 5 (42, (ex4 x0 x1 y0 y1)) rfl
    have sb : Below w.heap.size w w2 := hkw.below w.heap.size (Nat.le_refl _) (by simp)
    clear hkw hrw hnew2
    generalize p 0 = g3 at *
    generalize p 1 = g4 at *
    generalize p 2 = g5 at *
    go_wp2_with (first
      | refine wpList_loadR rfl 24 _ rfl _ rfl r4 4 _ Try.underlying24 (by exact size_nat) ?_)
    refine (hnew _).mono ?_
    rintro _ wb ⟨g7, rfl, hg7, r7, bb⟩
    replace r3 := r3.belowAll bb
    replace r4 := r4.belowAll bb
    replace r5 := r5.belowAll bb
    replace sb := below_on sb (Nat.le_refl _) bb
    clear bb hg7 hnew
    dsimp only
    (repeat ((fail_if_success (with_reducible show Code.wp _ (Code.region _ _ _) _ _ _)); go_step))
    apply wp_region_mixp [] [_, _, _] trivial List.nodup_nil
    · intro p
      refine mx_load 24 _ rfl _ rfl r4 (by simp <;> omega) 4 _ Try.underlying24 size_nat ?_
      simp only [Act.put, List.setIfInBounds_toArray, List.set_cons_zero, List.set_cons_succ]
      refine mx_call 10 _ _ rfl Try.func10 (by kernel_rfl) #[.agg (natC M)] rfl _ hmay ?_
      simp only [Act.put, List.setIfInBounds_toArray, List.set_cons_zero, List.set_cons_succ]
      refine mx_val (.bool false) (exec_not _ _ rfl true rfl) ?_
      simp only [Act.put, List.setIfInBounds_toArray, List.set_cons_zero, List.set_cons_succ]
      refine mx_end ?_
      intro w4 hkw hrw hnew hdis
      replace r3 := hkw.row r3 (by simp <;> omega)
      replace r4 := hkw.row r4 (by simp <;> omega)
      replace r5 := hkw.row r5 (by simp <;> omega)
      replace r7 := hkw.row r7 (by simp <;> omega)
      replace sb := sb.trans (hkw.below w.heap.size sb.size (by simp <;> omega))
      clear hkw hrw hnew hdis
      (repeat ((fail_if_success (with_reducible show Code.wp _ (Code.region _ _ _) _ _ _)); go_step))
      refine wp_region_qp ?_
      refine qw_move (by rfl) rfl rfl ?_
      simp only [Act.put, List.setIfInBounds_toArray, List.set_cons_zero, List.set_cons_succ]
      refine qw_value (by rfl) (.bool false) (exec_neq_k .i64 _ _ _ _ rfl 0 0 rfl rfl false rfl) ?_
      simp only [Act.put, List.setIfInBounds_toArray, List.set_cons_zero, List.set_cons_succ]
      refine qw_move (by rfl) rfl rfl ?_
      simp only [Act.put, List.setIfInBounds_toArray, List.set_cons_zero, List.set_cons_succ]
      refine qw_move (by rfl) rfl rfl ?_
      simp only [Act.put, List.setIfInBounds_toArray, List.set_cons_zero, List.set_cons_succ]
      refine qw_value (by rfl) (.bool false) (exec_eql_nilp 25 _ _ _ rfl (some ⟨g7, 0, none⟩) rfl rfl ptr_ring) ?_
      simp only [Act.put, List.setIfInBounds_toArray, List.set_cons_zero, List.set_cons_succ]
      refine qw_pick false (v := .bool false) (by rfl) rfl rfl rfl ?_
      simp only [Act.put, List.setIfInBounds_toArray, List.set_cons_zero, List.set_cons_succ]
      refine qw_nil ?_
      intro w5 hqb
      replace r3 := r3.belowAll hqb
      replace r4 := r4.belowAll hqb
      replace r5 := r5.belowAll hqb
      replace r7 := r7.belowAll hqb
      replace sb := below_on sb (Nat.le_refl _) hqb
      clear hqb
      (repeat ((fail_if_success (with_reducible show Code.wp _ (Code.region _ _ _) _ _ _)); go_step))
      apply wp_region_mix (by kernel_rfl) [] [_, _, _, _, _, _, _, _, _, _, _, _, _, _, _, _, _, _, _, _] trivial List.nodup_nil
      · intro p
        refine mx_val (.pointer (some ⟨g5, 0 + 0 * 2, none⟩)) (exec_index_g 42 _ _ rfl g5 0 rfl 0 2 rfl (by omega) _ Try.underlying42 2 Try.sizeOf41) ?_
        simp only [Act.put, List.setIfInBounds_toArray, List.set_cons_zero, List.set_cons_succ]
        refine mx_val (.pointer (some ⟨g5, 0 + 0 * 2 + 0 * 1, none⟩)) (exec_index_g 41 _ _ rfl g5 (0 + 0 * 2) rfl 0 2 rfl (by omega) _ Try.underlying41 1 Try.sizeOf22) ?_
        simp only [Act.put, List.setIfInBounds_toArray, List.set_cons_zero, List.set_cons_succ]
        refine mx_loadc 22 _ rfl _ (0) rfl r5 (by simp <;> omega) (.int .u64 x0) rfl Try.isAgg22 ?_
        simp only [Act.put, List.setIfInBounds_toArray, List.set_cons_zero, List.set_cons_succ]
        refine mx_val (.pointer (some ⟨g5, 0 + 0 * 2, none⟩)) (exec_index_g 42 _ _ rfl g5 0 rfl 0 2 rfl (by omega) _ Try.underlying42 2 Try.sizeOf41) ?_
        simp only [Act.put, List.setIfInBounds_toArray, List.set_cons_zero, List.set_cons_succ]
        refine mx_val (.pointer (some ⟨g5, 0 + 0 * 2 + 1 * 1, none⟩)) (exec_index_g 41 _ _ rfl g5 (0 + 0 * 2) rfl 1 2 rfl (by omega) _ Try.underlying41 1 Try.sizeOf22) ?_
        simp only [Act.put, List.setIfInBounds_toArray, List.set_cons_zero, List.set_cons_succ]
        refine mx_loadc 22 _ rfl _ (1) rfl r5 (by simp <;> omega) (.int .u64 x1) rfl Try.isAgg22 ?_
        simp only [Act.put, List.setIfInBounds_toArray, List.set_cons_zero, List.set_cons_succ]
        refine mx_val (.int .u64 ((x1 / 2 ^ 8 : Nat) : Int)) (exec_shr_uu _ _ _ _ rfl x1 8 rfl rfl (by decide)) ?_
        simp only [Act.put, List.setIfInBounds_toArray, List.set_cons_zero, List.set_cons_succ]
        refine mx_val (.agg (natC X)) (exec_build2 _ _ rfl x0 ((x1 / 2 ^ 8 : Nat) : Int) rfl rfl X hX) ?_
        simp only [Act.put, List.setIfInBounds_toArray, List.set_cons_zero, List.set_cons_succ]
        refine mx_val (.pointer (some ⟨g5, 0 + 1 * 2, none⟩)) (exec_index_g 42 _ _ rfl g5 0 rfl 1 2 rfl (by omega) _ Try.underlying42 2 Try.sizeOf41) ?_
        simp only [Act.put, List.setIfInBounds_toArray, List.set_cons_zero, List.set_cons_succ]
        refine mx_val (.pointer (some ⟨g5, 0 + 1 * 2 + 0 * 1, none⟩)) (exec_index_g 41 _ _ rfl g5 (0 + 1 * 2) rfl 0 2 rfl (by omega) _ Try.underlying41 1 Try.sizeOf22) ?_
        simp only [Act.put, List.setIfInBounds_toArray, List.set_cons_zero, List.set_cons_succ]
        refine mx_loadc 22 _ rfl _ (2) rfl r5 (by simp <;> omega) (.int .u64 y0) rfl Try.isAgg22 ?_
        simp only [Act.put, List.setIfInBounds_toArray, List.set_cons_zero, List.set_cons_succ]
        refine mx_val (.pointer (some ⟨g5, 0 + 1 * 2, none⟩)) (exec_index_g 42 _ _ rfl g5 0 rfl 1 2 rfl (by omega) _ Try.underlying42 2 Try.sizeOf41) ?_
        simp only [Act.put, List.setIfInBounds_toArray, List.set_cons_zero, List.set_cons_succ]
        refine mx_val (.pointer (some ⟨g5, 0 + 1 * 2 + 1 * 1, none⟩)) (exec_index_g 41 _ _ rfl g5 (0 + 1 * 2) rfl 1 2 rfl (by omega) _ Try.underlying41 1 Try.sizeOf22) ?_
        simp only [Act.put, List.setIfInBounds_toArray, List.set_cons_zero, List.set_cons_succ]
        refine mx_loadc 22 _ rfl _ (3) rfl r5 (by simp <;> omega) (.int .u64 y1) rfl Try.isAgg22 ?_
        simp only [Act.put, List.setIfInBounds_toArray, List.set_cons_zero, List.set_cons_succ]
        refine mx_val (.int .u64 ((y1 / 2 ^ 8 : Nat) : Int)) (exec_shr_uu _ _ _ _ rfl y1 8 rfl rfl (by decide)) ?_
        simp only [Act.put, List.setIfInBounds_toArray, List.set_cons_zero, List.set_cons_succ]
        refine mx_val (.agg (natC Y)) (exec_build2 _ _ rfl y0 ((y1 / 2 ^ 8 : Nat) : Int) rfl rfl Y hY) ?_
        simp only [Act.put, List.setIfInBounds_toArray, List.set_cons_zero, List.set_cons_succ]
        refine mx_new 24 rfl _ zero_nat ?_
        simp only [Act.put, List.setIfInBounds_toArray, List.set_cons_zero, List.set_cons_succ]
        refine mx_new 24 rfl _ zero_nat ?_
        simp only [Act.put, List.setIfInBounds_toArray, List.set_cons_zero, List.set_cons_succ]
        refine mx_put 33 24 _ _ rfl rfl rfl (natC X) rfl (by exact size_nat) (by simp only [natC_size]) (natC_one _) ?_
        simp only [Act.put]
        refine mx_put 35 24 _ _ rfl rfl rfl (natC Y) rfl (by exact size_nat) (by simp only [natC_size]) (natC_one _) ?_
        simp only [Act.put]
        refine mx_end ?_
        intro w6 hkw hrw hnew hdis
        have n9 := hnew 16 rfl
        have n10 := hnew 17 rfl
        have zr9 : Row w6 (p 16) (natC X) 24 := hrw 33 (24, natC X) rfl
        have zr10 : Row w6 (p 17) (natC Y) 24 := hrw 35 (24, natC Y) rfl
        replace r3 := hkw.row r3 (by simp <;> omega)
        replace r4 := hkw.row r4 (by simp <;> omega)
        replace r7 := hkw.row r7 (by simp <;> omega)
        replace sb := sb.trans (hkw.below w.heap.size sb.size (by simp <;> omega))
        clear hkw hrw hnew hdis n9 n10
        generalize p 16 = g9 at *
        generalize p 17 = g10 at *
        have r9 := zr9
        clear zr9
        have r10 := zr10
        clear zr10
        (repeat ((fail_if_success (with_reducible show Code.wp _ (Code.region _ _ _) _ _ _)); go_step))
        apply wp_region_mixp [] [_, _, _, _, _, _, _, _, _] trivial List.nodup_nil
        · intro p
          refine mx_load 24 _ rfl _ rfl r9 (by simp <;> omega) 4 _ Try.underlying24 size_nat ?_
          simp only [Act.put, List.setIfInBounds_toArray, List.set_cons_zero, List.set_cons_succ]
          refine mx_load 24 _ rfl _ rfl r10 (by simp <;> omega) 4 _ Try.underlying24 size_nat ?_
          simp only [Act.put, List.setIfInBounds_toArray, List.set_cons_zero, List.set_cons_succ]
          refine mx_call 24 _ _ rfl Try.func24 (by kernel_rfl) #[.agg (natC X), .agg (natC Y)] rfl _ hadd ?_
          simp only [Act.put, List.setIfInBounds_toArray, List.set_cons_zero, List.set_cons_succ]
          refine mx_move rfl rfl ?_
          simp only [Act.put, List.setIfInBounds_toArray, List.set_cons_zero, List.set_cons_succ]
          refine mx_ext rfl rfl rfl ?_
          simp only [Act.put, List.setIfInBounds_toArray, List.set_cons_zero, List.set_cons_succ]
          refine mx_ext rfl rfl rfl ?_
          simp only [Act.put, List.setIfInBounds_toArray, List.set_cons_zero, List.set_cons_succ]
          refine mx_new 24 rfl _ zero_nat ?_
          simp only [Act.put, List.setIfInBounds_toArray, List.set_cons_zero, List.set_cons_succ]
          refine mx_put 13 24 _ _ rfl rfl rfl (natC S) rfl (by exact size_nat) (by simp only [natC_size]) (natC_one _) ?_
          simp only [Act.put]
          refine mx_asg rfl rfl ?_
          simp only [Act.put, List.setIfInBounds_toArray, List.set_cons_zero, List.set_cons_succ]
          refine mx_end ?_
          intro w7 hkw hrw hnew hdis
          have n11 := hnew 6 rfl
          have zr11 : Row w7 (p 6) (natC S) 24 := hrw 13 (24, natC S) rfl
          replace r3 := hkw.row r3 (by simp <;> omega)
          replace r4 := hkw.row r4 (by simp <;> omega)
          replace r7 := hkw.row r7 (by simp <;> omega)
          replace r9 := hkw.row r9 (by simp <;> omega)
          replace r10 := hkw.row r10 (by simp <;> omega)
          replace sb := sb.trans (hkw.below w.heap.size sb.size (by simp <;> omega))
          clear hkw hrw hnew hdis n11
          generalize p 6 = g11 at *
          have r11 := zr11
          clear zr11
          (repeat ((fail_if_success (with_reducible show Code.wp _ (Code.region _ _ _) _ _ _)); go_step))
          apply wp_region_mixp [] [_, _, _, _, _, _, _, _, _, _] trivial List.nodup_nil
          · intro p
            refine mx_load 24 _ rfl _ rfl r9 (by simp <;> omega) 4 _ Try.underlying24 size_nat ?_
            simp only [Act.put, List.setIfInBounds_toArray, List.set_cons_zero, List.set_cons_succ]
            refine mx_load 24 _ rfl _ rfl r10 (by simp <;> omega) 4 _ Try.underlying24 size_nat ?_
            simp only [Act.put, List.setIfInBounds_toArray, List.set_cons_zero, List.set_cons_succ]
            refine mx_call 25 _ _ rfl Try.func25 (by kernel_rfl) #[.agg (natC X), .agg (natC Y)] rfl _ hmu2 ?_
            simp only [Act.put, List.setIfInBounds_toArray, List.set_cons_zero, List.set_cons_succ]
            refine mx_move rfl rfl ?_
            simp only [Act.put, List.setIfInBounds_toArray, List.set_cons_zero, List.set_cons_succ]
            refine mx_ext rfl rfl rfl ?_
            simp only [Act.put, List.setIfInBounds_toArray, List.set_cons_zero, List.set_cons_succ]
            refine mx_ext rfl rfl rfl ?_
            simp only [Act.put, List.setIfInBounds_toArray, List.set_cons_zero, List.set_cons_succ]
            refine mx_new 24 rfl _ zero_nat ?_
            simp only [Act.put, List.setIfInBounds_toArray, List.set_cons_zero, List.set_cons_succ]
            refine mx_new 24 rfl _ zero_nat ?_
            simp only [Act.put, List.setIfInBounds_toArray, List.set_cons_zero, List.set_cons_succ]
            refine mx_put 13 24 _ _ rfl rfl rfl (natC P) rfl (by exact size_nat) (by simp only [natC_size]) (natC_one _) ?_
            simp only [Act.put]
            refine mx_put 15 24 _ _ rfl rfl rfl (natC H) rfl (by exact size_nat) (by simp only [natC_size]) (natC_one _) ?_
            simp only [Act.put]
            refine mx_end ?_
            intro w8 hkw hrw hnew hdis
            have n13 := hnew 6 rfl
            have n14 := hnew 7 rfl
            have zr13 : Row w8 (p 6) (natC P) 24 := hrw 13 (24, natC P) rfl
            have zr14 : Row w8 (p 7) (natC H) 24 := hrw 15 (24, natC H) rfl
            replace r3 := hkw.row r3 (by simp <;> omega)
            replace r4 := hkw.row r4 (by simp <;> omega)
            replace r7 := hkw.row r7 (by simp <;> omega)
            replace r9 := hkw.row r9 (by simp <;> omega)
            replace r10 := hkw.row r10 (by simp <;> omega)
            replace r11 := hkw.row r11 (by simp <;> omega)
            replace sb := sb.trans (hkw.below w.heap.size sb.size (by simp <;> omega))
            clear hkw hrw hnew hdis n13 n14
            generalize p 6 = g13 at *
            generalize p 7 = g14 at *
            have r13 := zr13
            clear zr13
            have r14 := zr14
            clear zr14
            (repeat ((fail_if_success (with_reducible show Code.wp _ (Code.region _ _ _) _ _ _)); go_step))
            apply wp_region_mixp [] [_, _, _, _, _, _, _, _, _, _, _] trivial List.nodup_nil
            · intro p
              refine mx_val (.pointer (some ⟨g3, 3, none⟩)) (exec_index 24 _ _ rfl (g3) rfl (3) 4 rfl (by omega) _ Try.underlying24 Try.sizeOf22) ?_
              simp only [Act.put, List.setIfInBounds_toArray, List.set_cons_zero, List.set_cons_succ]
              refine mx_loadc 22 _ rfl _ (3) rfl r3 (by simp <;> omega) (.int .u64 (lm A 3 : Nat)) (natC_get A 3 (by omega)) Try.isAgg22 ?_
              simp only [Act.put, List.setIfInBounds_toArray, List.set_cons_zero, List.set_cons_succ]
              refine mx_val (.pointer (some ⟨g3, 2, none⟩)) (exec_index 24 _ _ rfl (g3) rfl (2) 4 rfl (by omega) _ Try.underlying24 Try.sizeOf22) ?_
              simp only [Act.put, List.setIfInBounds_toArray, List.set_cons_zero, List.set_cons_succ]
              refine mx_loadc 22 _ rfl _ (2) rfl r3 (by simp <;> omega) (.int .u64 (lm A 2 : Nat)) (natC_get A 2 (by omega)) Try.isAgg22 ?_
              simp only [Act.put, List.setIfInBounds_toArray, List.set_cons_zero, List.set_cons_succ]
              refine mx_val (.pointer (some ⟨g4, 1, none⟩)) (exec_index 24 _ _ rfl (g4) rfl (1) 4 rfl (by omega) _ Try.underlying24 Try.sizeOf22) ?_
              simp only [Act.put, List.setIfInBounds_toArray, List.set_cons_zero, List.set_cons_succ]
              refine mx_loadc 22 _ rfl _ (1) rfl r4 (by simp <;> omega) (.int .u64 (lm M 1 : Nat)) (natC_get M 1 (by omega)) Try.isAgg22 ?_
              simp only [Act.put, List.setIfInBounds_toArray, List.set_cons_zero, List.set_cons_succ]
              refine mx_val (.pointer (some ⟨g4, 0, none⟩)) (exec_index 24 _ _ rfl (g4) rfl (0) 4 rfl (by omega) _ Try.underlying24 Try.sizeOf22) ?_
              simp only [Act.put, List.setIfInBounds_toArray, List.set_cons_zero, List.set_cons_succ]
              refine mx_loadc 22 _ rfl _ (0) rfl r4 (by simp <;> omega) (.int .u64 (lm M 0 : Nat)) (natC_get M 0 (by omega)) Try.isAgg22 ?_
              simp only [Act.put, List.setIfInBounds_toArray, List.set_cons_zero, List.set_cons_succ]
              refine mx_val (.agg (natC B)) (exec_build4 _ _ _ _ rfl _ _ _ _ rfl rfl rfl rfl B hB) ?_
              simp only [Act.put, List.setIfInBounds_toArray, List.set_cons_zero, List.set_cons_succ]
              refine mx_new 24 rfl _ zero_nat ?_
              simp only [Act.put, List.setIfInBounds_toArray, List.set_cons_zero, List.set_cons_succ]
              refine mx_put 19 24 _ _ rfl rfl rfl (natC B) rfl (by exact size_nat) (by simp only [natC_size]) (natC_one _) ?_
              simp only [Act.put]
              refine mx_end ?_
              intro w9 hkw hrw hnew hdis
              have n15 := hnew 9 rfl
              have zr15 : Row w9 (p 9) (natC B) 24 := hrw 19 (24, natC B) rfl
              replace r3 := hkw.row r3 (by simp <;> omega)
              replace r4 := hkw.row r4 (by simp <;> omega)
              replace r7 := hkw.row r7 (by simp <;> omega)
              replace r9 := hkw.row r9 (by simp <;> omega)
              replace r10 := hkw.row r10 (by simp <;> omega)
              replace r11 := hkw.row r11 (by simp <;> omega)
              replace r13 := hkw.row r13 (by simp <;> omega)
              replace sb := sb.trans (hkw.below w.heap.size sb.size (by simp <;> omega))
              clear hkw hrw hnew hdis n15
              generalize p 9 = g15 at *
              have r15 := zr15
              clear zr15
              (repeat ((fail_if_success (with_reducible show Code.wp _ (Code.region _ _ _) _ _ _)); go_step))
              refine wp_region_qw (by kernel_rfl) (by kernel_rfl) ?_
              refine qw_move (by rfl) rfl rfl ?_
              simp only [Act.put, List.setIfInBounds_toArray, List.set_cons_zero, List.set_cons_succ]
              refine qw_move (by rfl) rfl rfl ?_
              simp only [Act.put, List.setIfInBounds_toArray, List.set_cons_zero, List.set_cons_succ]
              refine qw_load (by rfl) 24 _ rfl _ rfl r3 4 _ Try.underlying24 size_nat ?_
              simp only [Act.put, List.setIfInBounds_toArray, List.set_cons_zero, List.set_cons_succ]
              refine qw_load (by rfl) 24 _ rfl _ rfl r9 4 _ Try.underlying24 size_nat ?_
              simp only [Act.put, List.setIfInBounds_toArray, List.set_cons_zero, List.set_cons_succ]
              refine qw_callK (by rfl) 22 _ _ rfl Try.func22 (by kernel_rfl) #[.pointer (some ⟨g7, 0, none⟩), .agg (natC A), .agg (natC X)] rfl _ (fun w' hb => e1 g7 w' (r7.belowAll hb)) ?_
              simp only [Act.put, List.setIfInBounds_toArray, List.set_cons_zero, List.set_cons_succ]
              refine qw_move (by rfl) rfl rfl ?_
              simp only [Act.put, List.setIfInBounds_toArray, List.set_cons_zero, List.set_cons_succ]
              refine qw_load (by rfl) 24 _ rfl _ rfl r3 4 _ Try.underlying24 size_nat ?_
              simp only [Act.put, List.setIfInBounds_toArray, List.set_cons_zero, List.set_cons_succ]
              refine qw_load (by rfl) 24 _ rfl _ rfl r10 4 _ Try.underlying24 size_nat ?_
              simp only [Act.put, List.setIfInBounds_toArray, List.set_cons_zero, List.set_cons_succ]
              refine qw_callK (by rfl) 22 _ _ rfl Try.func22 (by kernel_rfl) #[.pointer (some ⟨g7, 0, none⟩), .agg (natC A), .agg (natC Y)] rfl _ (fun w' hb => e2 g7 w' (r7.belowAll hb)) ?_
              simp only [Act.put, List.setIfInBounds_toArray, List.set_cons_zero, List.set_cons_succ]
              refine qw_callK (by rfl) 14 _ _ rfl Try.func14 (by kernel_rfl) #[.pointer (some ⟨g7, 0, none⟩), .agg (natC a1), .agg (natC a2)] rfl _ (fun w' hb => m1 g7 w' (r7.belowAll hb)) ?_
              simp only [Act.put, List.setIfInBounds_toArray, List.set_cons_zero, List.set_cons_succ]
              refine qw_move (by rfl) rfl rfl ?_
              simp only [Act.put, List.setIfInBounds_toArray, List.set_cons_zero, List.set_cons_succ]
              refine qw_load (by rfl) 24 _ rfl _ rfl r3 4 _ Try.underlying24 size_nat ?_
              simp only [Act.put, List.setIfInBounds_toArray, List.set_cons_zero, List.set_cons_succ]
              refine qw_load (by rfl) 24 _ rfl _ rfl r11 4 _ Try.underlying24 size_nat ?_
              simp only [Act.put, List.setIfInBounds_toArray, List.set_cons_zero, List.set_cons_succ]
              refine qw_callK (by rfl) 22 _ _ rfl Try.func22 (by kernel_rfl) #[.pointer (some ⟨g7, 0, none⟩), .agg (natC A), .agg (natC S)] rfl _ (fun w' hb => e3 g7 w' (r7.belowAll hb)) ?_
              simp only [Act.put, List.setIfInBounds_toArray, List.set_cons_zero, List.set_cons_succ]
              refine qw_value (by rfl) (.bool true) (fun w' => (exec_eql_nat _ _ _ rfl aS aS rfl rfl w').trans (by rw [decide_eq_true rfl])) ?_
              simp only [Act.put, List.setIfInBounds_toArray, List.set_cons_zero, List.set_cons_succ]
              refine qw_move (by rfl) rfl rfl ?_
              simp only [Act.put, List.setIfInBounds_toArray, List.set_cons_zero, List.set_cons_succ]
              refine qw_move (by rfl) rfl rfl ?_
              simp only [Act.put, List.setIfInBounds_toArray, List.set_cons_zero, List.set_cons_succ]
              refine qw_move (by rfl) rfl rfl ?_
              simp only [Act.put, List.setIfInBounds_toArray, List.set_cons_zero, List.set_cons_succ]
              refine qw_load (by rfl) 24 _ rfl _ rfl r3 4 _ Try.underlying24 size_nat ?_
              simp only [Act.put, List.setIfInBounds_toArray, List.set_cons_zero, List.set_cons_succ]
              refine qw_load (by rfl) 24 _ rfl _ rfl r9 4 _ Try.underlying24 size_nat ?_
              simp only [Act.put, List.setIfInBounds_toArray, List.set_cons_zero, List.set_cons_succ]
              refine qw_callK (by rfl) 22 _ _ rfl Try.func22 (by kernel_rfl) #[.pointer (some ⟨g7, 0, none⟩), .agg (natC A), .agg (natC X)] rfl _ (fun w' hb => e1 g7 w' (r7.belowAll hb)) ?_
              simp only [Act.put, List.setIfInBounds_toArray, List.set_cons_zero, List.set_cons_succ]
              refine qw_load (by rfl) 24 _ rfl _ rfl r10 4 _ Try.underlying24 size_nat ?_
              simp only [Act.put, List.setIfInBounds_toArray, List.set_cons_zero, List.set_cons_succ]
              refine qw_callK (by rfl) 22 _ _ rfl Try.func22 (by kernel_rfl) #[.pointer (some ⟨g7, 0, none⟩), .agg (natC a1), .agg (natC Y)] rfl _ (fun w' hb => e4 g7 w' (r7.belowAll hb)) ?_
              simp only [Act.put, List.setIfInBounds_toArray, List.set_cons_zero, List.set_cons_succ]
              refine qw_move (by rfl) rfl rfl ?_
              simp only [Act.put, List.setIfInBounds_toArray, List.set_cons_zero, List.set_cons_succ]
              refine qw_load (by rfl) 24 _ rfl _ rfl r3 4 _ Try.underlying24 size_nat ?_
              simp only [Act.put, List.setIfInBounds_toArray, List.set_cons_zero, List.set_cons_succ]
              refine qw_load (by rfl) 24 _ rfl _ rfl r13 4 _ Try.underlying24 size_nat ?_
              simp only [Act.put, List.setIfInBounds_toArray, List.set_cons_zero, List.set_cons_succ]
              refine qw_callK (by rfl) 22 _ _ rfl Try.func22 (by kernel_rfl) #[.pointer (some ⟨g7, 0, none⟩), .agg (natC A), .agg (natC P)] rfl _ (fun w' hb => e5 g7 w' (r7.belowAll hb)) ?_
              simp only [Act.put, List.setIfInBounds_toArray, List.set_cons_zero, List.set_cons_succ]
              refine qw_value (by rfl) (.bool true) (fun w' => (exec_eql_nat _ _ _ rfl aP aP rfl rfl w').trans (by rw [decide_eq_true rfl])) ?_
              simp only [Act.put, List.setIfInBounds_toArray, List.set_cons_zero, List.set_cons_succ]
              refine qw_pick true (v := .bool true) (by rfl) rfl rfl rfl ?_
              simp only [Act.put, List.setIfInBounds_toArray, List.set_cons_zero, List.set_cons_succ]
              refine qw_move (by rfl) rfl rfl ?_
              simp only [Act.put, List.setIfInBounds_toArray, List.set_cons_zero, List.set_cons_succ]
              refine qw_move (by rfl) rfl rfl ?_
              simp only [Act.put, List.setIfInBounds_toArray, List.set_cons_zero, List.set_cons_succ]
              refine qw_move (by rfl) rfl rfl ?_
              simp only [Act.put, List.setIfInBounds_toArray, List.set_cons_zero, List.set_cons_succ]
              refine qw_load (by rfl) 24 _ rfl _ rfl r3 4 _ Try.underlying24 size_nat ?_
              simp only [Act.put, List.setIfInBounds_toArray, List.set_cons_zero, List.set_cons_succ]
              refine qw_load (by rfl) 24 _ rfl _ rfl r15 4 _ Try.underlying24 size_nat ?_
              simp only [Act.put, List.setIfInBounds_toArray, List.set_cons_zero, List.set_cons_succ]
              refine qw_callK (by rfl) 14 _ _ rfl Try.func14 (by kernel_rfl) #[.pointer (some ⟨g7, 0, none⟩), .agg (natC A), .agg (natC B)] rfl _ (fun w' hb => m2 g7 w' (r7.belowAll hb)) ?_
              simp only [Act.put, List.setIfInBounds_toArray, List.set_cons_zero, List.set_cons_succ]
              refine qw_load (by rfl) 24 _ rfl _ rfl r9 4 _ Try.underlying24 size_nat ?_
              simp only [Act.put, List.setIfInBounds_toArray, List.set_cons_zero, List.set_cons_succ]
              refine qw_callK (by rfl) 22 _ _ rfl Try.func22 (by kernel_rfl) #[.pointer (some ⟨g7, 0, none⟩), .agg (natC AB), .agg (natC X)] rfl _ (fun w' hb => e6 g7 w' (r7.belowAll hb)) ?_
              simp only [Act.put, List.setIfInBounds_toArray, List.set_cons_zero, List.set_cons_succ]
              refine qw_move (by rfl) rfl rfl ?_
              simp only [Act.put, List.setIfInBounds_toArray, List.set_cons_zero, List.set_cons_succ]
              refine qw_move (by rfl) rfl rfl ?_
              simp only [Act.put, List.setIfInBounds_toArray, List.set_cons_zero, List.set_cons_succ]
              refine qw_load (by rfl) 24 _ rfl _ rfl r3 4 _ Try.underlying24 size_nat ?_
              simp only [Act.put, List.setIfInBounds_toArray, List.set_cons_zero, List.set_cons_succ]
              refine qw_load (by rfl) 24 _ rfl _ rfl r9 4 _ Try.underlying24 size_nat ?_
              simp only [Act.put, List.setIfInBounds_toArray, List.set_cons_zero, List.set_cons_succ]
              refine qw_callK (by rfl) 22 _ _ rfl Try.func22 (by kernel_rfl) #[.pointer (some ⟨g7, 0, none⟩), .agg (natC A), .agg (natC X)] rfl _ (fun w' hb => e1 g7 w' (r7.belowAll hb)) ?_
              simp only [Act.put, List.setIfInBounds_toArray, List.set_cons_zero, List.set_cons_succ]
              refine qw_move (by rfl) rfl rfl ?_
              simp only [Act.put, List.setIfInBounds_toArray, List.set_cons_zero, List.set_cons_succ]
              refine qw_load (by rfl) 24 _ rfl _ rfl r15 4 _ Try.underlying24 size_nat ?_
              simp only [Act.put, List.setIfInBounds_toArray, List.set_cons_zero, List.set_cons_succ]
              refine qw_load (by rfl) 24 _ rfl _ rfl r9 4 _ Try.underlying24 size_nat ?_
              simp only [Act.put, List.setIfInBounds_toArray, List.set_cons_zero, List.set_cons_succ]
              refine qw_callK (by rfl) 22 _ _ rfl Try.func22 (by kernel_rfl) #[.pointer (some ⟨g7, 0, none⟩), .agg (natC B), .agg (natC X)] rfl _ (fun w' hb => e7 g7 w' (r7.belowAll hb)) ?_
              simp only [Act.put, List.setIfInBounds_toArray, List.set_cons_zero, List.set_cons_succ]
              refine qw_callK (by rfl) 14 _ _ rfl Try.func14 (by kernel_rfl) #[.pointer (some ⟨g7, 0, none⟩), .agg (natC a1), .agg (natC b1)] rfl _ (fun w' hb => m3 g7 w' (r7.belowAll hb)) ?_
              simp only [Act.put, List.setIfInBounds_toArray, List.set_cons_zero, List.set_cons_succ]
              refine qw_value (by rfl) (.bool true) (fun w' => (exec_eql_nat _ _ _ rfl pB pB rfl rfl w').trans (by rw [decide_eq_true rfl])) ?_
              simp only [Act.put, List.setIfInBounds_toArray, List.set_cons_zero, List.set_cons_succ]
              refine qw_pick true (v := .bool true) (by rfl) rfl rfl rfl ?_
              simp only [Act.put, List.setIfInBounds_toArray, List.set_cons_zero, List.set_cons_succ]
              refine qw_move (by rfl) rfl rfl ?_
              simp only [Act.put, List.setIfInBounds_toArray, List.set_cons_zero, List.set_cons_succ]
              refine qw_call (by rfl) 11 _ _ rfl Try.func11 (by kernel_rfl) #[] rfl _ haw ?_
              simp only [Act.put, List.setIfInBounds_toArray, List.set_cons_zero, List.set_cons_succ]
              refine qw_pick true (v := .bool true) (by rfl) rfl rfl rfl ?_
              simp only [Act.put, List.setIfInBounds_toArray, List.set_cons_zero, List.set_cons_succ]
              refine qw_asg (by rfl) rfl rfl ?_
              simp only [Act.put, List.setIfInBounds_toArray, List.set_cons_zero, List.set_cons_succ]
              refine qw_nil ?_
              intro w10 hqb
              replace sb := below_on sb (Nat.le_refl _) hqb
              clear hqb
              go_wp2
              go_ret
              exact ⟨rfl, sb⟩
            · rfl
          · rfl
        · rfl
      · kernel_rfl
    · rfl
  · rfl
/-- A natural of four limbs. -/
def of4 (a b c d : Nat) : Nat := a + 18446744073709551616 * (b + 18446744073709551616 * (c + 18446744073709551616 * d))
theorem walk (A M x0 x1 y0 y1 : Nat) (w : World) (hA : A < 2 ^ 256) (hM : M < 2 ^ 256) (h0 : x0 < 18446744073709551616) (h1 : x1 < 18446744073709551616) (h2 : y0 < 18446744073709551616) (h3 : y1 < 18446744073709551616) :
    Calls Try.prog 5 #[.agg (natC A), .agg (natC M), .agg (ex4 x0 x1 y0 y1)] w fun e w' => e = .returned (.bool true) ∧ Below w.heap.size w w' := by
  by_cases ho : M % 2 = 0
  · exact core0 A M x0 x1 y0 y1 w (fun w' => new_even M w' ho) (fun w' => may_even M w' ho)
  by_cases h1' : M = 1
  · subst h1'
    exact core0 A 1 x0 x1 y0 y1 w (fun w' => new_one w') (fun w' => may_odd 1 false w' (by decide) rfl)
  have q : RgQ M := ⟨hM, by omega, by omega⟩
  have hb1 : (!decide (M % 2 ^ 256 = 1 % 2 ^ 256)) = true := by
    rw [Nat.mod_eq_of_lt hM, decide_eq_false (fun h => h1' (h.trans (by decide)))]; rfl
  have hX := ex2_cells x0 x1 h0 h1
  have hY := ex2_cells y0 y1 h2 h3
  have lX := ex2_lt x0 x1 h0 h1
  have lY := ex2_lt y0 y1 h2 h3
  generalize ex2 x0 x1 = X at *
  generalize ex2 y0 y1 = Y at *
  have lS := ex2_sum X Y lX lY
  have lP := ex2_mul X Y lX lY
  have lX' : X < 2 ^ 256 := Nat.lt_of_le_of_lt (Nat.le_add_right X Y) lS
  have lY' : Y < 2 ^ 256 := Nat.lt_of_le_of_lt (Nat.le_add_left Y X) lS
  have hB := natC_of4 (lm A 3) (lm A 2) (lm M 1) (lm M 0) (lm_lt A 3) (lm_lt A 2) (lm_lt M 1) (lm_lt M 0)
  have lB : of4 (lm A 3) (lm A 2) (lm M 1) (lm M 0) < 2 ^ 256 := hB.2
  have eB : natC (of4 (lm A 3) (lm A 2) (lm M 1) (lm M 0)) = _ := hB.1
  clear hB
  generalize of4 (lm A 3) (lm A 2) (lm M 1) (lm M 0) = B at *
  have lm' : ∀ z, z % M < 2 ^ 256 := fun z => Nat.lt_trans (Nat.mod_lt _ (by omega)) hM
  exact core1 A M x0 x1 y0 y1 X Y (X + Y) (X * Y) (X * Y / 2 ^ 256) B (A ^ X % M) (A ^ Y % M) (A ^ (X + Y) % M) (A ^ (X * Y) % M) (A * B % M) ((A * B % M) ^ X % M) (B ^ X % M) (cN X Y 256 : Nat) _ w
    hX hY eB (fun w' => new_any M w' q.odd q.two hM) (fun w' => may_odd M true w' q.odd hb1) (fun w' => radd_any X Y w') (fun w' => rmul_any X Y w' lX' lY')
    (fun g w' r => exp_any A X M g w' hA lX' hM q.odd q.two r) (fun g w' r => exp_any A Y M g w' hA lY' hM q.odd q.two r)
    (fun g w' r => pw_add A X Y M ▸ mul_ok (A ^ X % M) (A ^ Y % M) M g q w' (lm' _) (lm' _) r) (fun g w' r => exp_any A (X + Y) M g w' hA lS hM q.odd q.two r)
    (fun g w' r => pw_mul A X Y M ▸ exp_any (A ^ X % M) Y M g w' (lm' _) lY' hM q.odd q.two r) (fun g w' r => exp_any A (X * Y) M g w' hA lP hM q.odd q.two r)
    (fun g w' r => mul_ok A B M g q w' hA lB r) (fun g w' r => exp_any (A * B % M) X M g w' (lm' _) lX' hM q.odd q.two r) (fun g w' r => exp_any B X M g w' lB lX' hM q.odd q.two r)
    (fun g w' r => (pw_both A B X M).symm ▸ mul_ok (A ^ X % M) (B ^ X % M) M g q w' (lm' _) (lm' _) r)

theorem cells22 : Try.prog.cellsOf 42 = 4 := by kernel_rfl
theorem cells2 : Try.prog.cellsOf 41 = 2 := by kernel_rfl
theorem u64_of_trod {H : Type} {enc : TypeId × Value → H} {W : World} {fuel : Nat} {c : Value} {x : DataW H × List MemPlace}
    (h : DataW.trod enc Try.prog W 0 (fun _ => true) true fuel 22 [c] = some x) : ∃ N : Nat, N < 18446744073709551616 ∧ c = .int .u64 N := by
  obtain ⟨x0, e0, rfl, w0⟩ := DataW.trod_int Try.underlying22 h
  simp at e0
  subst e0
  have b0 := bounds_u64 w0
  obtain ⟨a, rfl⟩ := Int.eq_ofNat_of_zero_le b0.1
  exact ⟨a, by omega, rfl⟩
theorem trod_array2 {H : Type} {enc : TypeId × Value → H} {W : World} {t e : TypeId} {fuel : Nat} {cs : List Value} {x : DataW H × List MemPlace} (ht : Try.prog.underlying t = some (.array 2 e))
    (h : DataW.trod enc Try.prog W 0 (fun _ => true) true fuel t cs = some x) : ∃ y0 y1 n, DataW.trod enc Try.prog W 0 (fun _ => true) true n e ((cs.drop (0 * Try.prog.cellsOf e)).take (Try.prog.cellsOf e)) = some y0 ∧ DataW.trod enc Try.prog W 0 (fun _ => true) true n e ((cs.drop (1 * Try.prog.cellsOf e)).take (Try.prog.cellsOf e)) = some y1 := by
  cases fuel with
  | zero => simp [DataW.trod] at h
  | succ n =>
    unfold DataW.trod at h
    rw [ht] at h
    simp only at h
    split at h
    · rw [show List.range 2 = [0, 1] from rfl] at h
      simp only [List.mapM_cons, List.mapM_nil, Option.map_eq_some_iff] at h
      obtain ⟨xs, h, _⟩ := h
      cases h0 : DataW.trod enc Try.prog W 0 (fun _ => true) true n e ((cs.drop (0 * Try.prog.cellsOf e)).take (Try.prog.cellsOf e)) with
      | none => rw [h0] at h; cases h
      | some y0 =>
        cases h1 : DataW.trod enc Try.prog W 0 (fun _ => true) true n e ((cs.drop (1 * Try.prog.cellsOf e)).take (Try.prog.cellsOf e)) with
        | none => rw [h0, h1] at h; cases h
        | some y1 => exact ⟨y0, y1, n, h0, h1⟩
    · cases h
set_option maxRecDepth 100000 in
theorem open_ex4 {H : Type} {enc : TypeId × Value → H} {W : World} {base : Nat} {v0 : Value} {d0 : DataW H} {p0 : List MemPlace}
    (hv : Value.okWide Try.prog W .any base 42 v0) (h0 : DataW.Trod enc Try.prog W 0 (fun _ => true) true 42 v0 d0 p0) :
    ∃ x0 x1 y0 y1 : Nat, x0 < 18446744073709551616 ∧ x1 < 18446744073709551616 ∧ y0 < 18446744073709551616 ∧ y1 < 18446744073709551616 ∧ v0 = .agg (ex4 x0 x1 y0 y1) := by
  obtain ⟨cs, rfl, hsz, _⟩ : ∃ cs, v0 = .agg cs ∧ cs.size = Try.prog.cellsOf 42 ∧ Row.okWide Try.prog W .any base 42 cs := by
    simpa [Value.okWide, Try.underlying42] using hv
  rw [cells22] at hsz
  obtain ⟨l⟩ := cs
  obtain ⟨c0, c1, c2, c3, rfl⟩ := list4 l hsz
  obtain ⟨fuel, hf⟩ := h0
  obtain ⟨y0, y1, n, h1, h2⟩ := trod_array2 Try.underlying42 hf
  rw [cells2] at h1 h2
  obtain ⟨z0, z1, m, h3, h4⟩ := trod_array2 Try.underlying41 h1
  obtain ⟨z2, z3, m', h5, h6⟩ := trod_array2 Try.underlying41 h2
  rw [cellsU] at h3 h4 h5 h6
  obtain ⟨a, ha, rfl⟩ := u64_of_trod (c := c0) h3
  obtain ⟨b, hb, rfl⟩ := u64_of_trod (c := c1) h4
  obtain ⟨c, hc, rfl⟩ := u64_of_trod (c := c2) h5
  obtain ⟨d, hd, rfl⟩ := u64_of_trod (c := c3) h6
  exact ⟨a, b, c, d, ha, hb, hc, hd, rfl⟩

set_option maxRecDepth 100000 in
theorem lifted (os : Os) (started : os.Started) (H : Type) (enc : TypeId × Value → H) :
    ReturnsInHanded {} Try.checked os 5 .any (Rows.montAddsSpec.pre6 enc Try.prog Try.f5 Rows.montAddsRow.domain false) (Rows.montAddsSpec.post enc Try.prog Try.f5 false true false false) := by
  refine returnsInHanded_of_change (C := Try.checked) own started (by kernel_rfl) Try.func5
    (ChangeSpec.witness6 (enc := enc) (C := Try.checked) false ⟨#[], #[.agg #[.int .u64 0, .int .u64 0, .int .u64 0, .int .u64 0], .agg #[.int .u64 0, .int .u64 0, .int .u64 0, .int .u64 0], .agg #[.int .u64 0, .int .u64 0, .int .u64 0, .int .u64 0]], []⟩ 8 (by kernel_rfl) (by kernel_rfl) (by kernel_rfl) (by kernel_rfl)) ?_
  intro W base args ds gs before hval0 hW hcnd _
  have hval : ∀ (j : Nat) t v, Try.f5.params[j]? = some t → args[j]? = some v → Value.okWide Try.prog W .any base t v := hval0
  have hW' := hW
  obtain ⟨p, q, hA0, hV, rfl, hfz, hnd⟩ := hW
  have hA : DataW.TrodAll enc Try.prog W 0 (fun _ => true) true Try.f5.params.toList args.toList ds p := hA0
  rw [Try.params5] at hA hval
  obtain ⟨v0, vs0, d0, ds0, p0, q0, hargs, rfl, rfl, h0, r0⟩ := trodAll_cons hA
  obtain ⟨v1, vs1, d1, ds1, p1, q1, rfl, rfl, rfl, h1, r1⟩ := trodAll_cons r0
  obtain ⟨v2, vs2, d2, ds2, p2, q2, rfl, rfl, rfl, h2, r2⟩ := trodAll_cons r1
  obtain ⟨rfl, rfl, rfl⟩ := trodAll_nil r2
  obtain rfl : args = #[v0, v1, v2] := by cases args; simp_all
  obtain ⟨rfl, rfl⟩ := trodVars_none hV
  have k0 := h0
  have lt0 := lt_of_trod h0
  obtain ⟨N0, hN0, rfl⟩ := open_nat (hval 0 24 v0 rfl rfl) h0
  have k1 := h1
  have lt1 := lt_of_trod h1
  obtain ⟨N1, hN1, rfl⟩ := open_nat (hval 1 24 v1 rfl rfl) h1
  have k2 := h2
  have lt2 := lt_of_trod h2
  obtain ⟨e0, e1, f0, f1, b0, b1, b2, b3, rfl⟩ := open_ex4 (hval 2 42 v2 rfl rfl) h2
  clear hA0 hval0
  refine (walk N0 N1 e0 e1 f0 f1 W hN0 hN1 b0 b1 b2 b3).mono fun e W' ⟨he, bel⟩ => ?_
  subst he
  exact ⟨_, rfl, _, _, _, [], _, [], hW', trodAll_mk1 (shut_bool Try.underlying4 _), (trodAll_cons_mk (Below.trod laidOut (by kernel_rfl) (of_decide_eq_true (by kernel_rfl)) k0 bel lt0) (trodAll_cons_mk (Below.trod laidOut (by kernel_rfl) (of_decide_eq_true (by kernel_rfl)) k1 bel lt1) (trodAll_cons_mk (Below.trod laidOut (by kernel_rfl) (of_decide_eq_true (by kernel_rfl)) k2 bel lt2) trodAll_mk0))), rfl, bel.frame _, fun h => by cases h⟩

theorem over : Rows.montAddsRow.holds Try.pinned (OpenSpec.ofChange Rows.montAddsSpec) :=
  OpenClaim.holds_of_wide 5 Try.f5 rfl rfl rfl rfl rfl rfl rfl ⟨rfl, rfl, rfl, rfl, rfl⟩ rfl rfl rfl rfl rfl (by kernel_rfl) Try.func5 (by kernel_rfl)
    (of_decide_eq_true (by kernel_rfl)) (by unfold Func.isWrapper; first | (rw [if_pos (by decide +kernel)]; kernel_rfl) | (rw [if_neg (by decide +kernel)]; exact ⟨rfl, rfl⟩))
    (fun os started H enc _ => lifted os started H enc)

end montAddsP

/-- for every two naturals and all exponents below 2^120: powers of one base are multiplied as their exponents are added, a power's power is that of the product, a product's power the product of the powers; no condition. -/
theorem montAdds_holds : Rows.MontAddsSaid := montAddsP.over
end Go.Proofs.Ytcdfefljagddmaa
