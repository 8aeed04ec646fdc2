/- The law NatBack of layer 1 holds for every input: what is added is taken away again, in whatever order three are added; a natural twice is it one up. No condition. -/
import Derived.Test.YthccjmhpmbbblaaOpen
namespace Go.Proofs.Ythccjmhpmbbblaa.natBackP
open Go.ChangeShapes Go.WideShapes Go.ChangeAt Go.RowKit
set_option linter.unusedVariables false

theorem cN_comm (A B : Nat) : cN B A 256 = cN A B 256 := by
  rw [cN_eq, cN_eq, Nat.add_comm (B % 2 ^ 256)]
theorem add_back (A B : Nat) (hB : B < 2 ^ 256) : natC (less (A + B) B) = natC A := by
  refine (natC_eq _ _).2 ?_
  unfold less
  omega
theorem borrow_carry (A B : Nat) (hA : A < 2 ^ 256) (hB : B < 2 ^ 256) : bN (A + B) B 256 = cN A B 256 := by
  rw [cN_eq]
  unfold bN
  rw [Nat.mod_eq_of_lt hB, Nat.mod_eq_of_lt hA]
  by_cases h : 2 ^ 256 ≤ A + B
  · rw [if_pos h, if_pos (by omega)]
  · rw [if_neg h, if_neg (by omega)]
theorem top_carry (A : Nat) (hA : A < 2 ^ 256) : ((cN A A 256 : Nat) : Int) = bitI A 255 := by
  rw [cN_eq, Nat.mod_eq_of_lt hA]
  unfold bitI
  have h := bit_top A 255 hA
  by_cases hb : A.testBit 255 = true
  · have h1 := h.1 hb
    rw [if_pos (show 2 ^ 256 ≤ A + A by omega), if_pos ⟨by decide, by decide, hb⟩]
    rfl
  · have h1 := h.2 (by simpa using hb)
    rw [if_neg (show ¬ 2 ^ 256 ≤ A + A by omega), if_neg (fun x => hb x.2.2)]
    rfl
theorem call2 (A B : Nat) (w : World) : Calls Try.prog 8 #[.agg (natC B), .agg (natC A)] w fun e w' => e = .returned (.tuple #[.agg (natC (A + B)), .int .i64 (cN A B 256 : Nat)]) ∧ Below w.heap.size w w' := by
  have h := nadd_any B A w
  rw [Nat.add_comm B A, cN_comm] at h
  exact h
theorem call5 (A B C : Nat) (w : World) : Calls Try.prog 8 #[.agg (natC A), .agg (natC (B + C))] w fun e w' => e = .returned (.tuple #[.agg (natC (A + B + C)), .int .i64 (cN A (B + C) 256 : Nat)]) ∧ Below w.heap.size w w' := by
  have h := nadd_any A (B + C) w
  rw [← Nat.add_assoc] at h
  exact h
theorem call6 (A B : Nat) (w : World) (hA : A < 2 ^ 256) (hB : B < 2 ^ 256) : Calls Try.prog 10 #[.agg (natC (A + B)), .agg (natC B)] w fun e w' => e = .returned (.tuple #[.agg (natC A), .int .i64 (cN A B 256 : Nat)]) ∧ Below w.heap.size w w' := by
  have h := nsub_any (A + B) B w hB
  rw [add_back A B hB, borrow_carry A B hA hB] at h
  exact h
theorem call7 (A : Nat) (w : World) (hA : A < 2 ^ 256) : Calls Try.prog 8 #[.agg (natC A), .agg (natC A)] w fun e w' => e = .returned (.tuple #[.agg (natC (A * 2)), .int .i64 (bitI A 255)]) ∧ Below w.heap.size w w' := by
  have h := nadd_any A A w
  rw [top_carry A hA, show A + A = A * 2 by omega] at h
  exact h
theorem exec_neg_cmp {o : Oper} {ρ : Operand → Value} (t : TypeId) (x : Operand) (ho : o.op = .unOp .neg t x) (A B : Nat) (hx : ρ x = .int .i64 (cmpI B A)) (w : World) :
    (execOp ρ o).run Try.prog w = .ok (.value (.int .i64 (cmpI A B))) w := by
  have h : IntKind.i64.wrap (-(cmpI B A)) = cmpI A B := by
    unfold cmpI
    rw [IntKind.wrap_i64]
    by_cases h1 : A < B
    · rw [if_pos h1, if_neg (show ¬ B < A by omega), if_pos h1]; decide
    · by_cases h2 : B < A
      · rw [if_pos h2, if_neg h1, if_pos h2]; decide
      · rw [if_neg h2, if_neg h1, if_neg h1, if_neg h2]; decide
  unfold execOp
  simp only [ho, hx]
  simp [Op.unary, Op.intArith, h]
theorem exec_cmp_zero {o : Oper} {ρ : Operand → Value} (t : TypeId) (x y : Operand) (u : TypeId) (ho : o.op = .binOp .eql t x y u) (A B : Nat) (hA : A < 2 ^ 256) (hB : B < 2 ^ 256) (hx : ρ x = .int .i64 (cmpI A B)) (hy : ρ y = .int .i64 0) (w : World) :
    (execOp ρ o).run Try.prog w = .ok (.value (.bool (decide (A % 2 ^ 256 = B % 2 ^ 256)))) w := by
  have h : decide (A % 2 ^ 256 = B % 2 ^ 256) = (cmpI A B == 0) := by
    rw [Nat.mod_eq_of_lt hA, Nat.mod_eq_of_lt hB]
    unfold cmpI
    by_cases h1 : A < B
    · rw [if_pos h1, decide_eq_false (by omega)]; decide
    · by_cases h2 : B < A
      · rw [if_neg h1, if_pos h2, decide_eq_false (by omega)]; decide
      · rw [if_neg h1, if_neg h2, decide_eq_true (by omega)]; decide
  rw [h]
  unfold execOp
  simp only [ho, hx, hy]
  simp [eqGuard, go_sem]

set_option maxRecDepth 100000 in
set_option maxHeartbeats 4000000 in
theorem walk (A B C : Nat) (w : World) (hA : A < 2 ^ 256) (hB : B < 2 ^ 256) (hC : C < 2 ^ 256) :
    Calls Try.prog 7 #[.agg (natC A), .agg (natC B), .agg (natC C)] w fun e w' => e = .returned (.bool true) ∧ Below w.heap.size w w' := by
  have HA : Hid (A < 2 ^ 256) := hA
  have HB : Hid (B < 2 ^ 256) := hB
  clear hA hB hC
  have rA : Row (((w.alloc (.cells (natC A) 24)).alloc (.cells (natC B) 24)).alloc (.cells (natC C) 24)) w.heap.size (natC A) 24 := Row.two rfl
  have rB : Row (((w.alloc (.cells (natC A) 24)).alloc (.cells (natC B) 24)).alloc (.cells (natC C) 24)) (w.heap.size + 1) (natC B) 24 := Row.one (by simp)
  have rC : Row (((w.alloc (.cells (natC A) 24)).alloc (.cells (natC B) 24)).alloc (.cells (natC C) 24)) (w.heap.size + 1 + 1) (natC C) 24 := Row.here (by simp)
  have b0 := below_alloc3 (w := w) (.cells (natC A) 24) (.cells (natC B) 24) (.cells (natC C) 24)
  go_enter Try.func7, Try.ntmps7
  go_wp2_with (first
    | refine wpList_box_row rfl 24 _ rfl _ rfl ?_
    | refine wpList_loadR rfl 24 _ rfl _ rfl rA 4 _ Try.underlying24 (by exact size_nat) ?_
    | refine wpList_loadR rfl 24 _ rfl _ rfl rB 4 _ Try.underlying24 (by exact size_nat) ?_)
  generalize ((w.alloc (.cells (natC A) 24)).alloc (.cells (natC B) 24)).alloc (.cells (natC C) 24) = W0 at *
  refine (nadd_any A B _).mono ?_
  rintro e u1 ⟨rfl, hb⟩
  replace rA := (rA.belowAll hb).alloc (.cells (natC (A + B)) 24)
  replace rB := (rB.belowAll hb).alloc (.cells (natC (A + B)) 24)
  replace rC := (rC.belowAll hb).alloc (.cells (natC (A + B)) 24)
  have x1 := Row.new u1 (natC (A + B)) 24
  have b1 := (below_on b0 (Nat.le_refl _) hb).alloc (below_on b0 (Nat.le_refl _) hb).size (.cells (natC (A + B)) 24)
  clear hb b0
  go_wp2_with (first
    | refine wpList_alloc_row rfl 24 rfl _ zero_nat ?_
    | refine wpList_store_new rfl 24 _ _ rfl _ rfl rfl _ _ (by exact size_nat) (by rfl) (natC_one _) ?_
    | refine wpList_loadR rfl 24 _ rfl _ rfl rB 4 _ Try.underlying24 (by exact size_nat) ?_
    | refine wpList_loadR rfl 24 _ rfl _ rfl rA 4 _ Try.underlying24 (by exact size_nat) ?_)
  generalize u1.heap.size = p1 at *
  generalize u1.alloc (.cells (natC (A + B)) 24) = W1 at *
  refine (call2 A B _).mono ?_
  rintro e u2 ⟨rfl, hb⟩
  replace rA := (rA.belowAll hb).alloc (.cells (natC (A + B)) 24)
  replace rB := (rB.belowAll hb).alloc (.cells (natC (A + B)) 24)
  replace rC := (rC.belowAll hb).alloc (.cells (natC (A + B)) 24)
  replace x1 := (x1.belowAll hb).alloc (.cells (natC (A + B)) 24)
  have x2 := Row.new u2 (natC (A + B)) 24
  have b2 := (below_on b1 (Nat.le_refl _) hb).alloc (below_on b1 (Nat.le_refl _) hb).size (.cells (natC (A + B)) 24)
  clear hb b1
  go_wp2_with (first
    | refine wpList_alloc_row rfl 24 rfl _ zero_nat ?_
    | refine wpList_store_new rfl 24 _ _ rfl _ rfl rfl _ _ (by exact size_nat) (by rfl) (natC_one _) ?_
    | refine wpList_loadR rfl 24 _ rfl _ rfl x1 4 _ Try.underlying24 (by exact size_nat) ?_
    | refine wpList_loadR rfl 24 _ rfl _ rfl rC 4 _ Try.underlying24 (by exact size_nat) ?_)
  generalize u2.heap.size = p2 at *
  generalize u2.alloc (.cells (natC (A + B)) 24) = W2 at *
  refine (nadd_any (A + B) C _).mono ?_
  rintro e u3 ⟨rfl, hb⟩
  replace rA := (rA.belowAll hb).alloc (.cells (natC (A + B + C)) 24)
  replace rB := (rB.belowAll hb).alloc (.cells (natC (A + B + C)) 24)
  replace rC := (rC.belowAll hb).alloc (.cells (natC (A + B + C)) 24)
  replace x1 := (x1.belowAll hb).alloc (.cells (natC (A + B + C)) 24)
  replace x2 := (x2.belowAll hb).alloc (.cells (natC (A + B + C)) 24)
  have x3 := Row.new u3 (natC (A + B + C)) 24
  have b3 := (below_on b2 (Nat.le_refl _) hb).alloc (below_on b2 (Nat.le_refl _) hb).size (.cells (natC (A + B + C)) 24)
  clear hb b2
  go_wp2_with (first
    | refine wpList_alloc_row rfl 24 rfl _ zero_nat ?_
    | refine wpList_store_new rfl 24 _ _ rfl _ rfl rfl _ _ (by exact size_nat) (by rfl) (natC_one _) ?_
    | refine wpList_loadR rfl 24 _ rfl _ rfl rB 4 _ Try.underlying24 (by exact size_nat) ?_
    | refine wpList_loadR rfl 24 _ rfl _ rfl rC 4 _ Try.underlying24 (by exact size_nat) ?_)
  generalize u3.heap.size = p3 at *
  generalize u3.alloc (.cells (natC (A + B + C)) 24) = W3 at *
  refine (nadd_any B C _).mono ?_
  rintro e u4 ⟨rfl, hb⟩
  replace rA := (rA.belowAll hb).alloc (.cells (natC (B + C)) 24)
  replace rB := (rB.belowAll hb).alloc (.cells (natC (B + C)) 24)
  replace rC := (rC.belowAll hb).alloc (.cells (natC (B + C)) 24)
  replace x1 := (x1.belowAll hb).alloc (.cells (natC (B + C)) 24)
  replace x2 := (x2.belowAll hb).alloc (.cells (natC (B + C)) 24)
  replace x3 := (x3.belowAll hb).alloc (.cells (natC (B + C)) 24)
  have x4 := Row.new u4 (natC (B + C)) 24
  have b4 := (below_on b3 (Nat.le_refl _) hb).alloc (below_on b3 (Nat.le_refl _) hb).size (.cells (natC (B + C)) 24)
  clear hb b3
  go_wp2_with (first
    | refine wpList_alloc_row rfl 24 rfl _ zero_nat ?_
    | refine wpList_store_new rfl 24 _ _ rfl _ rfl rfl _ _ (by exact size_nat) (by rfl) (natC_one _) ?_
    | refine wpList_loadR rfl 24 _ rfl _ rfl rA 4 _ Try.underlying24 (by exact size_nat) ?_
    | refine wpList_loadR rfl 24 _ rfl _ rfl x4 4 _ Try.underlying24 (by exact size_nat) ?_)
  generalize u4.heap.size = p4 at *
  generalize u4.alloc (.cells (natC (B + C)) 24) = W4 at *
  refine (call5 A B C _).mono ?_
  rintro e u5 ⟨rfl, hb⟩
  replace rA := (rA.belowAll hb).alloc (.cells (natC (A + B + C)) 24)
  replace rB := (rB.belowAll hb).alloc (.cells (natC (A + B + C)) 24)
  replace rC := (rC.belowAll hb).alloc (.cells (natC (A + B + C)) 24)
  replace x1 := (x1.belowAll hb).alloc (.cells (natC (A + B + C)) 24)
  replace x2 := (x2.belowAll hb).alloc (.cells (natC (A + B + C)) 24)
  replace x3 := (x3.belowAll hb).alloc (.cells (natC (A + B + C)) 24)
  replace x4 := (x4.belowAll hb).alloc (.cells (natC (A + B + C)) 24)
  have x5 := Row.new u5 (natC (A + B + C)) 24
  have b5 := (below_on b4 (Nat.le_refl _) hb).alloc (below_on b4 (Nat.le_refl _) hb).size (.cells (natC (A + B + C)) 24)
  clear hb b4
  go_wp2_with (first
    | refine wpList_alloc_row rfl 24 rfl _ zero_nat ?_
    | refine wpList_store_new rfl 24 _ _ rfl _ rfl rfl _ _ (by exact size_nat) (by rfl) (natC_one _) ?_
    | refine wpList_loadR rfl 24 _ rfl _ rfl x1 4 _ Try.underlying24 (by exact size_nat) ?_
    | refine wpList_loadR rfl 24 _ rfl _ rfl rB 4 _ Try.underlying24 (by exact size_nat) ?_)
  generalize u5.heap.size = p5 at *
  generalize u5.alloc (.cells (natC (A + B + C)) 24) = W5 at *
  refine (call6 A B _ HA.out HB.out).mono ?_
  rintro e u6 ⟨rfl, hb⟩
  replace rA := (rA.belowAll hb).alloc (.cells (natC (A)) 24)
  replace rB := (rB.belowAll hb).alloc (.cells (natC (A)) 24)
  replace rC := (rC.belowAll hb).alloc (.cells (natC (A)) 24)
  replace x1 := (x1.belowAll hb).alloc (.cells (natC (A)) 24)
  replace x2 := (x2.belowAll hb).alloc (.cells (natC (A)) 24)
  replace x3 := (x3.belowAll hb).alloc (.cells (natC (A)) 24)
  replace x4 := (x4.belowAll hb).alloc (.cells (natC (A)) 24)
  replace x5 := (x5.belowAll hb).alloc (.cells (natC (A)) 24)
  have x6 := Row.new u6 (natC (A)) 24
  have b6 := (below_on b5 (Nat.le_refl _) hb).alloc (below_on b5 (Nat.le_refl _) hb).size (.cells (natC (A)) 24)
  clear hb b5
  go_wp2_with (first
    | refine wpList_alloc_row rfl 24 rfl _ zero_nat ?_
    | refine wpList_store_new rfl 24 _ _ rfl _ rfl rfl _ _ (by exact size_nat) (by rfl) (natC_one _) ?_
    | refine wpList_loadR rfl 24 _ rfl _ rfl rA 4 _ Try.underlying24 (by exact size_nat) ?_)
  generalize u6.heap.size = p6 at *
  generalize u6.alloc (.cells (natC (A)) 24) = W6 at *
  refine (call7 A _ HA.out).mono ?_
  rintro e u7 ⟨rfl, hb⟩
  replace rA := (rA.belowAll hb).alloc (.cells (natC (A * 2)) 24)
  replace rB := (rB.belowAll hb).alloc (.cells (natC (A * 2)) 24)
  replace rC := (rC.belowAll hb).alloc (.cells (natC (A * 2)) 24)
  replace x1 := (x1.belowAll hb).alloc (.cells (natC (A * 2)) 24)
  replace x2 := (x2.belowAll hb).alloc (.cells (natC (A * 2)) 24)
  replace x3 := (x3.belowAll hb).alloc (.cells (natC (A * 2)) 24)
  replace x4 := (x4.belowAll hb).alloc (.cells (natC (A * 2)) 24)
  replace x5 := (x5.belowAll hb).alloc (.cells (natC (A * 2)) 24)
  replace x6 := (x6.belowAll hb).alloc (.cells (natC (A * 2)) 24)
  have x7 := Row.new u7 (natC (A * 2)) 24
  have b7 := (below_on b6 (Nat.le_refl _) hb).alloc (below_on b6 (Nat.le_refl _) hb).size (.cells (natC (A * 2)) 24)
  clear hb b6
  go_wp2_with (first
    | refine wpList_alloc_row rfl 24 rfl _ zero_nat ?_
    | refine wpList_store_new rfl 24 _ _ rfl _ rfl rfl _ _ (by exact size_nat) (by rfl) (natC_one _) ?_)
  generalize u7.heap.size = p7 at *
  generalize u7.alloc (.cells (natC (A * 2)) 24) = W7 at *
  refine wp_region_qw (by kernel_rfl) (by kernel_rfl) ?_
  refine qw_load (by rfl) 24 _ rfl (p1) rfl x1 4 _ Try.underlying24 size_nat ?_
  simp only [Act.put, List.setIfInBounds_toArray, List.set_cons_zero, List.set_cons_succ]
  refine qw_load (by rfl) 24 _ rfl (p2) rfl x2 4 _ Try.underlying24 size_nat ?_
  simp only [Act.put, List.setIfInBounds_toArray, List.set_cons_zero, List.set_cons_succ]
  refine qw_value (by rfl) (.bool true) (fun w => (exec_eql_nat _ _ _ rfl (A + B) (A + B) rfl rfl w).trans (by rw [decide_eq_true (rfl)])) ?_
  simp only [Act.put, List.setIfInBounds_toArray, List.set_cons_zero, List.set_cons_succ]
  refine qw_value (by rfl) (.bool true) (fun _ => rfl) ?_
  simp only [Act.put, List.setIfInBounds_toArray, List.set_cons_zero, List.set_cons_succ]
  refine qw_value (by rfl) (.int .i64 (cN A B 256 : Nat)) (fun _ => rfl) ?_
  simp only [Act.put, List.setIfInBounds_toArray, List.set_cons_zero, List.set_cons_succ]
  refine qw_value (by rfl) (.int .i64 (cN A B 256 : Nat)) (fun _ => rfl) ?_
  simp only [Act.put, List.setIfInBounds_toArray, List.set_cons_zero, List.set_cons_succ]
  refine qw_value (by rfl) (.bool true) (fun w => exec_eql_int _ _ _ _ rfl _ _ rfl rfl w) ?_
  simp only [Act.put, List.setIfInBounds_toArray, List.set_cons_zero, List.set_cons_succ]
  refine qw_value (by rfl) (.bool true) (fun _ => rfl) ?_
  simp only [Act.put, List.setIfInBounds_toArray, List.set_cons_zero, List.set_cons_succ]
  refine qw_value (by rfl) (.bool true) (fun _ => rfl) ?_
  simp only [Act.put, List.setIfInBounds_toArray, List.set_cons_zero, List.set_cons_succ]
  refine qw_load (by rfl) 24 _ rfl (p3) rfl x3 4 _ Try.underlying24 size_nat ?_
  simp only [Act.put, List.setIfInBounds_toArray, List.set_cons_zero, List.set_cons_succ]
  refine qw_load (by rfl) 24 _ rfl (p5) rfl x5 4 _ Try.underlying24 size_nat ?_
  simp only [Act.put, List.setIfInBounds_toArray, List.set_cons_zero, List.set_cons_succ]
  refine qw_value (by rfl) (.bool true) (fun w => (exec_eql_nat _ _ _ rfl (A + B + C) (A + B + C) rfl rfl w).trans (by rw [decide_eq_true (rfl)])) ?_
  simp only [Act.put, List.setIfInBounds_toArray, List.set_cons_zero, List.set_cons_succ]
  refine qw_value (by rfl) (.bool true) (fun _ => rfl) ?_
  simp only [Act.put, List.setIfInBounds_toArray, List.set_cons_zero, List.set_cons_succ]
  refine qw_value (by rfl) (.bool true) (fun _ => rfl) ?_
  simp only [Act.put, List.setIfInBounds_toArray, List.set_cons_zero, List.set_cons_succ]
  refine qw_load (by rfl) 24 _ rfl (p6) rfl x6 4 _ Try.underlying24 size_nat ?_
  simp only [Act.put, List.setIfInBounds_toArray, List.set_cons_zero, List.set_cons_succ]
  refine qw_load (by rfl) 24 _ rfl (w.heap.size) rfl rA 4 _ Try.underlying24 size_nat ?_
  simp only [Act.put, List.setIfInBounds_toArray, List.set_cons_zero, List.set_cons_succ]
  refine qw_value (by rfl) (.bool true) (fun w => (exec_eql_nat _ _ _ rfl (A) (A) rfl rfl w).trans (by rw [decide_eq_true (rfl)])) ?_
  simp only [Act.put, List.setIfInBounds_toArray, List.set_cons_zero, List.set_cons_succ]
  refine qw_value (by rfl) (.bool true) (fun _ => rfl) ?_
  simp only [Act.put, List.setIfInBounds_toArray, List.set_cons_zero, List.set_cons_succ]
  refine qw_value (by rfl) (.bool true) (fun _ => rfl) ?_
  simp only [Act.put, List.setIfInBounds_toArray, List.set_cons_zero, List.set_cons_succ]
  refine qw_value (by rfl) (.int .i64 (cN A B 256 : Nat)) (fun _ => rfl) ?_
  simp only [Act.put, List.setIfInBounds_toArray, List.set_cons_zero, List.set_cons_succ]
  refine qw_value (by rfl) (.int .i64 (cN A B 256 : Nat)) (fun _ => rfl) ?_
  simp only [Act.put, List.setIfInBounds_toArray, List.set_cons_zero, List.set_cons_succ]
  refine qw_value (by rfl) (.bool true) (fun w => exec_eql_int _ _ _ _ rfl _ _ rfl rfl w) ?_
  simp only [Act.put, List.setIfInBounds_toArray, List.set_cons_zero, List.set_cons_succ]
  refine qw_value (by rfl) (.bool true) (fun _ => rfl) ?_
  simp only [Act.put, List.setIfInBounds_toArray, List.set_cons_zero, List.set_cons_succ]
  refine qw_value (by rfl) (.bool true) (fun _ => rfl) ?_
  simp only [Act.put, List.setIfInBounds_toArray, List.set_cons_zero, List.set_cons_succ]
  refine qw_load (by rfl) 24 _ rfl (p7) rfl x7 4 _ Try.underlying24 size_nat ?_
  simp only [Act.put, List.setIfInBounds_toArray, List.set_cons_zero, List.set_cons_succ]
  refine qw_load (by rfl) 24 _ rfl (w.heap.size) rfl rA 4 _ Try.underlying24 size_nat ?_
  simp only [Act.put, List.setIfInBounds_toArray, List.set_cons_zero, List.set_cons_succ]
  refine qw_call (by rfl) 23 _ _ rfl Try.func23 (by kernel_rfl) #[.agg (natC A), .int .i64 1] rfl (.agg (natC (A * 2))) (fun w => nup_any A 1 w) ?_
  simp only [Act.put, List.setIfInBounds_toArray, List.set_cons_zero, List.set_cons_succ]
  refine qw_value (by rfl) (.bool true) (fun w => (exec_eql_nat _ _ _ rfl (A * 2) (A * 2) rfl rfl w).trans (by rw [decide_eq_true (rfl)])) ?_
  simp only [Act.put, List.setIfInBounds_toArray, List.set_cons_zero, List.set_cons_succ]
  refine qw_value (by rfl) (.bool true) (fun _ => rfl) ?_
  simp only [Act.put, List.setIfInBounds_toArray, List.set_cons_zero, List.set_cons_succ]
  refine qw_value (by rfl) (.bool true) (fun _ => rfl) ?_
  simp only [Act.put, List.setIfInBounds_toArray, List.set_cons_zero, List.set_cons_succ]
  refine qw_value (by rfl) (.int .i64 (bitI A 255)) (fun _ => rfl) ?_
  simp only [Act.put, List.setIfInBounds_toArray, List.set_cons_zero, List.set_cons_succ]
  refine qw_load (by rfl) 24 _ rfl (w.heap.size) rfl rA 4 _ Try.underlying24 size_nat ?_
  simp only [Act.put, List.setIfInBounds_toArray, List.set_cons_zero, List.set_cons_succ]
  refine qw_call (by rfl) 21 _ _ rfl Try.func21 (by kernel_rfl) #[.agg (natC A), .int .i64 255] rfl (.int .i64 (bitI A 255)) (fun w => nbit_any A 255 w) ?_
  simp only [Act.put, List.setIfInBounds_toArray, List.set_cons_zero, List.set_cons_succ]
  refine qw_value (by rfl) (.bool true) (fun w => exec_eql_int _ _ _ _ rfl _ _ rfl rfl w) ?_
  simp only [Act.put, List.setIfInBounds_toArray, List.set_cons_zero, List.set_cons_succ]
  refine qw_value (by rfl) (.bool true) (fun _ => rfl) ?_
  simp only [Act.put, List.setIfInBounds_toArray, List.set_cons_zero, List.set_cons_succ]
  refine qw_value (by rfl) (.bool true) (fun _ => rfl) ?_
  simp only [Act.put, List.setIfInBounds_toArray, List.set_cons_zero, List.set_cons_succ]
  refine qw_load (by rfl) 24 _ rfl (w.heap.size) rfl rA 4 _ Try.underlying24 size_nat ?_
  simp only [Act.put, List.setIfInBounds_toArray, List.set_cons_zero, List.set_cons_succ]
  refine qw_load (by rfl) 24 _ rfl (w.heap.size + 1) rfl rB 4 _ Try.underlying24 size_nat ?_
  simp only [Act.put, List.setIfInBounds_toArray, List.set_cons_zero, List.set_cons_succ]
  refine qw_call (by rfl) 12 _ _ rfl Try.func12 (by kernel_rfl) #[.agg (natC A), .agg (natC B)] rfl (.int .i64 (cmpI A B)) (fun w => ncmp_any A B w HA.out HB.out) ?_
  simp only [Act.put, List.setIfInBounds_toArray, List.set_cons_zero, List.set_cons_succ]
  refine qw_load (by rfl) 24 _ rfl (w.heap.size + 1) rfl rB 4 _ Try.underlying24 size_nat ?_
  simp only [Act.put, List.setIfInBounds_toArray, List.set_cons_zero, List.set_cons_succ]
  refine qw_load (by rfl) 24 _ rfl (w.heap.size) rfl rA 4 _ Try.underlying24 size_nat ?_
  simp only [Act.put, List.setIfInBounds_toArray, List.set_cons_zero, List.set_cons_succ]
  refine qw_call (by rfl) 12 _ _ rfl Try.func12 (by kernel_rfl) #[.agg (natC B), .agg (natC A)] rfl (.int .i64 (cmpI B A)) (fun w => ncmp_any B A w HB.out HA.out) ?_
  simp only [Act.put, List.setIfInBounds_toArray, List.set_cons_zero, List.set_cons_succ]
  refine qw_value (by rfl) (.int .i64 (cmpI A B)) (fun w => exec_neg_cmp _ _ rfl A B rfl w) ?_
  simp only [Act.put, List.setIfInBounds_toArray, List.set_cons_zero, List.set_cons_succ]
  refine qw_value (by rfl) (.bool true) (fun w => exec_eql_int _ _ _ _ rfl _ _ rfl rfl w) ?_
  simp only [Act.put, List.setIfInBounds_toArray, List.set_cons_zero, List.set_cons_succ]
  refine qw_value (by rfl) (.bool true) (fun _ => rfl) ?_
  simp only [Act.put, List.setIfInBounds_toArray, List.set_cons_zero, List.set_cons_succ]
  refine qw_value (by rfl) (.bool true) (fun _ => rfl) ?_
  simp only [Act.put, List.setIfInBounds_toArray, List.set_cons_zero, List.set_cons_succ]
  refine qw_load (by rfl) 24 _ rfl (w.heap.size) rfl rA 4 _ Try.underlying24 size_nat ?_
  simp only [Act.put, List.setIfInBounds_toArray, List.set_cons_zero, List.set_cons_succ]
  refine qw_load (by rfl) 24 _ rfl (w.heap.size + 1) rfl rB 4 _ Try.underlying24 size_nat ?_
  simp only [Act.put, List.setIfInBounds_toArray, List.set_cons_zero, List.set_cons_succ]
  refine qw_call (by rfl) 12 _ _ rfl Try.func12 (by kernel_rfl) #[.agg (natC A), .agg (natC B)] rfl (.int .i64 (cmpI A B)) (fun w => ncmp_any A B w HA.out HB.out) ?_
  simp only [Act.put, List.setIfInBounds_toArray, List.set_cons_zero, List.set_cons_succ]
  refine qw_value (by rfl) (.bool (decide (A % 2 ^ 256 = B % 2 ^ 256))) (fun w => exec_cmp_zero _ _ _ _ rfl A B HA.out HB.out rfl rfl w) ?_
  simp only [Act.put, List.setIfInBounds_toArray, List.set_cons_zero, List.set_cons_succ]
  refine qw_load (by rfl) 24 _ rfl (w.heap.size) rfl rA 4 _ Try.underlying24 size_nat ?_
  simp only [Act.put, List.setIfInBounds_toArray, List.set_cons_zero, List.set_cons_succ]
  refine qw_load (by rfl) 24 _ rfl (w.heap.size + 1) rfl rB 4 _ Try.underlying24 size_nat ?_
  simp only [Act.put, List.setIfInBounds_toArray, List.set_cons_zero, List.set_cons_succ]
  refine qw_value (by rfl) (.bool (decide (A % 2 ^ 256 = B % 2 ^ 256))) (fun w => exec_eql_nat _ _ _ rfl A B rfl rfl w) ?_
  simp only [Act.put, List.setIfInBounds_toArray, List.set_cons_zero, List.set_cons_succ]
  refine qw_value (by rfl) (.bool true) (fun w => exec_eql_bool _ _ _ _ rfl _ rfl rfl Try.underlying4 w) ?_
  simp only [Act.put, List.setIfInBounds_toArray, List.set_cons_zero, List.set_cons_succ]
  refine qw_value (by rfl) (.bool true) (fun _ => rfl) ?_
  simp only [Act.put, List.setIfInBounds_toArray, List.set_cons_zero, List.set_cons_succ]
  refine qw_value (by rfl) (.bool true) (fun _ => rfl) ?_
  simp only [Act.put, List.setIfInBounds_toArray, List.set_cons_zero, List.set_cons_succ]
  refine qw_call (by rfl) 14 _ _ rfl Try.func14 (by kernel_rfl) #[] rfl (.bool true) (fun w => awake_any w) ?_
  simp only [Act.put, List.setIfInBounds_toArray, List.set_cons_zero, List.set_cons_succ]
  refine qw_value (by rfl) (.bool true) (fun _ => rfl) ?_
  simp only [Act.put, List.setIfInBounds_toArray, List.set_cons_zero, List.set_cons_succ]
  refine qw_value (by rfl) (.bool true) (fun _ => rfl) ?_
  simp only [Act.put, List.setIfInBounds_toArray, List.set_cons_zero, List.set_cons_succ]
  refine qw_nil ?_
  intro w9 hb9
  have b9 := below_on b7 (Nat.le_refl _) hb9
  go_wp2
  go_ret
  exact ⟨rfl, b9⟩

set_option maxRecDepth 100000 in
theorem lifted (os : Os) (started : os.Started) (H : Type) (enc : TypeId × Value → H) :
    ReturnsInHanded {} Try.checked os 7 .any (Rows.natBackSpec.pre6 enc Try.prog Try.f7 Rows.natBackRow.domain false) (Rows.natBackSpec.post enc Try.prog Try.f7 false true false false) := by
  refine returnsInHanded_of_change (C := Try.checked) own started (by kernel_rfl) Try.func7
    (ChangeSpec.witness6 (enc := enc) (C := Try.checked) false ⟨#[], #[.agg #[.int .u64 0, .int .u64 0, .int .u64 0, .int .u64 0], .agg #[.int .u64 0, .int .u64 0, .int .u64 0, .int .u64 0], .agg #[.int .u64 0, .int .u64 0, .int .u64 0, .int .u64 0]], []⟩ 8 (by kernel_rfl) (by kernel_rfl) (by kernel_rfl) (by kernel_rfl)) ?_
  intro W base args ds gs before hval0 hW hcnd _
  have hval : ∀ (j : Nat) t v, Try.f7.params[j]? = some t → args[j]? = some v → Value.okWide Try.prog W .any base t v := hval0
  have hW' := hW
  obtain ⟨p, q, hA0, hV, rfl, hfz, hnd⟩ := hW
  have hA : DataW.TrodAll enc Try.prog W 0 (fun _ => true) true Try.f7.params.toList args.toList ds p := hA0
  rw [Try.params7] at hA hval
  obtain ⟨v0, vs0, d0, ds0, p0, q0, hargs, rfl, rfl, h0, r0⟩ := trodAll_cons hA
  obtain ⟨v1, vs1, d1, ds1, p1, q1, rfl, rfl, rfl, h1, r1⟩ := trodAll_cons r0
  obtain ⟨v2, vs2, d2, ds2, p2, q2, rfl, rfl, rfl, h2, r2⟩ := trodAll_cons r1
  obtain ⟨rfl, rfl, rfl⟩ := trodAll_nil r2
  obtain rfl : args = #[v0, v1, v2] := by cases args; simp_all
  obtain ⟨rfl, rfl⟩ := trodVars_none hV
  have k0 := h0
  have lt0 := lt_of_trod h0
  obtain ⟨N0, hN0, rfl⟩ := open_nat (hval 0 24 v0 rfl rfl) h0
  have k1 := h1
  have lt1 := lt_of_trod h1
  obtain ⟨N1, hN1, rfl⟩ := open_nat (hval 1 24 v1 rfl rfl) h1
  have k2 := h2
  have lt2 := lt_of_trod h2
  obtain ⟨N2, hN2, rfl⟩ := open_nat (hval 2 24 v2 rfl rfl) h2
  clear hA0 hval0
  refine (walk N0 N1 N2 W hN0 hN1 hN2).mono fun e W' ⟨he, bel⟩ => ?_
  subst he
  exact ⟨_, rfl, _, _, _, [], _, [], hW', trodAll_mk1 (shut_bool Try.underlying4 _), (trodAll_cons_mk (Below.trod laidOut (by kernel_rfl) (of_decide_eq_true (by kernel_rfl)) k0 bel lt0) (trodAll_cons_mk (Below.trod laidOut (by kernel_rfl) (of_decide_eq_true (by kernel_rfl)) k1 bel lt1) (trodAll_cons_mk (Below.trod laidOut (by kernel_rfl) (of_decide_eq_true (by kernel_rfl)) k2 bel lt2) trodAll_mk0))), rfl, bel.frame _, fun h => by cases h⟩

theorem over : Rows.natBackRow.holds Try.pinned (OpenSpec.ofChange Rows.natBackSpec) :=
  OpenClaim.holds_of_wide 7 Try.f7 rfl rfl rfl rfl rfl rfl rfl ⟨rfl, rfl, rfl, rfl, rfl⟩ rfl rfl rfl rfl rfl (by kernel_rfl) Try.func7 (by kernel_rfl)
    (of_decide_eq_true (by kernel_rfl)) (by unfold Func.isWrapper; first | (rw [if_pos (by decide +kernel)]; kernel_rfl) | (rw [if_neg (by decide +kernel)]; exact ⟨rfl, rfl⟩))
    (fun os started H enc _ => lifted os started H enc)
end Go.Proofs.Ythccjmhpmbbblaa.natBackP
namespace Go.Proofs.Ythccjmhpmbbblaa
theorem natBack_holds : Rows.NatBackSaid := natBackP.over
end Go.Proofs.Ythccjmhpmbbblaa
