/- The law NatBytes of layer 1 holds for every input: nat.Bytes and nat.Take answer as the document's do; what is put is taken as it was, and no other bytes lead there. No condition. -/
import Derived.Test.YthccjmhpmbbblaaOpen
import Derived.Test.YthccjmhpmbbblaaRBytes
import Derived.Test.YthccjmhpmbbblaaRTake
import Derived.Test.YthccjmhpmbbblaaRound
namespace Go.Proofs.Ythccjmhpmbbblaa.natBytesP
open Go.ChangeShapes Go.WideShapes Go.ChangeAt Go.RowKit
open Go.ChangeMaps (open_string shut_string)
set_option linter.unusedVariables false

theorem exec_neq_int {P : Program} {o : Oper} {ρ : Operand → Value} (t : TypeId) (x y : Operand) (u : TypeId) (ho : o.op = .binOp .neq t x y u) (k : IntKind) (n m : Int) (hx : ρ x = .int k n) (hy : ρ y = .int k m) (w : World) :
    (execOp ρ o).run P w = .ok (.value (.bool (n != m))) w := by
  unfold execOp
  simp only [ho, hx, hy]
  simp [eqGuard, go_sem]
theorem hide_ {p : Prop} (h : p) : Aside p := h
theorem back (A : Nat) (hA : A < 2 ^ 256) (w : World) : Calls Try.prog 27 #[.string (bytesOf A)] w fun e w' => e = .returned (.tuple #[.agg (natC A), .int .i64 0]) ∧ Below w.heap.size w w' := by
  have h := ntake_any (bytesOf A) w
  rw [(take_bytesOf A hA).1, (take_bytesOf A hA).2] at h
  exact h

set_option maxRecDepth 100000 in
set_option maxHeartbeats 4000000 in
theorem walk_long (A : Nat) (s : ByteArray) (w : World) (hs : 256 < s.size) :
    Calls Try.prog 6 #[.agg (natC A), .string s] w fun e w' => e = .returned (.bool true) ∧ Below w.heap.size w w' := by
  have h1 : (256 : Int) < s.size := by omega
  have b0 := below_alloc (w := w) (.cells (natC A) 24)
  go_enter Try.func6, Try.ntmps6
  go_wp2_with (first
    | refine wpList_box_row rfl 24 _ rfl _ rfl ?_
    | (go_at_call 14; refine (awake_any _).mono ?_; rintro e u1 ⟨rfl, hb⟩; have b1 := below_on b0 (Nat.le_refl _) hb))
  go_ret
  exact ⟨rfl, b1⟩

set_option maxRecDepth 100000 in
set_option maxHeartbeats 4000000 in
theorem walk_bad (A N : Nat) (s : ByteArray) (w : World) (hA : A < 2 ^ 256) (hN : N < 2 ^ 256) (hs : ¬ 256 < s.size) (hTN : takeN s = N) (hTE : takeE s = 4) :
    Calls Try.prog 6 #[.agg (natC A), .string s] w fun e w' => e = .returned (.bool true) ∧ Below w.heap.size w w' := by
  have h1 : ¬ (256 : Int) < s.size := by omega
  have HA : Hid (A < 2 ^ 256) := hA
  have HN : Hid (N < 2 ^ 256) := hN
  have c1 : ∀ w, Calls Try.prog 27 #[.string s] w fun e w' => e = .returned (.tuple #[.agg (natC N), .int .i64 4]) ∧ Below w.heap.size w w' := fun w => by
    have h := ntake_any s w
    rw [hTN, hTE] at h
    exact h
  have c2 : ∀ w, Calls Try.prog 28 #[.string s] w fun e w' => e = .returned (.tuple #[.agg (natC N), .int .i64 4]) ∧ Below w.heap.size w w' := fun w => by
    have h := rtake_any s w
    rw [hTN, hTE] at h
    exact h
  have C1 := hide_ c1
  have C2 := hide_ c2
  clear c1 c2 hA hN hs hTN hTE
  have rA := Row.new w (natC A) 24
  have b0 := below_alloc (w := w) (.cells (natC A) 24)
  go_enter Try.func6, Try.ntmps6
  go_wp2_with (first
    | refine wpList_box_row rfl 24 _ rfl _ rfl ?_)
  generalize w.alloc (.cells (natC A) 24) = W0 at *
  refine (C1.out _).mono ?_
  rintro e u1 ⟨rfl, hb⟩
  replace rA := (rA.belowAll hb).alloc (.cells (natC (N)) 24)
  have x1 := Row.new u1 (natC (N)) 24
  have b1 := (below_on b0 (Nat.le_refl _) hb).alloc (below_on b0 (Nat.le_refl _) hb).size (.cells (natC (N)) 24)
  clear hb b0
  go_wp2_with (first
    | refine wpList_alloc_row rfl 24 rfl _ zero_nat ?_
    | refine wpList_store_new rfl 24 _ _ rfl _ rfl rfl _ _ (by exact size_nat) (by rfl) (natC_one _) ?_)
  generalize u1.heap.size = p1 at *
  generalize u1.alloc (.cells (natC (N)) 24) = W1 at *
  refine (C2.out _).mono ?_
  rintro e u2 ⟨rfl, hb⟩
  replace rA := (rA.belowAll hb).alloc (.cells (natC (N)) 24)
  replace x1 := (x1.belowAll hb).alloc (.cells (natC (N)) 24)
  have x2 := Row.new u2 (natC (N)) 24
  have b2 := (below_on b1 (Nat.le_refl _) hb).alloc (below_on b1 (Nat.le_refl _) hb).size (.cells (natC (N)) 24)
  clear hb b1
  go_wp2_with (first
    | refine wpList_alloc_row rfl 24 rfl _ zero_nat ?_
    | refine wpList_store_new rfl 24 _ _ rfl _ rfl rfl _ _ (by exact size_nat) (by rfl) (natC_one _) ?_
    | refine wpList_loadR rfl 24 _ rfl _ rfl rA 4 _ Try.underlying24 (by exact size_nat) ?_)
  generalize u2.heap.size = p2 at *
  generalize u2.alloc (.cells (natC (N)) 24) = W2 at *
  refine (nbytes_any A _ HA.out).mono ?_
  rintro e u3 ⟨rfl, hb⟩
  replace rA := rA.belowAll hb
  replace x1 := x1.belowAll hb
  replace x2 := x2.belowAll hb
  have b3 := below_on b2 (Nat.le_refl _) hb
  clear hb b2
  go_wp2_with fail
  refine (back A HA.out _).mono ?_
  rintro e u4 ⟨rfl, hb⟩
  replace rA := (rA.belowAll hb).alloc (.cells (natC A) 24)
  replace x1 := (x1.belowAll hb).alloc (.cells (natC A) 24)
  replace x2 := (x2.belowAll hb).alloc (.cells (natC A) 24)
  have x4 := Row.new u4 (natC A) 24
  have b4 := (below_on b3 (Nat.le_refl _) hb).alloc (below_on b3 (Nat.le_refl _) hb).size (.cells (natC A) 24)
  clear hb b3
  go_wp2_with (first
    | refine wpList_alloc_row rfl 24 rfl _ zero_nat ?_
    | refine wpList_store_new rfl 24 _ _ rfl _ rfl rfl _ _ (by exact size_nat) (by rfl) (natC_one _) ?_)
  generalize u4.heap.size = p4 at *
  generalize u4.alloc (.cells (natC A) 24) = W4 at *
  refine wp_region_qw (by kernel_rfl) (by kernel_rfl) ?_
  refine qw_load (by rfl) 24 _ rfl (w.heap.size) rfl rA 4 _ Try.underlying24 size_nat ?_
  simp only [Act.put, List.setIfInBounds_toArray, List.set_cons_zero, List.set_cons_succ]
  refine qw_call (by rfl) 29 _ _ rfl Try.func29 (by kernel_rfl) #[.agg (natC A)] rfl (.string (bytesOf A)) (fun w => nbytes_any A w HA.out) ?_
  simp only [Act.put, List.setIfInBounds_toArray, List.set_cons_zero, List.set_cons_succ]
  refine qw_load (by rfl) 24 _ rfl (w.heap.size) rfl rA 4 _ Try.underlying24 size_nat ?_
  simp only [Act.put, List.setIfInBounds_toArray, List.set_cons_zero, List.set_cons_succ]
  refine qw_call (by rfl) 30 _ _ rfl Try.func30 (by kernel_rfl) #[.agg (natC A)] rfl (.string (bytesOf A)) (fun w => rbytes_any A w HA.out) ?_
  simp only [Act.put, List.setIfInBounds_toArray, List.set_cons_zero, List.set_cons_succ]
  refine qw_value (by rfl) (.bool true) (fun w => exec_eql_str _ _ _ _ rfl _ rfl rfl w) ?_
  simp only [Act.put, List.setIfInBounds_toArray, List.set_cons_zero, List.set_cons_succ]
  refine qw_value (by rfl) (.bool true) (fun _ => rfl) ?_
  simp only [Act.put, List.setIfInBounds_toArray, List.set_cons_zero, List.set_cons_succ]
  refine qw_load (by rfl) 24 _ rfl (p1) rfl x1 4 _ Try.underlying24 size_nat ?_
  simp only [Act.put, List.setIfInBounds_toArray, List.set_cons_zero, List.set_cons_succ]
  refine qw_load (by rfl) 24 _ rfl (p2) rfl x2 4 _ Try.underlying24 size_nat ?_
  simp only [Act.put, List.setIfInBounds_toArray, List.set_cons_zero, List.set_cons_succ]
  refine qw_value (by rfl) (.bool true) (fun w => (exec_eql_nat _ _ _ rfl (N) (N) rfl rfl w).trans (by rw [decide_eq_true (rfl)])) ?_
  simp only [Act.put, List.setIfInBounds_toArray, List.set_cons_zero, List.set_cons_succ]
  refine qw_value (by rfl) (.bool true) (fun _ => rfl) ?_
  simp only [Act.put, List.setIfInBounds_toArray, List.set_cons_zero, List.set_cons_succ]
  refine qw_value (by rfl) (.bool true) (fun _ => rfl) ?_
  simp only [Act.put, List.setIfInBounds_toArray, List.set_cons_zero, List.set_cons_succ]
  refine qw_value (by rfl) (.int .i64 4) (fun _ => rfl) ?_
  simp only [Act.put, List.setIfInBounds_toArray, List.set_cons_zero, List.set_cons_succ]
  refine qw_value (by rfl) (.int .i64 4) (fun _ => rfl) ?_
  simp only [Act.put, List.setIfInBounds_toArray, List.set_cons_zero, List.set_cons_succ]
  refine qw_value (by rfl) (.bool true) (fun w => exec_eql_int _ _ _ _ rfl _ _ rfl rfl w) ?_
  simp only [Act.put, List.setIfInBounds_toArray, List.set_cons_zero, List.set_cons_succ]
  refine qw_value (by rfl) (.bool true) (fun _ => rfl) ?_
  simp only [Act.put, List.setIfInBounds_toArray, List.set_cons_zero, List.set_cons_succ]
  refine qw_value (by rfl) (.bool true) (fun _ => rfl) ?_
  simp only [Act.put, List.setIfInBounds_toArray, List.set_cons_zero, List.set_cons_succ]
  refine qw_load (by rfl) 24 _ rfl (p4) rfl x4 4 _ Try.underlying24 size_nat ?_
  simp only [Act.put, List.setIfInBounds_toArray, List.set_cons_zero, List.set_cons_succ]
  refine qw_load (by rfl) 24 _ rfl (w.heap.size) rfl rA 4 _ Try.underlying24 size_nat ?_
  simp only [Act.put, List.setIfInBounds_toArray, List.set_cons_zero, List.set_cons_succ]
  refine qw_value (by rfl) (.bool true) (fun w => (exec_eql_nat _ _ _ rfl (A) (A) rfl rfl w).trans (by rw [decide_eq_true (rfl)])) ?_
  simp only [Act.put, List.setIfInBounds_toArray, List.set_cons_zero, List.set_cons_succ]
  refine qw_value (by rfl) (.bool true) (fun _ => rfl) ?_
  simp only [Act.put, List.setIfInBounds_toArray, List.set_cons_zero, List.set_cons_succ]
  refine qw_value (by rfl) (.bool true) (fun _ => rfl) ?_
  simp only [Act.put, List.setIfInBounds_toArray, List.set_cons_zero, List.set_cons_succ]
  refine qw_value (by rfl) (.int .i64 0) (fun _ => rfl) ?_
  simp only [Act.put, List.setIfInBounds_toArray, List.set_cons_zero, List.set_cons_succ]
  refine qw_value (by rfl) (.bool true) (fun w => exec_eql_int _ _ _ _ rfl _ _ rfl rfl w) ?_
  simp only [Act.put, List.setIfInBounds_toArray, List.set_cons_zero, List.set_cons_succ]
  refine qw_value (by rfl) (.bool true) (fun _ => rfl) ?_
  simp only [Act.put, List.setIfInBounds_toArray, List.set_cons_zero, List.set_cons_succ]
  refine qw_value (by rfl) (.bool true) (fun _ => rfl) ?_
  simp only [Act.put, List.setIfInBounds_toArray, List.set_cons_zero, List.set_cons_succ]
  refine qw_value (by rfl) (.int .i64 4) (fun _ => rfl) ?_
  simp only [Act.put, List.setIfInBounds_toArray, List.set_cons_zero, List.set_cons_succ]
  refine qw_value (by rfl) (.bool true) (fun w => exec_neq_int _ _ _ _ rfl .i64 4 0 rfl rfl w) ?_
  simp only [Act.put, List.setIfInBounds_toArray, List.set_cons_zero, List.set_cons_succ]
  refine qw_value (by rfl) (.bool true) (fun _ => rfl) ?_
  simp only [Act.put, List.setIfInBounds_toArray, List.set_cons_zero, List.set_cons_succ]
  refine qw_skip (by rfl) ?_
  simp only [Act.put, List.setIfInBounds_toArray, List.set_cons_zero, List.set_cons_succ]
  refine qw_skip (by rfl) ?_
  simp only [Act.put, List.setIfInBounds_toArray, List.set_cons_zero, List.set_cons_succ]
  refine qw_skip (by rfl) ?_
  simp only [Act.put, List.setIfInBounds_toArray, List.set_cons_zero, List.set_cons_succ]
  refine qw_skip (by rfl) ?_
  simp only [Act.put, List.setIfInBounds_toArray, List.set_cons_zero, List.set_cons_succ]
  refine qw_value (by rfl) (.bool true) (fun _ => rfl) ?_
  simp only [Act.put, List.setIfInBounds_toArray, List.set_cons_zero, List.set_cons_succ]
  refine qw_value (by rfl) (.bool true) (fun _ => rfl) ?_
  simp only [Act.put, List.setIfInBounds_toArray, List.set_cons_zero, List.set_cons_succ]
  refine qw_value (by rfl) (.bool true) (fun _ => rfl) ?_
  simp only [Act.put, List.setIfInBounds_toArray, List.set_cons_zero, List.set_cons_succ]
  refine qw_call (by rfl) 14 _ _ rfl Try.func14 (by kernel_rfl) #[] rfl (.bool true) (fun w => awake_any w) ?_
  simp only [Act.put, List.setIfInBounds_toArray, List.set_cons_zero, List.set_cons_succ]
  refine qw_value (by rfl) (.bool true) (fun _ => rfl) ?_
  simp only [Act.put, List.setIfInBounds_toArray, List.set_cons_zero, List.set_cons_succ]
  refine qw_value (by rfl) (.bool true) (fun _ => rfl) ?_
  simp only [Act.put, List.setIfInBounds_toArray, List.set_cons_zero, List.set_cons_succ]
  refine qw_nil ?_
  intro w9 hb9
  have b9 := below_on b4 (Nat.le_refl _) hb9
  go_wp2
  go_ret
  exact ⟨rfl, b9⟩

set_option maxRecDepth 100000 in
set_option maxHeartbeats 4000000 in
theorem walk_good (A N : Nat) (s : ByteArray) (w : World) (hA : A < 2 ^ 256) (hN : N < 2 ^ 256) (hs : ¬ 256 < s.size) (hTN : takeN s = N) (hTE : takeE s = 0) (hB : bytesOf N = s) :
    Calls Try.prog 6 #[.agg (natC A), .string s] w fun e w' => e = .returned (.bool true) ∧ Below w.heap.size w w' := by
  have h1 : ¬ (256 : Int) < s.size := by omega
  have HA : Hid (A < 2 ^ 256) := hA
  have HN : Hid (N < 2 ^ 256) := hN
  have c1 : ∀ w, Calls Try.prog 27 #[.string s] w fun e w' => e = .returned (.tuple #[.agg (natC N), .int .i64 0]) ∧ Below w.heap.size w w' := fun w => by
    have h := ntake_any s w
    rw [hTN, hTE] at h
    exact h
  have c2 : ∀ w, Calls Try.prog 28 #[.string s] w fun e w' => e = .returned (.tuple #[.agg (natC N), .int .i64 0]) ∧ Below w.heap.size w w' := fun w => by
    have h := rtake_any s w
    rw [hTN, hTE] at h
    exact h
  have c3 : ∀ w, Calls Try.prog 29 #[.agg (natC N)] w fun e w' => e = .returned (.string s) ∧ Below w.heap.size w w' := fun w => by
    have h := nbytes_any N w hN
    rw [hB] at h
    exact h
  have C3 := hide_ c3
  clear hB c3
  have C1 := hide_ c1
  have C2 := hide_ c2
  clear c1 c2 hA hN hs hTN hTE
  have rA := Row.new w (natC A) 24
  have b0 := below_alloc (w := w) (.cells (natC A) 24)
  go_enter Try.func6, Try.ntmps6
  go_wp2_with (first
    | refine wpList_box_row rfl 24 _ rfl _ rfl ?_)
  generalize w.alloc (.cells (natC A) 24) = W0 at *
  refine (C1.out _).mono ?_
  rintro e u1 ⟨rfl, hb⟩
  replace rA := (rA.belowAll hb).alloc (.cells (natC (N)) 24)
  have x1 := Row.new u1 (natC (N)) 24
  have b1 := (below_on b0 (Nat.le_refl _) hb).alloc (below_on b0 (Nat.le_refl _) hb).size (.cells (natC (N)) 24)
  clear hb b0
  go_wp2_with (first
    | refine wpList_alloc_row rfl 24 rfl _ zero_nat ?_
    | refine wpList_store_new rfl 24 _ _ rfl _ rfl rfl _ _ (by exact size_nat) (by rfl) (natC_one _) ?_)
  generalize u1.heap.size = p1 at *
  generalize u1.alloc (.cells (natC (N)) 24) = W1 at *
  refine (C2.out _).mono ?_
  rintro e u2 ⟨rfl, hb⟩
  replace rA := (rA.belowAll hb).alloc (.cells (natC (N)) 24)
  replace x1 := (x1.belowAll hb).alloc (.cells (natC (N)) 24)
  have x2 := Row.new u2 (natC (N)) 24
  have b2 := (below_on b1 (Nat.le_refl _) hb).alloc (below_on b1 (Nat.le_refl _) hb).size (.cells (natC (N)) 24)
  clear hb b1
  go_wp2_with (first
    | refine wpList_alloc_row rfl 24 rfl _ zero_nat ?_
    | refine wpList_store_new rfl 24 _ _ rfl _ rfl rfl _ _ (by exact size_nat) (by rfl) (natC_one _) ?_
    | refine wpList_loadR rfl 24 _ rfl _ rfl rA 4 _ Try.underlying24 (by exact size_nat) ?_)
  generalize u2.heap.size = p2 at *
  generalize u2.alloc (.cells (natC (N)) 24) = W2 at *
  refine (nbytes_any A _ HA.out).mono ?_
  rintro e u3 ⟨rfl, hb⟩
  replace rA := rA.belowAll hb
  replace x1 := x1.belowAll hb
  replace x2 := x2.belowAll hb
  have b3 := below_on b2 (Nat.le_refl _) hb
  clear hb b2
  go_wp2_with fail
  refine (back A HA.out _).mono ?_
  rintro e u4 ⟨rfl, hb⟩
  replace rA := (rA.belowAll hb).alloc (.cells (natC A) 24)
  replace x1 := (x1.belowAll hb).alloc (.cells (natC A) 24)
  replace x2 := (x2.belowAll hb).alloc (.cells (natC A) 24)
  have x4 := Row.new u4 (natC A) 24
  have b4 := (below_on b3 (Nat.le_refl _) hb).alloc (below_on b3 (Nat.le_refl _) hb).size (.cells (natC A) 24)
  clear hb b3
  go_wp2_with (first
    | refine wpList_alloc_row rfl 24 rfl _ zero_nat ?_
    | refine wpList_store_new rfl 24 _ _ rfl _ rfl rfl _ _ (by exact size_nat) (by rfl) (natC_one _) ?_)
  generalize u4.heap.size = p4 at *
  generalize u4.alloc (.cells (natC A) 24) = W4 at *
  refine wp_region_qw (by kernel_rfl) (by kernel_rfl) ?_
  refine qw_load (by rfl) 24 _ rfl (w.heap.size) rfl rA 4 _ Try.underlying24 size_nat ?_
  simp only [Act.put, List.setIfInBounds_toArray, List.set_cons_zero, List.set_cons_succ]
  refine qw_call (by rfl) 29 _ _ rfl Try.func29 (by kernel_rfl) #[.agg (natC A)] rfl (.string (bytesOf A)) (fun w => nbytes_any A w HA.out) ?_
  simp only [Act.put, List.setIfInBounds_toArray, List.set_cons_zero, List.set_cons_succ]
  refine qw_load (by rfl) 24 _ rfl (w.heap.size) rfl rA 4 _ Try.underlying24 size_nat ?_
  simp only [Act.put, List.setIfInBounds_toArray, List.set_cons_zero, List.set_cons_succ]
  refine qw_call (by rfl) 30 _ _ rfl Try.func30 (by kernel_rfl) #[.agg (natC A)] rfl (.string (bytesOf A)) (fun w => rbytes_any A w HA.out) ?_
  simp only [Act.put, List.setIfInBounds_toArray, List.set_cons_zero, List.set_cons_succ]
  refine qw_value (by rfl) (.bool true) (fun w => exec_eql_str _ _ _ _ rfl _ rfl rfl w) ?_
  simp only [Act.put, List.setIfInBounds_toArray, List.set_cons_zero, List.set_cons_succ]
  refine qw_value (by rfl) (.bool true) (fun _ => rfl) ?_
  simp only [Act.put, List.setIfInBounds_toArray, List.set_cons_zero, List.set_cons_succ]
  refine qw_load (by rfl) 24 _ rfl (p1) rfl x1 4 _ Try.underlying24 size_nat ?_
  simp only [Act.put, List.setIfInBounds_toArray, List.set_cons_zero, List.set_cons_succ]
  refine qw_load (by rfl) 24 _ rfl (p2) rfl x2 4 _ Try.underlying24 size_nat ?_
  simp only [Act.put, List.setIfInBounds_toArray, List.set_cons_zero, List.set_cons_succ]
  refine qw_value (by rfl) (.bool true) (fun w => (exec_eql_nat _ _ _ rfl (N) (N) rfl rfl w).trans (by rw [decide_eq_true (rfl)])) ?_
  simp only [Act.put, List.setIfInBounds_toArray, List.set_cons_zero, List.set_cons_succ]
  refine qw_value (by rfl) (.bool true) (fun _ => rfl) ?_
  simp only [Act.put, List.setIfInBounds_toArray, List.set_cons_zero, List.set_cons_succ]
  refine qw_value (by rfl) (.bool true) (fun _ => rfl) ?_
  simp only [Act.put, List.setIfInBounds_toArray, List.set_cons_zero, List.set_cons_succ]
  refine qw_value (by rfl) (.int .i64 0) (fun _ => rfl) ?_
  simp only [Act.put, List.setIfInBounds_toArray, List.set_cons_zero, List.set_cons_succ]
  refine qw_value (by rfl) (.int .i64 0) (fun _ => rfl) ?_
  simp only [Act.put, List.setIfInBounds_toArray, List.set_cons_zero, List.set_cons_succ]
  refine qw_value (by rfl) (.bool true) (fun w => exec_eql_int _ _ _ _ rfl _ _ rfl rfl w) ?_
  simp only [Act.put, List.setIfInBounds_toArray, List.set_cons_zero, List.set_cons_succ]
  refine qw_value (by rfl) (.bool true) (fun _ => rfl) ?_
  simp only [Act.put, List.setIfInBounds_toArray, List.set_cons_zero, List.set_cons_succ]
  refine qw_value (by rfl) (.bool true) (fun _ => rfl) ?_
  simp only [Act.put, List.setIfInBounds_toArray, List.set_cons_zero, List.set_cons_succ]
  refine qw_load (by rfl) 24 _ rfl (p4) rfl x4 4 _ Try.underlying24 size_nat ?_
  simp only [Act.put, List.setIfInBounds_toArray, List.set_cons_zero, List.set_cons_succ]
  refine qw_load (by rfl) 24 _ rfl (w.heap.size) rfl rA 4 _ Try.underlying24 size_nat ?_
  simp only [Act.put, List.setIfInBounds_toArray, List.set_cons_zero, List.set_cons_succ]
  refine qw_value (by rfl) (.bool true) (fun w => (exec_eql_nat _ _ _ rfl (A) (A) rfl rfl w).trans (by rw [decide_eq_true (rfl)])) ?_
  simp only [Act.put, List.setIfInBounds_toArray, List.set_cons_zero, List.set_cons_succ]
  refine qw_value (by rfl) (.bool true) (fun _ => rfl) ?_
  simp only [Act.put, List.setIfInBounds_toArray, List.set_cons_zero, List.set_cons_succ]
  refine qw_value (by rfl) (.bool true) (fun _ => rfl) ?_
  simp only [Act.put, List.setIfInBounds_toArray, List.set_cons_zero, List.set_cons_succ]
  refine qw_value (by rfl) (.int .i64 0) (fun _ => rfl) ?_
  simp only [Act.put, List.setIfInBounds_toArray, List.set_cons_zero, List.set_cons_succ]
  refine qw_value (by rfl) (.bool true) (fun w => exec_eql_int _ _ _ _ rfl _ _ rfl rfl w) ?_
  simp only [Act.put, List.setIfInBounds_toArray, List.set_cons_zero, List.set_cons_succ]
  refine qw_value (by rfl) (.bool true) (fun _ => rfl) ?_
  simp only [Act.put, List.setIfInBounds_toArray, List.set_cons_zero, List.set_cons_succ]
  refine qw_value (by rfl) (.bool true) (fun _ => rfl) ?_
  simp only [Act.put, List.setIfInBounds_toArray, List.set_cons_zero, List.set_cons_succ]
  refine qw_value (by rfl) (.int .i64 0) (fun _ => rfl) ?_
  simp only [Act.put, List.setIfInBounds_toArray, List.set_cons_zero, List.set_cons_succ]
  refine qw_value (by rfl) (.bool false) (fun w => exec_neq_int _ _ _ _ rfl .i64 0 0 rfl rfl w) ?_
  simp only [Act.put, List.setIfInBounds_toArray, List.set_cons_zero, List.set_cons_succ]
  refine qw_value (by rfl) (.bool false) (fun _ => rfl) ?_
  simp only [Act.put, List.setIfInBounds_toArray, List.set_cons_zero, List.set_cons_succ]
  refine qw_load (by rfl) 24 _ rfl (p1) rfl x1 4 _ Try.underlying24 size_nat ?_
  simp only [Act.put, List.setIfInBounds_toArray, List.set_cons_zero, List.set_cons_succ]
  refine qw_call (by rfl) 29 _ _ rfl Try.func29 (by kernel_rfl) #[.agg (natC N)] rfl (.string s) (fun w => C3.out w) ?_
  simp only [Act.put, List.setIfInBounds_toArray, List.set_cons_zero, List.set_cons_succ]
  refine qw_value (by rfl) (.string s) (fun _ => rfl) ?_
  simp only [Act.put, List.setIfInBounds_toArray, List.set_cons_zero, List.set_cons_succ]
  refine qw_value (by rfl) (.bool true) (fun w => exec_eql_str _ _ _ _ rfl _ rfl rfl w) ?_
  simp only [Act.put, List.setIfInBounds_toArray, List.set_cons_zero, List.set_cons_succ]
  refine qw_value (by rfl) (.bool true) (fun _ => rfl) ?_
  simp only [Act.put, List.setIfInBounds_toArray, List.set_cons_zero, List.set_cons_succ]
  refine qw_value (by rfl) (.bool true) (fun _ => rfl) ?_
  simp only [Act.put, List.setIfInBounds_toArray, List.set_cons_zero, List.set_cons_succ]
  refine qw_value (by rfl) (.bool true) (fun _ => rfl) ?_
  simp only [Act.put, List.setIfInBounds_toArray, List.set_cons_zero, List.set_cons_succ]
  refine qw_call (by rfl) 14 _ _ rfl Try.func14 (by kernel_rfl) #[] rfl (.bool true) (fun w => awake_any w) ?_
  simp only [Act.put, List.setIfInBounds_toArray, List.set_cons_zero, List.set_cons_succ]
  refine qw_value (by rfl) (.bool true) (fun _ => rfl) ?_
  simp only [Act.put, List.setIfInBounds_toArray, List.set_cons_zero, List.set_cons_succ]
  refine qw_value (by rfl) (.bool true) (fun _ => rfl) ?_
  simp only [Act.put, List.setIfInBounds_toArray, List.set_cons_zero, List.set_cons_succ]
  refine qw_nil ?_
  intro w9 hb9
  have b9 := below_on b4 (Nat.le_refl _) hb9
  go_wp2
  go_ret
  exact ⟨rfl, b9⟩

theorem walk (A : Nat) (s : ByteArray) (w : World) (hA : A < 2 ^ 256) (hs : s.size ≤ maxLen) :
    Calls Try.prog 6 #[.agg (natC A), .string s] w fun e w' => e = .returned (.bool true) ∧ Below w.heap.size w w' := by
  by_cases h : 256 < s.size
  · exact walk_long A s w h
  · cases hb : badB s with
    | true => exact walk_bad A _ s w hA (takeN_lt s) h rfl (if_pos hb)
    | false =>
      have he : takeE s = 0 := if_neg (by rw [hb]; decide)
      exact walk_good A _ s w hA (takeN_lt s) h rfl he (bytes_take s he)

set_option maxRecDepth 100000 in
theorem lifted (os : Os) (started : os.Started) (H : Type) (enc : TypeId × Value → H) :
    ReturnsInHanded {} Try.checked os 6 .any (Rows.natBytesSpec.pre6 enc Try.prog Try.f6 Rows.natBytesRow.domain false) (Rows.natBytesSpec.post enc Try.prog Try.f6 false true false false) := by
  refine returnsInHanded_of_change (C := Try.checked) own started (by kernel_rfl) Try.func6
    (ChangeSpec.witness6 (enc := enc) (C := Try.checked) false ⟨#[], #[.agg #[.int .u64 0, .int .u64 0, .int .u64 0, .int .u64 0], .string ⟨#[]⟩], []⟩ 8 (by kernel_rfl) (by kernel_rfl) (by kernel_rfl) (by kernel_rfl)) ?_
  intro W base args ds gs before hval0 hW hcnd _
  have hval : ∀ (j : Nat) t v, Try.f6.params[j]? = some t → args[j]? = some v → Value.okWide Try.prog W .any base t v := hval0
  have hW' := hW
  obtain ⟨p, q, hA0, hV, rfl, hfz, hnd⟩ := hW
  have hA : DataW.TrodAll enc Try.prog W 0 (fun _ => true) true Try.f6.params.toList args.toList ds p := hA0
  rw [Try.params6] at hA hval
  obtain ⟨v0, vs0, d0, ds0, p0, q0, hargs, rfl, rfl, h0, r0⟩ := trodAll_cons hA
  obtain ⟨v1, vs1, d1, ds1, p1, q1, rfl, rfl, rfl, h1, r1⟩ := trodAll_cons r0
  obtain ⟨rfl, rfl, rfl⟩ := trodAll_nil r1
  obtain rfl : args = #[v0, v1] := by cases args; simp_all
  obtain ⟨rfl, rfl⟩ := trodVars_none hV
  have k0 := h0
  have lt0 := lt_of_trod h0
  obtain ⟨N0, hN0, rfl⟩ := open_nat (hval 0 24 v0 rfl rfl) h0
  have k1 := h1
  have lt1 := lt_of_trod h1
  obtain ⟨s1, rfl, rfl, rfl, w1⟩ := open_string Try.underlying9 (hval 1 9 v1 rfl rfl) h1
  clear hA0 hval0
  refine (walk N0 s1 W hN0 w1).mono fun e W' ⟨he, bel⟩ => ?_
  subst he
  exact ⟨_, rfl, _, _, _, [], _, [], hW', trodAll_mk1 (shut_bool Try.underlying4 _), (trodAll_cons_mk (Below.trod laidOut (by kernel_rfl) (of_decide_eq_true (by kernel_rfl)) k0 bel lt0) (trodAll_cons_mk (Below.trod laidOut (by kernel_rfl) (of_decide_eq_true (by kernel_rfl)) k1 bel lt1) trodAll_mk0)), rfl, bel.frame _, fun h => by cases h⟩

theorem over : Rows.natBytesRow.holds Try.pinned (OpenSpec.ofChange Rows.natBytesSpec) :=
  OpenClaim.holds_of_wide 6 Try.f6 rfl rfl rfl rfl rfl rfl rfl ⟨rfl, rfl, rfl, rfl, rfl⟩ rfl rfl rfl rfl rfl (by kernel_rfl) Try.func6 (by kernel_rfl)
    (of_decide_eq_true (by kernel_rfl)) (by unfold Func.isWrapper; first | (rw [if_pos (by decide +kernel)]; kernel_rfl) | (rw [if_neg (by decide +kernel)]; exact ⟨rfl, rfl⟩))
    (fun os started H enc _ => lifted os started H enc)
end Go.Proofs.Ythccjmhpmbbblaa.natBytesP
namespace Go.Proofs.Ythccjmhpmbbblaa
theorem natBytes_holds : Rows.NatBytesSaid := natBytesP.over
end Go.Proofs.Ythccjmhpmbbblaa
