/- The law NatAdds of layer 1 holds for every input: nat.Add, nat.Sub and nat.Cmp answer as the document's bit by bit answers do. No condition. -/
import Derived.Test.YthccjmhpmbbblaaOpen
namespace Go.Proofs.Ythccjmhpmbbblaa.natAddsP
open Go.ChangeShapes Go.WideShapes Go.ChangeAt Go.RowKit
set_option linter.unusedVariables false

set_option maxRecDepth 100000 in
set_option maxHeartbeats 4000000 in
theorem walk (A B : Nat) (w : World) (hA : A < 2 ^ 256) (hB : B < 2 ^ 256) :
    Calls Try.prog 3 #[.agg (natC A), .agg (natC B)] w fun e w' => e = .returned (.bool true) ∧ Below w.heap.size w w' := by
  have HA : Hid (A < 2 ^ 256) := hA
  have HB : Hid (B < 2 ^ 256) := hB
  clear hA hB
  have rA : Row ((w.alloc (.cells (natC A) 24)).alloc (.cells (natC B) 24)) w.heap.size (natC A) 24 := Row.one rfl
  have rB : Row ((w.alloc (.cells (natC A) 24)).alloc (.cells (natC B) 24)) (w.heap.size + 1) (natC B) 24 := Row.here (by simp)
  have b0 := below_alloc2 (w := w) (.cells (natC A) 24) (.cells (natC B) 24)
  go_enter Try.func3, Try.ntmps3
  go_wp2_with (first
    | refine wpList_box_row rfl 24 _ rfl _ rfl ?_
    | refine wpList_loadR rfl 24 _ rfl _ rfl rA 4 _ Try.underlying24 (by exact size_nat) ?_
    | refine wpList_loadR rfl 24 _ rfl _ rfl rB 4 _ Try.underlying24 (by exact size_nat) ?_)
  generalize (w.alloc (.cells (natC A) 24)).alloc (.cells (natC B) 24) = W0 at *
  refine (nadd_any _ _ _).mono ?_
  rintro e u1 ⟨rfl, hb⟩
  replace rA := (rA.belowAll hb).alloc (.cells (natC (A + B)) 24)
  replace rB := (rB.belowAll hb).alloc (.cells (natC (A + B)) 24)
  have x1 := Row.new u1 (natC (A + B)) 24
  have b1 := (below_on b0 (Nat.le_refl _) hb).alloc (below_on b0 (Nat.le_refl _) hb).size (.cells (natC (A + B)) 24)
  clear hb b0
  go_wp2_with (first
    | refine wpList_alloc_row rfl 24 rfl _ zero_nat ?_
    | refine wpList_store_new rfl 24 _ _ rfl _ rfl rfl _ _ (by exact size_nat) (by rfl) (natC_one _) ?_
    | refine wpList_loadR rfl 24 _ rfl _ rfl rA 4 _ Try.underlying24 (by exact size_nat) ?_
    | refine wpList_loadR rfl 24 _ rfl _ rfl rB 4 _ Try.underlying24 (by exact size_nat) ?_)
  generalize u1.heap.size = p1 at *
  generalize u1.alloc (.cells (natC (A + B)) 24) = W1 at *
  refine (radd_any _ _ _).mono ?_
  rintro e u2 ⟨rfl, hb⟩
  replace rA := (rA.belowAll hb).alloc (.cells (natC (A + B)) 24)
  replace rB := (rB.belowAll hb).alloc (.cells (natC (A + B)) 24)
  replace x1 := (x1.belowAll hb).alloc (.cells (natC (A + B)) 24)
  have x2 := Row.new u2 (natC (A + B)) 24
  have b2 := (below_on b1 (Nat.le_refl _) hb).alloc (below_on b1 (Nat.le_refl _) hb).size (.cells (natC (A + B)) 24)
  clear hb b1
  go_wp2_with (first
    | refine wpList_alloc_row rfl 24 rfl _ zero_nat ?_
    | refine wpList_store_new rfl 24 _ _ rfl _ rfl rfl _ _ (by exact size_nat) (by rfl) (natC_one _) ?_
    | refine wpList_loadR rfl 24 _ rfl _ rfl rA 4 _ Try.underlying24 (by exact size_nat) ?_
    | refine wpList_loadR rfl 24 _ rfl _ rfl rB 4 _ Try.underlying24 (by exact size_nat) ?_)
  generalize u2.heap.size = p2 at *
  generalize u2.alloc (.cells (natC (A + B)) 24) = W2 at *
  refine (nsub_any _ _ _ HB.out).mono ?_
  rintro e u3 ⟨rfl, hb⟩
  replace rA := (rA.belowAll hb).alloc (.cells (natC (less A B)) 24)
  replace rB := (rB.belowAll hb).alloc (.cells (natC (less A B)) 24)
  replace x1 := (x1.belowAll hb).alloc (.cells (natC (less A B)) 24)
  replace x2 := (x2.belowAll hb).alloc (.cells (natC (less A B)) 24)
  have x3 := Row.new u3 (natC (less A B)) 24
  have b3 := (below_on b2 (Nat.le_refl _) hb).alloc (below_on b2 (Nat.le_refl _) hb).size (.cells (natC (less A B)) 24)
  clear hb b2
  go_wp2_with (first
    | refine wpList_alloc_row rfl 24 rfl _ zero_nat ?_
    | refine wpList_store_new rfl 24 _ _ rfl _ rfl rfl _ _ (by exact size_nat) (by rfl) (natC_one _) ?_
    | refine wpList_loadR rfl 24 _ rfl _ rfl rA 4 _ Try.underlying24 (by exact size_nat) ?_
    | refine wpList_loadR rfl 24 _ rfl _ rfl rB 4 _ Try.underlying24 (by exact size_nat) ?_)
  generalize u3.heap.size = p3 at *
  generalize u3.alloc (.cells (natC (less A B)) 24) = W3 at *
  refine (rsub_any _ _ _ HA.out HB.out).mono ?_
  rintro e u4 ⟨rfl, hb⟩
  replace rA := (rA.belowAll hb).alloc (.cells (natC (less A B)) 24)
  replace rB := (rB.belowAll hb).alloc (.cells (natC (less A B)) 24)
  replace x1 := (x1.belowAll hb).alloc (.cells (natC (less A B)) 24)
  replace x2 := (x2.belowAll hb).alloc (.cells (natC (less A B)) 24)
  replace x3 := (x3.belowAll hb).alloc (.cells (natC (less A B)) 24)
  have x4 := Row.new u4 (natC (less A B)) 24
  have b4 := (below_on b3 (Nat.le_refl _) hb).alloc (below_on b3 (Nat.le_refl _) hb).size (.cells (natC (less A B)) 24)
  clear hb b3
  go_wp2_with (first
    | refine wpList_alloc_row rfl 24 rfl _ zero_nat ?_
    | refine wpList_store_new rfl 24 _ _ rfl _ rfl rfl _ _ (by exact size_nat) (by rfl) (natC_one _) ?_
    | refine wpList_loadR rfl 24 _ rfl _ rfl rA 4 _ Try.underlying24 (by exact size_nat) ?_
    | refine wpList_loadR rfl 24 _ rfl _ rfl rB 4 _ Try.underlying24 (by exact size_nat) ?_)
  generalize u4.heap.size = p4 at *
  generalize u4.alloc (.cells (natC (less A B)) 24) = W4 at *
  refine wp_region_qw (by kernel_rfl) (by kernel_rfl) ?_
  refine qw_load (by rfl) 24 _ rfl (p1) rfl x1 4 _ Try.underlying24 size_nat ?_
  simp only [Act.put, List.setIfInBounds_toArray, List.set_cons_zero, List.set_cons_succ]
  refine qw_load (by rfl) 24 _ rfl (p2) rfl x2 4 _ Try.underlying24 size_nat ?_
  simp only [Act.put, List.setIfInBounds_toArray, List.set_cons_zero, List.set_cons_succ]
  refine qw_value (by rfl) (.bool true) (fun w => (exec_eql_nat _ _ _ rfl (A + B) (A + B) rfl rfl w).trans (by rw [decide_eq_true (rfl)])) ?_
  simp only [Act.put, List.setIfInBounds_toArray, List.set_cons_zero, List.set_cons_succ]
  refine qw_value (by rfl) (.bool true) (fun _ => rfl) ?_
  simp only [Act.put, List.setIfInBounds_toArray, List.set_cons_zero, List.set_cons_succ]
  refine qw_value (by rfl) (.int .i64 (cN A B 256 : Nat)) (fun _ => rfl) ?_
  simp only [Act.put, List.setIfInBounds_toArray, List.set_cons_zero, List.set_cons_succ]
  refine qw_value (by rfl) (.int .i64 (cN A B 256 : Nat)) (fun _ => rfl) ?_
  simp only [Act.put, List.setIfInBounds_toArray, List.set_cons_zero, List.set_cons_succ]
  refine qw_value (by rfl) (.bool true) (fun w => exec_eql_int _ _ _ _ rfl _ _ rfl rfl w) ?_
  simp only [Act.put, List.setIfInBounds_toArray, List.set_cons_zero, List.set_cons_succ]
  refine qw_value (by rfl) (.bool true) (fun _ => rfl) ?_
  simp only [Act.put, List.setIfInBounds_toArray, List.set_cons_zero, List.set_cons_succ]
  refine qw_value (by rfl) (.bool true) (fun _ => rfl) ?_
  simp only [Act.put, List.setIfInBounds_toArray, List.set_cons_zero, List.set_cons_succ]
  refine qw_load (by rfl) 24 _ rfl (p3) rfl x3 4 _ Try.underlying24 size_nat ?_
  simp only [Act.put, List.setIfInBounds_toArray, List.set_cons_zero, List.set_cons_succ]
  refine qw_load (by rfl) 24 _ rfl (p4) rfl x4 4 _ Try.underlying24 size_nat ?_
  simp only [Act.put, List.setIfInBounds_toArray, List.set_cons_zero, List.set_cons_succ]
  refine qw_value (by rfl) (.bool true) (fun w => (exec_eql_nat _ _ _ rfl (less A B) (less A B) rfl rfl w).trans (by rw [decide_eq_true (rfl)])) ?_
  simp only [Act.put, List.setIfInBounds_toArray, List.set_cons_zero, List.set_cons_succ]
  refine qw_value (by rfl) (.bool true) (fun _ => rfl) ?_
  simp only [Act.put, List.setIfInBounds_toArray, List.set_cons_zero, List.set_cons_succ]
  refine qw_value (by rfl) (.bool true) (fun _ => rfl) ?_
  simp only [Act.put, List.setIfInBounds_toArray, List.set_cons_zero, List.set_cons_succ]
  refine qw_value (by rfl) (.int .i64 (bN A B 256 : Nat)) (fun _ => rfl) ?_
  simp only [Act.put, List.setIfInBounds_toArray, List.set_cons_zero, List.set_cons_succ]
  refine qw_value (by rfl) (.int .i64 (bN A B 256 : Nat)) (fun _ => rfl) ?_
  simp only [Act.put, List.setIfInBounds_toArray, List.set_cons_zero, List.set_cons_succ]
  refine qw_value (by rfl) (.bool true) (fun w => exec_eql_int _ _ _ _ rfl _ _ rfl rfl w) ?_
  simp only [Act.put, List.setIfInBounds_toArray, List.set_cons_zero, List.set_cons_succ]
  refine qw_value (by rfl) (.bool true) (fun _ => rfl) ?_
  simp only [Act.put, List.setIfInBounds_toArray, List.set_cons_zero, List.set_cons_succ]
  refine qw_value (by rfl) (.bool true) (fun _ => rfl) ?_
  simp only [Act.put, List.setIfInBounds_toArray, List.set_cons_zero, List.set_cons_succ]
  refine qw_load (by rfl) 24 _ rfl (w.heap.size) rfl rA 4 _ Try.underlying24 size_nat ?_
  simp only [Act.put, List.setIfInBounds_toArray, List.set_cons_zero, List.set_cons_succ]
  refine qw_load (by rfl) 24 _ rfl (w.heap.size + 1) rfl rB 4 _ Try.underlying24 size_nat ?_
  simp only [Act.put, List.setIfInBounds_toArray, List.set_cons_zero, List.set_cons_succ]
  refine qw_call (by rfl) 12 _ _ rfl Try.func12 (by kernel_rfl) #[.agg (natC A), .agg (natC B)] rfl (.int .i64 (cmpI A B)) (fun w => ncmp_any A B w HA.out HB.out) ?_
  simp only [Act.put, List.setIfInBounds_toArray, List.set_cons_zero, List.set_cons_succ]
  refine qw_load (by rfl) 24 _ rfl (w.heap.size) rfl rA 4 _ Try.underlying24 size_nat ?_
  simp only [Act.put, List.setIfInBounds_toArray, List.set_cons_zero, List.set_cons_succ]
  refine qw_load (by rfl) 24 _ rfl (w.heap.size + 1) rfl rB 4 _ Try.underlying24 size_nat ?_
  simp only [Act.put, List.setIfInBounds_toArray, List.set_cons_zero, List.set_cons_succ]
  refine qw_call (by rfl) 13 _ _ rfl Try.func13 (by kernel_rfl) #[.agg (natC A), .agg (natC B)] rfl (.int .i64 (cmpI A B)) (fun w => rcmp_any A B w HA.out HB.out) ?_
  simp only [Act.put, List.setIfInBounds_toArray, List.set_cons_zero, List.set_cons_succ]
  refine qw_value (by rfl) (.bool true) (fun w => exec_eql_int _ _ _ _ rfl _ _ rfl rfl w) ?_
  simp only [Act.put, List.setIfInBounds_toArray, List.set_cons_zero, List.set_cons_succ]
  refine qw_value (by rfl) (.bool true) (fun _ => rfl) ?_
  simp only [Act.put, List.setIfInBounds_toArray, List.set_cons_zero, List.set_cons_succ]
  refine qw_value (by rfl) (.bool true) (fun _ => rfl) ?_
  simp only [Act.put, List.setIfInBounds_toArray, List.set_cons_zero, List.set_cons_succ]
  refine qw_call (by rfl) 14 _ _ rfl Try.func14 (by kernel_rfl) #[] rfl (.bool true) (fun w => awake_any w) ?_
  simp only [Act.put, List.setIfInBounds_toArray, List.set_cons_zero, List.set_cons_succ]
  refine qw_value (by rfl) (.bool true) (fun _ => rfl) ?_
  simp only [Act.put, List.setIfInBounds_toArray, List.set_cons_zero, List.set_cons_succ]
  refine qw_value (by rfl) (.bool true) (fun _ => rfl) ?_
  simp only [Act.put, List.setIfInBounds_toArray, List.set_cons_zero, List.set_cons_succ]
  refine qw_nil ?_
  intro w9 hb9
  have b9 := below_on b4 (Nat.le_refl _) hb9
  go_wp2
  go_ret
  exact ⟨rfl, b9⟩

set_option maxRecDepth 100000 in
theorem lifted (os : Os) (started : os.Started) (H : Type) (enc : TypeId × Value → H) :
    ReturnsInHanded {} Try.checked os 3 .any (Rows.natAddsSpec.pre6 enc Try.prog Try.f3 Rows.natAddsRow.domain false) (Rows.natAddsSpec.post enc Try.prog Try.f3 false true false false) := by
  refine returnsInHanded_of_change (C := Try.checked) own started (by kernel_rfl) Try.func3
    (ChangeSpec.witness6 (enc := enc) (C := Try.checked) false ⟨#[], #[.agg #[.int .u64 0, .int .u64 0, .int .u64 0, .int .u64 0], .agg #[.int .u64 0, .int .u64 0, .int .u64 0, .int .u64 0]], []⟩ 8 (by kernel_rfl) (by kernel_rfl) (by kernel_rfl) (by kernel_rfl)) ?_
  intro W base args ds gs before hval0 hW hcnd _
  have hval : ∀ (j : Nat) t v, Try.f3.params[j]? = some t → args[j]? = some v → Value.okWide Try.prog W .any base t v := hval0
  have hW' := hW
  obtain ⟨p, q, hA0, hV, rfl, hfz, hnd⟩ := hW
  have hA : DataW.TrodAll enc Try.prog W 0 (fun _ => true) true Try.f3.params.toList args.toList ds p := hA0
  rw [Try.params3] at hA hval
  obtain ⟨v0, vs0, d0, ds0, p0, q0, hargs, rfl, rfl, h0, r0⟩ := trodAll_cons hA
  obtain ⟨v1, vs1, d1, ds1, p1, q1, rfl, rfl, rfl, h1, r1⟩ := trodAll_cons r0
  obtain ⟨rfl, rfl, rfl⟩ := trodAll_nil r1
  obtain rfl : args = #[v0, v1] := by cases args; simp_all
  obtain ⟨rfl, rfl⟩ := trodVars_none hV
  have k0 := h0
  have lt0 := lt_of_trod h0
  obtain ⟨N0, hN0, rfl⟩ := open_nat (hval 0 24 v0 rfl rfl) h0
  have k1 := h1
  have lt1 := lt_of_trod h1
  obtain ⟨N1, hN1, rfl⟩ := open_nat (hval 1 24 v1 rfl rfl) h1
  clear hA0 hval0
  refine (walk N0 N1 W hN0 hN1).mono fun e W' ⟨he, bel⟩ => ?_
  subst he
  exact ⟨_, rfl, _, _, _, [], _, [], hW', trodAll_mk1 (shut_bool Try.underlying4 _), (trodAll_cons_mk (Below.trod laidOut (by kernel_rfl) (of_decide_eq_true (by kernel_rfl)) k0 bel lt0) (trodAll_cons_mk (Below.trod laidOut (by kernel_rfl) (of_decide_eq_true (by kernel_rfl)) k1 bel lt1) trodAll_mk0)), rfl, bel.frame _, fun h => by cases h⟩

theorem over : Rows.natAddsRow.holds Try.pinned (OpenSpec.ofChange Rows.natAddsSpec) :=
  OpenClaim.holds_of_wide 3 Try.f3 rfl rfl rfl rfl rfl rfl rfl ⟨rfl, rfl, rfl, rfl, rfl⟩ rfl rfl rfl rfl rfl (by kernel_rfl) Try.func3 (by kernel_rfl)
    (of_decide_eq_true (by kernel_rfl)) (by unfold Func.isWrapper; first | (rw [if_pos (by decide +kernel)]; kernel_rfl) | (rw [if_neg (by decide +kernel)]; exact ⟨rfl, rfl⟩))
    (fun os started H enc _ => lifted os started H enc)
end Go.Proofs.Ythccjmhpmbbblaa.natAddsP
namespace Go.Proofs.Ythccjmhpmbbblaa
theorem natAdds_holds : Rows.NatAddsSaid := natAddsP.over
end Go.Proofs.Ythccjmhpmbbblaa
