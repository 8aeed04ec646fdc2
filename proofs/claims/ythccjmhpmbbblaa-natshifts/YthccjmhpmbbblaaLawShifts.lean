/- The law NatShifts of layer 1 holds for every input: nat.Len, nat.Bit, nat.Up and nat.Down answer as the document's bits do. No condition. -/
import Derived.Test.YthccjmhpmbbblaaOpen
import Derived.Test.YthccjmhpmbbblaaNDown
namespace Go.Proofs.Ythccjmhpmbbblaa.natShiftsP
open Go.ChangeShapes Go.WideShapes Go.ChangeAt Go.RowKit
set_option linter.unusedVariables false

set_option maxRecDepth 100000 in
set_option maxHeartbeats 4000000 in
theorem walk (A : Nat) (k : Int) (w : World) (hA : A < 2 ^ 256) (hk : -9223372036854775808 ≤ k ∧ k ≤ 9223372036854775807) :
    Calls Try.prog 5 #[.agg (natC A), .int .i64 k] w fun e w' => e = .returned (.bool true) ∧ Below w.heap.size w w' := by
  have HA : Hid (A < 2 ^ 256) := hA
  clear hA hk
  have rA := Row.new w (natC A) 24
  have b0 := below_alloc (w := w) (.cells (natC A) 24)
  go_enter Try.func5, Try.ntmps5
  go_wp2_with (first
    | refine wpList_box_row rfl 24 _ rfl _ rfl ?_)
  generalize w.alloc (.cells (natC A) 24) = W0 at *
  refine wp_region_qw (by kernel_rfl) (by kernel_rfl) ?_
  refine qw_load (by rfl) 24 _ rfl (w.heap.size) rfl rA 4 _ Try.underlying24 size_nat ?_
  simp only [Act.put, List.setIfInBounds_toArray, List.set_cons_zero, List.set_cons_succ]
  refine qw_call (by rfl) 19 _ _ rfl Try.func19 (by kernel_rfl) #[.agg (natC A)] rfl (.int .i64 (bitLen A)) (fun w => nlen_any A w HA.out) ?_
  simp only [Act.put, List.setIfInBounds_toArray, List.set_cons_zero, List.set_cons_succ]
  refine qw_load (by rfl) 24 _ rfl (w.heap.size) rfl rA 4 _ Try.underlying24 size_nat ?_
  simp only [Act.put, List.setIfInBounds_toArray, List.set_cons_zero, List.set_cons_succ]
  refine qw_call (by rfl) 20 _ _ rfl Try.func20 (by kernel_rfl) #[.agg (natC A)] rfl (.int .i64 (bitLen A)) (fun w => rlen_any A w HA.out) ?_
  simp only [Act.put, List.setIfInBounds_toArray, List.set_cons_zero, List.set_cons_succ]
  refine qw_value (by rfl) (.bool true) (fun w => exec_eql_int _ _ _ _ rfl _ _ rfl rfl w) ?_
  simp only [Act.put, List.setIfInBounds_toArray, List.set_cons_zero, List.set_cons_succ]
  refine qw_value (by rfl) (.bool true) (fun _ => rfl) ?_
  simp only [Act.put, List.setIfInBounds_toArray, List.set_cons_zero, List.set_cons_succ]
  refine qw_load (by rfl) 24 _ rfl (w.heap.size) rfl rA 4 _ Try.underlying24 size_nat ?_
  simp only [Act.put, List.setIfInBounds_toArray, List.set_cons_zero, List.set_cons_succ]
  refine qw_value (by rfl) (.int .i64 k) (fun _ => rfl) ?_
  simp only [Act.put, List.setIfInBounds_toArray, List.set_cons_zero, List.set_cons_succ]
  refine qw_call (by rfl) 21 _ _ rfl Try.func21 (by kernel_rfl) #[.agg (natC A), .int .i64 k] rfl (.int .i64 (bitI A k)) (fun w => nbit_any A k w) ?_
  simp only [Act.put, List.setIfInBounds_toArray, List.set_cons_zero, List.set_cons_succ]
  refine qw_load (by rfl) 24 _ rfl (w.heap.size) rfl rA 4 _ Try.underlying24 size_nat ?_
  simp only [Act.put, List.setIfInBounds_toArray, List.set_cons_zero, List.set_cons_succ]
  refine qw_value (by rfl) (.int .i64 k) (fun _ => rfl) ?_
  simp only [Act.put, List.setIfInBounds_toArray, List.set_cons_zero, List.set_cons_succ]
  refine qw_call (by rfl) 22 _ _ rfl Try.func22 (by kernel_rfl) #[.agg (natC A), .int .i64 k] rfl (.int .i64 (bitI A k)) (fun w => rbit_any A k w) ?_
  simp only [Act.put, List.setIfInBounds_toArray, List.set_cons_zero, List.set_cons_succ]
  refine qw_value (by rfl) (.bool true) (fun w => exec_eql_int _ _ _ _ rfl _ _ rfl rfl w) ?_
  simp only [Act.put, List.setIfInBounds_toArray, List.set_cons_zero, List.set_cons_succ]
  refine qw_value (by rfl) (.bool true) (fun _ => rfl) ?_
  simp only [Act.put, List.setIfInBounds_toArray, List.set_cons_zero, List.set_cons_succ]
  refine qw_value (by rfl) (.bool true) (fun _ => rfl) ?_
  simp only [Act.put, List.setIfInBounds_toArray, List.set_cons_zero, List.set_cons_succ]
  refine qw_load (by rfl) 24 _ rfl (w.heap.size) rfl rA 4 _ Try.underlying24 size_nat ?_
  simp only [Act.put, List.setIfInBounds_toArray, List.set_cons_zero, List.set_cons_succ]
  refine qw_value (by rfl) (.int .i64 k) (fun _ => rfl) ?_
  simp only [Act.put, List.setIfInBounds_toArray, List.set_cons_zero, List.set_cons_succ]
  refine qw_call (by rfl) 23 _ _ rfl Try.func23 (by kernel_rfl) #[.agg (natC A), .int .i64 k] rfl (.agg (natC (A * 2 ^ k.toNat))) (fun w => nup_any A k w) ?_
  simp only [Act.put, List.setIfInBounds_toArray, List.set_cons_zero, List.set_cons_succ]
  refine qw_load (by rfl) 24 _ rfl (w.heap.size) rfl rA 4 _ Try.underlying24 size_nat ?_
  simp only [Act.put, List.setIfInBounds_toArray, List.set_cons_zero, List.set_cons_succ]
  refine qw_value (by rfl) (.int .i64 k) (fun _ => rfl) ?_
  simp only [Act.put, List.setIfInBounds_toArray, List.set_cons_zero, List.set_cons_succ]
  refine qw_call (by rfl) 24 _ _ rfl Try.func24 (by kernel_rfl) #[.agg (natC A), .int .i64 k] rfl (.agg (natC (A * 2 ^ k.toNat))) (fun w => rup_any A k w) ?_
  simp only [Act.put, List.setIfInBounds_toArray, List.set_cons_zero, List.set_cons_succ]
  refine qw_value (by rfl) (.bool true) (fun w => (exec_eql_nat _ _ _ rfl (A * 2 ^ k.toNat) (A * 2 ^ k.toNat) rfl rfl w).trans (by rw [decide_eq_true (rfl)])) ?_
  simp only [Act.put, List.setIfInBounds_toArray, List.set_cons_zero, List.set_cons_succ]
  refine qw_value (by rfl) (.bool true) (fun _ => rfl) ?_
  simp only [Act.put, List.setIfInBounds_toArray, List.set_cons_zero, List.set_cons_succ]
  refine qw_value (by rfl) (.bool true) (fun _ => rfl) ?_
  simp only [Act.put, List.setIfInBounds_toArray, List.set_cons_zero, List.set_cons_succ]
  refine qw_load (by rfl) 24 _ rfl (w.heap.size) rfl rA 4 _ Try.underlying24 size_nat ?_
  simp only [Act.put, List.setIfInBounds_toArray, List.set_cons_zero, List.set_cons_succ]
  refine qw_value (by rfl) (.int .i64 k) (fun _ => rfl) ?_
  simp only [Act.put, List.setIfInBounds_toArray, List.set_cons_zero, List.set_cons_succ]
  refine qw_call (by rfl) 25 _ _ rfl Try.func25 (by kernel_rfl) #[.agg (natC A), .int .i64 k] rfl (.agg (natC (A / 2 ^ k.toNat))) (fun w => ndown_any A k w HA.out) ?_
  simp only [Act.put, List.setIfInBounds_toArray, List.set_cons_zero, List.set_cons_succ]
  refine qw_load (by rfl) 24 _ rfl (w.heap.size) rfl rA 4 _ Try.underlying24 size_nat ?_
  simp only [Act.put, List.setIfInBounds_toArray, List.set_cons_zero, List.set_cons_succ]
  refine qw_value (by rfl) (.int .i64 k) (fun _ => rfl) ?_
  simp only [Act.put, List.setIfInBounds_toArray, List.set_cons_zero, List.set_cons_succ]
  refine qw_call (by rfl) 26 _ _ rfl Try.func26 (by kernel_rfl) #[.agg (natC A), .int .i64 k] rfl (.agg (natC (A / 2 ^ k.toNat))) (fun w => rdown_any A k w HA.out) ?_
  simp only [Act.put, List.setIfInBounds_toArray, List.set_cons_zero, List.set_cons_succ]
  refine qw_value (by rfl) (.bool true) (fun w => (exec_eql_nat _ _ _ rfl (A / 2 ^ k.toNat) (A / 2 ^ k.toNat) rfl rfl w).trans (by rw [decide_eq_true (rfl)])) ?_
  simp only [Act.put, List.setIfInBounds_toArray, List.set_cons_zero, List.set_cons_succ]
  refine qw_value (by rfl) (.bool true) (fun _ => rfl) ?_
  simp only [Act.put, List.setIfInBounds_toArray, List.set_cons_zero, List.set_cons_succ]
  refine qw_value (by rfl) (.bool true) (fun _ => rfl) ?_
  simp only [Act.put, List.setIfInBounds_toArray, List.set_cons_zero, List.set_cons_succ]
  refine qw_call (by rfl) 14 _ _ rfl Try.func14 (by kernel_rfl) #[] rfl (.bool true) (fun w => awake_any w) ?_
  simp only [Act.put, List.setIfInBounds_toArray, List.set_cons_zero, List.set_cons_succ]
  refine qw_value (by rfl) (.bool true) (fun _ => rfl) ?_
  simp only [Act.put, List.setIfInBounds_toArray, List.set_cons_zero, List.set_cons_succ]
  refine qw_value (by rfl) (.bool true) (fun _ => rfl) ?_
  simp only [Act.put, List.setIfInBounds_toArray, List.set_cons_zero, List.set_cons_succ]
  refine qw_nil ?_
  intro w9 hb9
  have b9 := below_on b0 (Nat.le_refl _) hb9
  go_wp2
  go_ret
  exact ⟨rfl, b9⟩

set_option maxRecDepth 100000 in
theorem lifted (os : Os) (started : os.Started) (H : Type) (enc : TypeId × Value → H) :
    ReturnsInHanded {} Try.checked os 5 .any (Rows.natShiftsSpec.pre6 enc Try.prog Try.f5 Rows.natShiftsRow.domain false) (Rows.natShiftsSpec.post enc Try.prog Try.f5 false true false false) := by
  refine returnsInHanded_of_change (C := Try.checked) own started (by kernel_rfl) Try.func5
    (ChangeSpec.witness6 (enc := enc) (C := Try.checked) false ⟨#[], #[.agg #[.int .u64 0, .int .u64 0, .int .u64 0, .int .u64 0], .int .i64 0], []⟩ 8 (by kernel_rfl) (by kernel_rfl) (by kernel_rfl) (by kernel_rfl)) ?_
  intro W base args ds gs before hval0 hW hcnd _
  have hval : ∀ (j : Nat) t v, Try.f5.params[j]? = some t → args[j]? = some v → Value.okWide Try.prog W .any base t v := hval0
  have hW' := hW
  obtain ⟨p, q, hA0, hV, rfl, hfz, hnd⟩ := hW
  have hA : DataW.TrodAll enc Try.prog W 0 (fun _ => true) true Try.f5.params.toList args.toList ds p := hA0
  rw [Try.params5] at hA hval
  obtain ⟨v0, vs0, d0, ds0, p0, q0, hargs, rfl, rfl, h0, r0⟩ := trodAll_cons hA
  obtain ⟨v1, vs1, d1, ds1, p1, q1, rfl, rfl, rfl, h1, r1⟩ := trodAll_cons r0
  obtain ⟨rfl, rfl, rfl⟩ := trodAll_nil r1
  obtain rfl : args = #[v0, v1] := by cases args; simp_all
  obtain ⟨rfl, rfl⟩ := trodVars_none hV
  have k0 := h0
  have lt0 := lt_of_trod h0
  obtain ⟨N0, hN0, rfl⟩ := open_nat (hval 0 24 v0 rfl rfl) h0
  have k1 := h1
  have lt1 := lt_of_trod h1
  obtain ⟨a1, rfl, rfl, rfl, w1⟩ := open_int Try.underlying3 (hval 1 3 v1 rfl rfl) h1
  clear hA0 hval0
  refine (walk N0 a1 W hN0 (bounds_i64 w1)).mono fun e W' ⟨he, bel⟩ => ?_
  subst he
  exact ⟨_, rfl, _, _, _, [], _, [], hW', trodAll_mk1 (shut_bool Try.underlying4 _), (trodAll_cons_mk (Below.trod laidOut (by kernel_rfl) (of_decide_eq_true (by kernel_rfl)) k0 bel lt0) (trodAll_cons_mk (Below.trod laidOut (by kernel_rfl) (of_decide_eq_true (by kernel_rfl)) k1 bel lt1) trodAll_mk0)), rfl, bel.frame _, fun h => by cases h⟩

theorem over : Rows.natShiftsRow.holds Try.pinned (OpenSpec.ofChange Rows.natShiftsSpec) :=
  OpenClaim.holds_of_wide 5 Try.f5 rfl rfl rfl rfl rfl rfl rfl ⟨rfl, rfl, rfl, rfl, rfl⟩ rfl rfl rfl rfl rfl (by kernel_rfl) Try.func5 (by kernel_rfl)
    (of_decide_eq_true (by kernel_rfl)) (by unfold Func.isWrapper; first | (rw [if_pos (by decide +kernel)]; kernel_rfl) | (rw [if_neg (by decide +kernel)]; exact ⟨rfl, rfl⟩))
    (fun os started H enc _ => lifted os started H enc)
end Go.Proofs.Ythccjmhpmbbblaa.natShiftsP
namespace Go.Proofs.Ythccjmhpmbbblaa
theorem natShifts_holds : Rows.NatShiftsSaid := natShiftsP.over
end Go.Proofs.Ythccjmhpmbbblaa
