/- What must come, whatever the arguments are: the laws' own check. -/
import Derived.Test.YthccjmhpmbbblaaNBytes
import Derived.Test.YthccjmhpmbbblaaNTake
import Derived.Test.YthccjmhpmbbblaaNUp
import Derived.Test.YthccjmhpmbbblaaNInt
import Derived.Test.YthccjmhpmbbblaaQuiet
namespace Go.Proofs.Ythccjmhpmbbblaa
open Go.RowKit

def two64 : Nat := 18446744073709551616
theorem aw_of1 (w : World) : Calls Try.prog 17 #[.int .i64 1] w fun e w' => e = .returned (.agg (natC 1)) ∧ Below w.heap.size w w' := nof_any 1 w (by decide)
theorem aw_of256 (w : World) : Calls Try.prog 17 #[.int .i64 256] w fun e w' => e = .returned (.agg (natC 256)) ∧ Below w.heap.size w w' := nof_any 256 w (by decide)
theorem aw_up (w : World) : Calls Try.prog 23 #[.agg (natC 1), .int .i64 64] w fun e w' => e = .returned (.agg (natC two64)) ∧ Below w.heap.size w w' := nup_any 1 64 w
theorem aw_sub (w : World) : Calls Try.prog 10 #[.agg (natC two64), .agg (natC 1)] w fun e w' => e = .returned (.tuple #[.agg (natC (two64 - 1)), .int .i64 0]) ∧ Below w.heap.size w w' := by
  have h := nsub_any two64 1 w (by decide)
  rw [show natC (less two64 1) = natC (two64 - 1) from (natC_eq _ _).2 (by decide +kernel), show bN two64 1 256 = 0 from by decide +kernel] at h
  exact h
theorem aw_take (w : World) : Calls Try.prog 27 #[.string ⟨#[1, 0]⟩] w fun e w' => e = .returned (.tuple #[.agg (natC 256), .int .i64 0]) ∧ Below w.heap.size w w' := by
  have h := ntake_any ⟨#[1, 0]⟩ w
  rw [show takeN ⟨#[1, 0]⟩ = 256 from by decide +kernel, show takeE ⟨#[1, 0]⟩ = 0 from by decide +kernel] at h
  exact h
theorem aw_len (w : World) : Calls Try.prog 19 #[.agg (natC two64)] w fun e w' => e = .returned (.int .i64 65) ∧ Below w.heap.size w w' := by
  have h := nlen_any two64 w (by decide)
  rw [show bitLen two64 = 65 from by decide +kernel] at h
  exact h
theorem aw_bytes (w : World) : Calls Try.prog 29 #[.agg (natC 256)] w fun e w' => e = .returned (.string ⟨#[1, 0]⟩) ∧ Below w.heap.size w w' := by
  have h := nbytes_any 256 w (by decide)
  rw [show bytesOf 256 = ⟨#[1, 0]⟩ from by decide +kernel] at h
  exact h
theorem aw_cmp (w : World) : Calls Try.prog 12 #[.agg (natC two64), .agg (natC (two64 - 1))] w fun e w' => e = .returned (.int .i64 1) ∧ Below w.heap.size w w' := by
  have h := ncmp_any two64 (two64 - 1) w (by decide) (by decide)
  rw [show cmpI two64 (two64 - 1) = 1 from by decide +kernel] at h
  exact h

theorem aw_build1 {o : Oper} {ρ : Operand → Value} (w : World) (ho : o.op = .build 24 #[(0, .const (.int .u64 0)), (1, .const (.int .u64 1))]) (h0 : ρ (.const (.int .u64 0)) = .int .u64 0) (h1 : ρ (.const (.int .u64 1)) = .int .u64 1) :
    (execOp ρ o).run Try.prog w = .ok (.value (.agg (natC two64))) w := by
  unfold execOp
  simp only [ho, List.map_toArray, List.map_cons, List.map_nil, h0, h1, Sem.run_bind]
  rw [run_build w 24 _ (natC two64) (by kernel_rfl)]
  rfl
theorem aw_build2 {o : Oper} {ρ : Operand → Value} (w : World) (ho : o.op = .build 24 #[(0, .const (.int .u64 18446744073709551615))]) (h0 : ρ (.const (.int .u64 18446744073709551615)) = .int .u64 18446744073709551615) :
    (execOp ρ o).run Try.prog w = .ok (.value (.agg (natC (two64 - 1)))) w := by
  unfold execOp
  simp only [ho, List.map_toArray, List.map_cons, List.map_nil, h0, Sem.run_bind]
  rw [run_build w 24 _ (natC (two64 - 1)) (by kernel_rfl)]
  rfl
set_option maxRecDepth 100000 in
set_option maxHeartbeats 4000000 in
theorem awake_any (w : World) :
    Calls Try.prog 14 #[] w fun e w' => e = .returned (.bool true) ∧ Below w.heap.size w w' := by
  go_enter Try.func14, Try.ntmps14
  go_wp2_with fail
  refine (aw_of1 _).mono ?_
  rintro e w1 ⟨rfl, hb1⟩
  go_wp2_with fail
  refine (aw_up _).mono ?_
  rintro e w2 ⟨rfl, hb2⟩
  go_wp2_with (first
    | refine wpList_alloc_row rfl 24 rfl _ zero_nat ?_
    | refine wpList_store_new rfl 24 _ _ rfl _ rfl rfl _ _ (by exact size_nat) (by rfl) (natC_one _) ?_)
  have b2 := below_on hb1 (Nat.le_refl _) hb2
  have r1 := Row.new w2 (natC two64) 24
  have b3 := b2.alloc b2.size (.cells (natC two64) 24)
  have hs : (w2.alloc (.cells (natC two64) 24)).heap.size = w2.heap.size + 1 := by simp
  generalize w2.heap.size = p1 at *
  generalize w2.alloc (.cells (natC two64) 24) = W at *
  clear b2 hb1 hb2
  simp only [Act.put, List.setIfInBounds_toArray, List.set_cons_zero, List.set_cons_succ]
  refine wp_region_inv0 (by kernel_rfl) (fun d a' w' =>
    (d 7 = true → d 6 = true) ∧ ∃ v2 v3 v8 v9 v10 v11 v12 v13 : Value, a' = ({ tmps := List.toArray ((.bool false) :: (.pointer (some ⟨p1, 0, none⟩)) :: v2 :: v3 :: undef :: undef :: (.agg (natC 1)) :: (.agg (natC two64)) :: v8 :: v9 :: v10 :: v11 :: v12 :: v13 :: undef :: undef :: undef :: undef :: undef :: undef :: undef :: undef :: undef :: undef :: undef :: undef :: undef :: undef :: undef :: undef :: undef :: undef :: undef :: undef :: undef :: undef :: undef :: undef :: undef :: undef :: undef :: undef :: undef :: undef :: undef :: undef :: undef :: undef :: undef :: undef :: undef :: undef :: undef :: undef :: undef :: []), defers := [] } : Act) ∧
      (d 0 = true → v9 = .agg (natC two64)) ∧ (d 1 = true → v10 = .agg (natC 1)) ∧ (d 2 = true → v11 = .tuple #[.agg (natC (two64 - 1)), .int .i64 0]) ∧ (d 3 = true → v8 = .tuple #[.agg (natC (two64 - 1)), .int .i64 0]) ∧
      (d 4 = true → v12 = .agg (natC (two64 - 1))) ∧ (d 5 = true → v13 = .int .i64 0) ∧ (d 8 = true → v3 = .int .i64 0) ∧
      (d 6 = true → ∃ p, v2 = .pointer (some ⟨p, 0, none⟩) ∧ W.heap.size ≤ p ∧ Row w' p (natC (if d 7 = true then two64 - 1 else 0)) 24) ∧ Below W.heap.size W w') (by kernel_rfl) ?start ?step ?fin
  case start => exact ⟨nofun, undef, undef, undef, undef, undef, undef, undef, undef, rfl, nofun, nofun, nofun, nofun, nofun, nofun, nofun, nofun, (Below.refl _ _).drew⟩
  case step =>
    intro i o ho d a' w' ⟨d76, v2, v3, v8, v9, v10, v11, v12, v13, ha, h0, h1, h2, h3, h4, h5, h8, h6, hb⟩ hd hpre
    subst ha
    match i, ho with
    | 0, ho =>
      have ho' := Option.some.inj ho
      subst ho'
      refine opw_load 24 _ rfl p1 rfl (r1.below hb r1.lt) 4 _ Try.underlying24 size_nat ?_
      exact ⟨d76, v2, v3, v8, _, v10, v11, v12, v13, rfl, fun _ => rfl, h1, h2, h3, h4, h5, h8, h6, hb⟩
    | 1, ho =>
      have ho' := Option.some.inj ho
      subst ho'
      refine opw_call 17 _ _ rfl Try.func17 (by kernel_rfl) #[.int .i64 1] rfl ?_
      refine (aw_of1 w').mono fun e w2 ⟨he, hb2⟩ => ⟨_, he, d76, v2, v3, v8, v9, _, v11, v12, v13, rfl, h0, fun _ => rfl, h2, h3, h4, h5, h8, fun h => ?_, below_on hb (Nat.le_refl _) hb2⟩
      obtain ⟨p, e, hp, r⟩ := h6 h
      exact ⟨p, e, hp, r.belowAll hb2⟩
    | 2, ho =>
      have ho' := Option.some.inj ho
      subst ho'
      have e0 := h0 (hpre ⟨0, .data⟩ (by simp) rfl)
      have e1 := h1 (hpre ⟨1, .data⟩ (by simp) rfl)
      subst e0 e1
      refine opw_call 10 _ _ rfl Try.func10 (by kernel_rfl) #[.agg (natC two64), .agg (natC 1)] rfl ?_
      refine (aw_sub w').mono fun e w2 ⟨he, hb2⟩ => ⟨_, he, d76, v2, v3, v8, _, _, _, v12, v13, rfl, fun _ => rfl, fun _ => rfl, fun _ => rfl, h3, h4, h5, h8, fun h => ?_, below_on hb (Nat.le_refl _) hb2⟩
      obtain ⟨p, e, hp, r⟩ := h6 h
      exact ⟨p, e, hp, r.belowAll hb2⟩
    | 3, ho =>
      have ho' := Option.some.inj ho
      subst ho'
      have e2 := h2 (hpre ⟨2, .data⟩ (by simp) rfl)
      subst e2
      refine opw_value _ rfl ?_
      exact ⟨d76, v2, v3, _, v9, v10, _, v12, v13, rfl, h0, h1, fun _ => rfl, fun _ => rfl, h4, h5, h8, h6, hb⟩
    | 4, ho =>
      have ho' := Option.some.inj ho
      subst ho'
      have e3 := h3 (hpre ⟨3, .data⟩ (by simp) rfl)
      subst e3
      refine opw_value (.agg (natC (two64 - 1))) rfl ?_
      exact ⟨d76, v2, v3, _, v9, v10, v11, _, v13, rfl, h0, h1, h2, fun _ => rfl, fun _ => rfl, h5, h8, h6, hb⟩
    | 5, ho =>
      have ho' := Option.some.inj ho
      subst ho'
      have e3 := h3 (hpre ⟨3, .data⟩ (by simp) rfl)
      subst e3
      refine opw_value (.int .i64 0) rfl ?_
      exact ⟨d76, v2, v3, _, v9, v10, v11, v12, _, rfl, h0, h1, h2, fun _ => rfl, h4, fun _ => rfl, h8, h6, hb⟩
    | 6, ho =>
      have ho' := Option.some.inj ho
      subst ho'
      have D7 : d 7 = false := by
        cases h7 : d 7 with
        | false => rfl
        | true => have := d76 h7; rw [hd] at this; cases this
      refine opw_alloc 24 rfl _ zero_nat ?_
      refine ⟨fun _ => rfl, _, v3, v8, v9, v10, v11, v12, v13, rfl, h0, h1, h2, h3, h4, h5, h8, fun _ => ⟨w'.heap.size, rfl, hb.size, ?_⟩, hb.alloc hb.size _⟩
      rw [if_neg (by show ¬ d 7 = true; rw [D7]; decide)]
      exact Row.new _ _ _
    | 7, ho =>
      have ho' := Option.some.inj ho
      subst ho'
      have D6 := hpre ⟨6, .data⟩ (by simp) rfl
      have e4 := h4 (hpre ⟨4, .data⟩ (by simp) rfl)
      obtain ⟨p, e, hp, r⟩ := h6 D6
      subst e4 e
      refine opw_store 24 _ _ rfl p (natC (two64 - 1)) rfl rfl r size_nat rfl (natC_one _) ?_
      exact ⟨fun _ => D6, _, v3, v8, v9, v10, v11, _, v13, rfl, h0, h1, h2, h3, fun _ => rfl, h5, h8, fun _ => ⟨p, rfl, hp, by rw [if_pos (by rfl)]; exact r.setRow _⟩, below_setRow hb hp _⟩
    | 8, ho =>
      have ho' := Option.some.inj ho
      subst ho'
      have e5 := h5 (hpre ⟨5, .data⟩ (by simp) rfl)
      subst e5
      refine opw_value _ rfl ?_
      exact ⟨d76, v2, _, v8, v9, v10, v11, v12, _, rfl, h0, h1, h2, h3, h4, fun _ => rfl, fun _ => rfl, h6, hb⟩
    | n + 9, ho => cases ho
  case fin =>
    rintro d a' w' ⟨d76, v2, v3, v8, v9, v10, v11, v12, v13, rfl, h0, h1, h2, h3, h4, h5, h8, h6, hb⟩ hall
    obtain ⟨p, e2, hp, r2⟩ := h6 (hall 6 (by decide))
    rw [if_pos (hall 7 (by decide))] at r2
    have e3 := h8 (hall 8 (by decide))
    subst e2 e3
    have r1' := r1.belowAll hb
    have b4 := below_on b3 (Nat.le_refl _) hb
    clear h0 h1 h2 h3 h4 h5 h6 h8 hall d76 hb r1 b3
    go_wp2_with fail
    refine (aw_take _).mono ?_
    rintro e w5 ⟨rfl, hb5⟩
    have r1 := r1'.belowAll hb5
    have r3 := r2.belowAll hb5
    have b5 := below_on b4 (Nat.le_refl _) hb5
    clear hb5 r1' r2 b4
    go_wp2_with (first
      | refine wpList_alloc_row rfl 24 rfl _ zero_nat ?_
      | refine wpList_store_new rfl 24 _ _ rfl _ rfl rfl _ _ (by exact size_nat) (by rfl) (natC_one _) ?_)
    have q1 := r1.alloc (.cells (natC 256) 24)
    have q2 := r3.alloc (.cells (natC 256) 24)
    have q3 := Row.new w5 (natC 256) 24
    have b6 := b5.alloc b5.size (.cells (natC 256) 24)
    generalize w5.heap.size = p5 at *
    generalize w5.alloc (.cells (natC 256) 24) = W5 at *
    clear r1 r3 b5
    refine wp_region_qw (by kernel_rfl) (by kernel_rfl) ?_
    refine qw_load (by rfl) 24 _ rfl (p1) rfl q1 4 _ Try.underlying24 size_nat ?_
    simp only [Act.put, List.setIfInBounds_toArray, List.set_cons_zero, List.set_cons_succ]
    refine qw_value (by rfl) (.agg (natC two64)) (fun w => aw_build1 w rfl rfl rfl) ?_
    simp only [Act.put, List.setIfInBounds_toArray, List.set_cons_zero, List.set_cons_succ]
    refine qw_value (by rfl) (.bool true) (fun w => (exec_eql_nat _ _ _ rfl (two64) (two64) rfl rfl w).trans (by rw [decide_eq_true (rfl)])) ?_
    simp only [Act.put, List.setIfInBounds_toArray, List.set_cons_zero, List.set_cons_succ]
    refine qw_value (by rfl) (.bool true) (fun _ => rfl) ?_
    simp only [Act.put, List.setIfInBounds_toArray, List.set_cons_zero, List.set_cons_succ]
    refine qw_load (by rfl) 24 _ rfl (p) rfl q2 4 _ Try.underlying24 size_nat ?_
    simp only [Act.put, List.setIfInBounds_toArray, List.set_cons_zero, List.set_cons_succ]
    refine qw_value (by rfl) (.agg (natC (two64 - 1))) (fun w => aw_build2 w rfl rfl) ?_
    simp only [Act.put, List.setIfInBounds_toArray, List.set_cons_zero, List.set_cons_succ]
    refine qw_value (by rfl) (.bool true) (fun w => (exec_eql_nat _ _ _ rfl (two64 - 1) (two64 - 1) rfl rfl w).trans (by rw [decide_eq_true (rfl)])) ?_
    simp only [Act.put, List.setIfInBounds_toArray, List.set_cons_zero, List.set_cons_succ]
    refine qw_value (by rfl) (.bool true) (fun _ => rfl) ?_
    simp only [Act.put, List.setIfInBounds_toArray, List.set_cons_zero, List.set_cons_succ]
    refine qw_value (by rfl) (.bool true) (fun _ => rfl) ?_
    simp only [Act.put, List.setIfInBounds_toArray, List.set_cons_zero, List.set_cons_succ]
    refine qw_value (by rfl) (.int .i64 0) (fun _ => rfl) ?_
    simp only [Act.put, List.setIfInBounds_toArray, List.set_cons_zero, List.set_cons_succ]
    refine qw_value (by rfl) (.bool true) (fun w => exec_eql_int _ _ _ _ rfl _ _ rfl rfl w) ?_
    simp only [Act.put, List.setIfInBounds_toArray, List.set_cons_zero, List.set_cons_succ]
    refine qw_value (by rfl) (.bool true) (fun _ => rfl) ?_
    simp only [Act.put, List.setIfInBounds_toArray, List.set_cons_zero, List.set_cons_succ]
    refine qw_value (by rfl) (.bool true) (fun _ => rfl) ?_
    simp only [Act.put, List.setIfInBounds_toArray, List.set_cons_zero, List.set_cons_succ]
    refine qw_load (by rfl) 24 _ rfl (p1) rfl q1 4 _ Try.underlying24 size_nat ?_
    simp only [Act.put, List.setIfInBounds_toArray, List.set_cons_zero, List.set_cons_succ]
    refine qw_call (by rfl) 19 _ _ rfl Try.func19 (by kernel_rfl) #[.agg (natC two64)] rfl (.int .i64 65) (fun w => aw_len w) ?_
    simp only [Act.put, List.setIfInBounds_toArray, List.set_cons_zero, List.set_cons_succ]
    refine qw_value (by rfl) (.bool true) (fun w => exec_eql_int _ _ _ _ rfl _ _ rfl rfl w) ?_
    simp only [Act.put, List.setIfInBounds_toArray, List.set_cons_zero, List.set_cons_succ]
    refine qw_value (by rfl) (.bool true) (fun _ => rfl) ?_
    simp only [Act.put, List.setIfInBounds_toArray, List.set_cons_zero, List.set_cons_succ]
    refine qw_value (by rfl) (.bool true) (fun _ => rfl) ?_
    simp only [Act.put, List.setIfInBounds_toArray, List.set_cons_zero, List.set_cons_succ]
    refine qw_call (by rfl) 17 _ _ rfl Try.func17 (by kernel_rfl) #[.int .i64 256] rfl (.agg (natC 256)) (fun w => aw_of256 w) ?_
    simp only [Act.put, List.setIfInBounds_toArray, List.set_cons_zero, List.set_cons_succ]
    refine qw_call (by rfl) 29 _ _ rfl Try.func29 (by kernel_rfl) #[.agg (natC 256)] rfl (.string ⟨#[1, 0]⟩) (fun w => aw_bytes w) ?_
    simp only [Act.put, List.setIfInBounds_toArray, List.set_cons_zero, List.set_cons_succ]
    refine qw_value (by rfl) (.bool true) (fun w => exec_eql_str _ _ _ _ rfl _ rfl rfl w) ?_
    simp only [Act.put, List.setIfInBounds_toArray, List.set_cons_zero, List.set_cons_succ]
    refine qw_value (by rfl) (.bool true) (fun _ => rfl) ?_
    simp only [Act.put, List.setIfInBounds_toArray, List.set_cons_zero, List.set_cons_succ]
    refine qw_value (by rfl) (.bool true) (fun _ => rfl) ?_
    simp only [Act.put, List.setIfInBounds_toArray, List.set_cons_zero, List.set_cons_succ]
    refine qw_load (by rfl) 24 _ rfl (p5) rfl q3 4 _ Try.underlying24 size_nat ?_
    simp only [Act.put, List.setIfInBounds_toArray, List.set_cons_zero, List.set_cons_succ]
    refine qw_call (by rfl) 17 _ _ rfl Try.func17 (by kernel_rfl) #[.int .i64 256] rfl (.agg (natC 256)) (fun w => aw_of256 w) ?_
    simp only [Act.put, List.setIfInBounds_toArray, List.set_cons_zero, List.set_cons_succ]
    refine qw_value (by rfl) (.bool true) (fun w => (exec_eql_nat _ _ _ rfl (256) (256) rfl rfl w).trans (by rw [decide_eq_true (rfl)])) ?_
    simp only [Act.put, List.setIfInBounds_toArray, List.set_cons_zero, List.set_cons_succ]
    refine qw_value (by rfl) (.bool true) (fun _ => rfl) ?_
    simp only [Act.put, List.setIfInBounds_toArray, List.set_cons_zero, List.set_cons_succ]
    refine qw_value (by rfl) (.bool true) (fun _ => rfl) ?_
    simp only [Act.put, List.setIfInBounds_toArray, List.set_cons_zero, List.set_cons_succ]
    refine qw_value (by rfl) (.int .i64 0) (fun _ => rfl) ?_
    simp only [Act.put, List.setIfInBounds_toArray, List.set_cons_zero, List.set_cons_succ]
    refine qw_value (by rfl) (.bool true) (fun w => exec_eql_int _ _ _ _ rfl _ _ rfl rfl w) ?_
    simp only [Act.put, List.setIfInBounds_toArray, List.set_cons_zero, List.set_cons_succ]
    refine qw_value (by rfl) (.bool true) (fun _ => rfl) ?_
    simp only [Act.put, List.setIfInBounds_toArray, List.set_cons_zero, List.set_cons_succ]
    refine qw_value (by rfl) (.bool true) (fun _ => rfl) ?_
    simp only [Act.put, List.setIfInBounds_toArray, List.set_cons_zero, List.set_cons_succ]
    refine qw_load (by rfl) 24 _ rfl (p1) rfl q1 4 _ Try.underlying24 size_nat ?_
    simp only [Act.put, List.setIfInBounds_toArray, List.set_cons_zero, List.set_cons_succ]
    refine qw_load (by rfl) 24 _ rfl (p) rfl q2 4 _ Try.underlying24 size_nat ?_
    simp only [Act.put, List.setIfInBounds_toArray, List.set_cons_zero, List.set_cons_succ]
    refine qw_call (by rfl) 12 _ _ rfl Try.func12 (by kernel_rfl) #[.agg (natC two64), .agg (natC (two64 - 1))] rfl (.int .i64 1) (fun w => aw_cmp w) ?_
    simp only [Act.put, List.setIfInBounds_toArray, List.set_cons_zero, List.set_cons_succ]
    refine qw_value (by rfl) (.bool true) (fun w => exec_eql_int _ _ _ _ rfl _ _ rfl rfl w) ?_
    simp only [Act.put, List.setIfInBounds_toArray, List.set_cons_zero, List.set_cons_succ]
    refine qw_value (by rfl) (.bool true) (fun _ => rfl) ?_
    simp only [Act.put, List.setIfInBounds_toArray, List.set_cons_zero, List.set_cons_succ]
    refine qw_value (by rfl) (.bool true) (fun _ => rfl) ?_
    simp only [Act.put, List.setIfInBounds_toArray, List.set_cons_zero]
    refine qw_nil ?_
    intro w9 hb9
    have b9 := below_on b6 (Nat.le_refl _) hb9
    go_wp2
    go_ret
    exact ⟨rfl, b9⟩
end Go.Proofs.Ythccjmhpmbbblaa
