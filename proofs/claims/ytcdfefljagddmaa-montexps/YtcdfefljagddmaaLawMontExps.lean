/- MontExps: for every two naturals and any int: where there is a ring below the second, the power of the first by the int's lowest 12 bits is the document's; no condition. -/
import Derived.Test.YtcdfefljagddmaaMRExp
import Derived.Test.YtcdfefljagddmaaGU
namespace Go.Proofs.Ytcdfefljagddmaa
open Go.ChangeShapes Go.WideShapes Go.ChangeAt Go.RowKit
namespace montExpsP
theorem i64_and4095 (n : Int) : bits .and .i64 n 4095 = n % 4096 := by
  have hm : (BitVec.ofInt 64 4095).toNat = 2 ^ 12 - 1 := by decide
  have key : (BitVec.ofInt 64 n &&& BitVec.ofInt 64 4095).toNat = (n % ((2 ^ 64 : Nat) : Int)).toNat % 2 ^ 12 := by
    rw [BitVec.toNat_and, BitVec.toNat_ofInt, hm, Nat.and_two_pow_sub_one_eq_mod]
  show IntKind.i64.wrap ((BitVec.ofInt 64 n &&& BitVec.ofInt 64 4095).toNat : Nat) = n % 4096
  rw [key, IntKind.wrap_i64]
  omega
theorem mask_nat (n : Int) : ∃ N : Nat, N < 4096 ∧ bits .and .i64 n 4095 = (N : Int) :=
  ⟨(n % 4096).toNat, by omega, by rw [i64_and4095]; omega⟩

set_option maxRecDepth 100000 in
set_option maxHeartbeats 4000000 in
theorem core0 (A M : Nat) (z : Int) (w : World)
    (hnew : ∀ w', Calls Try.prog 9 #[.agg (natC M)] w' fun e w2 => e = .returned (.tuple #[.pointer none, .int .i64 1]) ∧ Below w'.heap.size w' w2)
    (hmay : ∀ w', Calls Try.prog 10 #[.agg (natC M)] w' fun e w2 => e = .returned (.bool false) ∧ Below w'.heap.size w' w2) :
    Calls Try.prog 4 #[.agg (natC A), .agg (natC M), .int .i64 z] w fun e w' => e = .returned (.bool true) ∧ Below w.heap.size w w' := by
  have haw := awake3_any
  go_enter Try.func4, Try.ntmps4
  (repeat ((fail_if_success (with_reducible show Code.wp _ (Code.region _ _ _) _ _ _)); go_step))
  apply wp_region_mixp [] [_, _, _] trivial List.nodup_nil
  · intro p
    refine mx_box 24 _ rfl _ rfl ?_
    simp only [Act.put, List.setIfInBounds_toArray, List.set_cons_zero, List.set_cons_succ]
    refine mx_box 24 _ rfl _ rfl ?_
    simp only [Act.put, List.setIfInBounds_toArray, List.set_cons_zero, List.set_cons_succ]
    refine mx_val (.bool false) (fun _ => rfl) ?_
    simp only [Act.put, List.setIfInBounds_toArray, List.set_cons_zero, List.set_cons_succ]
    refine mx_end ?_
    intro w2 hkw hrw hnew hdis
    have n3 := hnew 0 rfl
    have n4 := hnew 1 rfl
    have zr3 : Row w2 (p 0) (natC A) 24 := hrw 1 (24, natC A) rfl
    have zr4 : Row w2 (p 1) (natC M) 24 := hrw 3 (24, natC M) rfl
    have d3x4 := hdis 0 1 (by omega) rfl rfl
    have sb := hkw.below w.heap.size (Nat.le_refl _) (by simp)
    have b3 : w.heap.size ≤ p 0 := n3
    have b4 : w.heap.size ≤ p 1 := n4
    clear hkw hrw hnew hdis n3 n4
    generalize p 0 = g3 at *
    generalize p 1 = g4 at *
    have r3 := zr3
    clear zr3
    have r4 := zr4
    clear zr4
    (repeat ((fail_if_success (with_reducible show Code.wp _ (Code.region _ _ _) _ _ _)); go_step))
    apply wp_region_mixp [] [_, _, _, _, _, _, _] trivial List.nodup_nil
    · intro p
      refine mx_load 24 _ rfl _ rfl r4 (by simp <;> omega) 4 _ Try.underlying24 size_nat ?_
      simp only [Act.put, List.setIfInBounds_toArray, List.set_cons_zero, List.set_cons_succ]
      refine mx_call 9 _ _ rfl Try.func9 (by kernel_rfl) #[.agg (natC M)] rfl _ hnew ?_
      simp only [Act.put, List.setIfInBounds_toArray, List.set_cons_zero, List.set_cons_succ]
      refine mx_move rfl rfl ?_
      simp only [Act.put, List.setIfInBounds_toArray, List.set_cons_zero, List.set_cons_succ]
      refine mx_ext rfl rfl rfl ?_
      simp only [Act.put, List.setIfInBounds_toArray, List.set_cons_zero, List.set_cons_succ]
      refine mx_ext rfl rfl rfl ?_
      simp only [Act.put, List.setIfInBounds_toArray, List.set_cons_zero, List.set_cons_succ]
      refine mx_asg rfl rfl ?_
      simp only [Act.put, List.setIfInBounds_toArray, List.set_cons_zero, List.set_cons_succ]
      refine mx_asg rfl rfl ?_
      simp only [Act.put, List.setIfInBounds_toArray, List.set_cons_zero, List.set_cons_succ]
      refine mx_end ?_
      intro w3 hkw hrw hnew hdis
      replace r4 := hkw.row r4 (by simp <;> omega)
      replace sb := sb.trans (hkw.below w.heap.size sb.size (by simp <;> omega))
      clear hkw hrw hnew hdis
      (repeat ((fail_if_success (with_reducible show Code.wp _ (Code.region _ _ _) _ _ _)); go_step))
      apply wp_region_mixp [] [_, _, _] trivial List.nodup_nil
      · intro p
        refine mx_load 24 _ rfl _ rfl r4 (by simp <;> omega) 4 _ Try.underlying24 size_nat ?_
        simp only [Act.put, List.setIfInBounds_toArray, List.set_cons_zero, List.set_cons_succ]
        refine mx_call 10 _ _ rfl Try.func10 (by kernel_rfl) #[.agg (natC M)] rfl _ hmay ?_
        simp only [Act.put, List.setIfInBounds_toArray, List.set_cons_zero, List.set_cons_succ]
        refine mx_val (.bool true) (exec_not _ _ rfl false rfl) ?_
        simp only [Act.put, List.setIfInBounds_toArray, List.set_cons_zero, List.set_cons_succ]
        refine mx_end ?_
        intro w4 hkw hrw hnew hdis
        replace sb := sb.trans (hkw.below w.heap.size sb.size (by simp <;> omega))
        clear hkw hrw hnew hdis
        (repeat ((fail_if_success (with_reducible show Code.wp _ (Code.region _ _ _) _ _ _)); go_step))
        refine wp_region_qp ?_
        refine qw_move (by rfl) rfl rfl ?_
        simp only [Act.put, List.setIfInBounds_toArray, List.set_cons_zero, List.set_cons_succ]
        refine qw_value (by rfl) (.bool true) (exec_eql_nilp 25 _ _ _ rfl none rfl rfl ptr_ring) ?_
        simp only [Act.put, List.setIfInBounds_toArray, List.set_cons_zero, List.set_cons_succ]
        refine qw_move (by rfl) rfl rfl ?_
        simp only [Act.put, List.setIfInBounds_toArray, List.set_cons_zero, List.set_cons_succ]
        refine qw_move (by rfl) rfl rfl ?_
        simp only [Act.put, List.setIfInBounds_toArray, List.set_cons_zero, List.set_cons_succ]
        refine qw_value (by rfl) (.bool true) (exec_eql_k .i64 _ _ _ _ rfl 1 1 rfl rfl true rfl) ?_
        simp only [Act.put, List.setIfInBounds_toArray, List.set_cons_zero, List.set_cons_succ]
        refine qw_pick true (v := .bool true) (by rfl) rfl rfl rfl ?_
        simp only [Act.put, List.setIfInBounds_toArray, List.set_cons_zero, List.set_cons_succ]
        refine qw_move (by rfl) rfl rfl ?_
        simp only [Act.put, List.setIfInBounds_toArray, List.set_cons_zero, List.set_cons_succ]
        refine qw_call (by rfl) 11 _ _ rfl Try.func11 (by kernel_rfl) #[] rfl _ haw ?_
        simp only [Act.put, List.setIfInBounds_toArray, List.set_cons_zero, List.set_cons_succ]
        refine qw_pick true (v := .bool true) (by rfl) rfl rfl rfl ?_
        simp only [Act.put, List.setIfInBounds_toArray, List.set_cons_zero, List.set_cons_succ]
        refine qw_asg (by rfl) rfl rfl ?_
        simp only [Act.put, List.setIfInBounds_toArray, List.set_cons_zero, List.set_cons_succ]
        refine qw_nil ?_
        intro w5 hqb
        replace sb := below_on sb (Nat.le_refl _) hqb
        clear hqb
        go_wp2
        go_ret
        exact ⟨rfl, sb⟩
      · rfl
    · rfl
  · rfl
set_option maxRecDepth 100000 in
set_option maxHeartbeats 4000000 in
theorem core1 (A M N X : Nat) (z : Int) (RG : Array Value) (w : World) (hN : bits .and .i64 z 4095 = (N : Int))
    (hnew : ∀ w', Calls Try.prog 9 #[.agg (natC M)] w' fun e w2 => ∃ g, e = .returned (.tuple #[.pointer (some ⟨g, 0, none⟩), .int .i64 0]) ∧ w'.heap.size ≤ g ∧ Row w2 g RG 53 ∧ Below w'.heap.size w' w2)
    (hmay : ∀ w', Calls Try.prog 10 #[.agg (natC M)] w' fun e w2 => e = .returned (.bool true) ∧ Below w'.heap.size w' w2)
    (hof : ∀ w', Calls Try.prog 21 #[.int .i64 N] w' fun e w2 => e = .returned (.agg (natC N)) ∧ Below w'.heap.size w' w2)
    (hex : ∀ g w', Row w' g RG 53 → Calls Try.prog 22 #[.pointer (some ⟨g, 0, none⟩), .agg (natC A), .agg (natC N)] w' fun e w2 => e = .returned (.agg (natC X)) ∧ Below w'.heap.size w' w2)
    (hrx : ∀ w', Calls Try.prog 23 #[.agg (natC A), .agg (natC N), .agg (natC M)] w' fun e w2 => e = .returned (.agg (natC X)) ∧ Below w'.heap.size w' w2) :
    Calls Try.prog 4 #[.agg (natC A), .agg (natC M), .int .i64 z] w fun e w' => e = .returned (.bool true) ∧ Below w.heap.size w w' := by
  have haw := awake3_any
  go_enter Try.func4, Try.ntmps4
  (repeat ((fail_if_success (with_reducible show Code.wp _ (Code.region _ _ _) _ _ _)); go_step))
  apply wp_region_mixp [] [_, _, _] trivial List.nodup_nil
  · intro p
    refine mx_box 24 _ rfl _ rfl ?_
    simp only [Act.put, List.setIfInBounds_toArray, List.set_cons_zero, List.set_cons_succ]
    refine mx_box 24 _ rfl _ rfl ?_
    simp only [Act.put, List.setIfInBounds_toArray, List.set_cons_zero, List.set_cons_succ]
    refine mx_val (.bool false) (fun _ => rfl) ?_
    simp only [Act.put, List.setIfInBounds_toArray, List.set_cons_zero, List.set_cons_succ]
    refine mx_end ?_
    intro w2 hkw hrw hnew hdis
    have n3 := hnew 0 rfl
    have n4 := hnew 1 rfl
    have zr3 : Row w2 (p 0) (natC A) 24 := hrw 1 (24, natC A) rfl
    have zr4 : Row w2 (p 1) (natC M) 24 := hrw 3 (24, natC M) rfl
    have d3x4 := hdis 0 1 (by omega) rfl rfl
    have sb := hkw.below w.heap.size (Nat.le_refl _) (by simp)
    have b3 : w.heap.size ≤ p 0 := n3
    have b4 : w.heap.size ≤ p 1 := n4
    clear hkw hrw hnew hdis n3 n4
    generalize p 0 = g3 at *
    generalize p 1 = g4 at *
    have r3 := zr3
    clear zr3
    have r4 := zr4
    clear zr4
    go_wp2_with (first
      | refine wpList_loadR rfl 24 _ rfl _ rfl r4 4 _ Try.underlying24 (by exact size_nat) ?_)
    refine (hnew _).mono ?_
    rintro _ wb ⟨g7, rfl, hg7, r7, bb⟩
    replace r3 := r3.belowAll bb
    replace r4 := r4.belowAll bb
    replace sb := below_on sb (Nat.le_refl _) bb
    clear bb hg7 hnew
    dsimp only
    (repeat ((fail_if_success (with_reducible show Code.wp _ (Code.region _ _ _) _ _ _)); go_step))
    apply wp_region_mixp [] [_, _, _] trivial List.nodup_nil
    · intro p
      refine mx_load 24 _ rfl _ rfl r4 (by simp <;> omega) 4 _ Try.underlying24 size_nat ?_
      simp only [Act.put, List.setIfInBounds_toArray, List.set_cons_zero, List.set_cons_succ]
      refine mx_call 10 _ _ rfl Try.func10 (by kernel_rfl) #[.agg (natC M)] rfl _ hmay ?_
      simp only [Act.put, List.setIfInBounds_toArray, List.set_cons_zero, List.set_cons_succ]
      refine mx_val (.bool false) (exec_not _ _ rfl true rfl) ?_
      simp only [Act.put, List.setIfInBounds_toArray, List.set_cons_zero, List.set_cons_succ]
      refine mx_end ?_
      intro w4 hkw hrw hnew hdis
      replace r3 := hkw.row r3 (by simp <;> omega)
      replace r4 := hkw.row r4 (by simp <;> omega)
      replace r7 := hkw.row r7 (by simp <;> omega)
      replace sb := sb.trans (hkw.below w.heap.size sb.size (by simp <;> omega))
      clear hkw hrw hnew hdis
      (repeat ((fail_if_success (with_reducible show Code.wp _ (Code.region _ _ _) _ _ _)); go_step))
      apply wp_region_mixp [] [_, _, _, _, _] trivial List.nodup_nil
      · intro p
        refine mx_move rfl rfl ?_
        simp only [Act.put, List.setIfInBounds_toArray, List.set_cons_zero, List.set_cons_succ]
        refine mx_val (.int .i64 N) (fun w' => (exec_bits_i .and _ _ _ _ (.inl rfl) rfl z 4095 rfl rfl w').trans (by rw [hN])) ?_
        simp only [Act.put, List.setIfInBounds_toArray, List.set_cons_zero, List.set_cons_succ]
        refine mx_call 21 _ _ rfl Try.func21 (by kernel_rfl) #[.int .i64 N] rfl _ hof ?_
        simp only [Act.put, List.setIfInBounds_toArray, List.set_cons_zero, List.set_cons_succ]
        refine mx_new 24 rfl _ zero_nat ?_
        simp only [Act.put, List.setIfInBounds_toArray, List.set_cons_zero, List.set_cons_succ]
        refine mx_put 7 24 _ _ rfl rfl rfl (natC N) rfl (by exact size_nat) (by simp only [natC_size]) (natC_one _) ?_
        simp only [Act.put]
        refine mx_end ?_
        intro w5 hkw hrw hnew hdis
        have n9 := hnew 3 rfl
        have zr9 : Row w5 (p 3) (natC N) 24 := hrw 7 (24, natC N) rfl
        replace r3 := hkw.row r3 (by simp <;> omega)
        replace r4 := hkw.row r4 (by simp <;> omega)
        replace r7 := hkw.row r7 (by simp <;> omega)
        replace sb := sb.trans (hkw.below w.heap.size sb.size (by simp <;> omega))
        clear hkw hrw hnew hdis n9
        generalize p 3 = g9 at *
        have r9 := zr9
        clear zr9
        (repeat ((fail_if_success (with_reducible show Code.wp _ (Code.region _ _ _) _ _ _)); go_step))
        refine wp_region_qw (by kernel_rfl) (by kernel_rfl) ?_
        refine qw_move (by rfl) rfl rfl ?_
        simp only [Act.put, List.setIfInBounds_toArray, List.set_cons_zero, List.set_cons_succ]
        refine qw_value (by rfl) (.bool true) (exec_eql_k .i64 _ _ _ _ rfl 0 0 rfl rfl true rfl) ?_
        simp only [Act.put, List.setIfInBounds_toArray, List.set_cons_zero, List.set_cons_succ]
        refine qw_move (by rfl) rfl rfl ?_
        simp only [Act.put, List.setIfInBounds_toArray, List.set_cons_zero, List.set_cons_succ]
        refine qw_move (by rfl) rfl rfl ?_
        simp only [Act.put, List.setIfInBounds_toArray, List.set_cons_zero, List.set_cons_succ]
        refine qw_load (by rfl) 24 _ rfl _ rfl r3 4 _ Try.underlying24 size_nat ?_
        simp only [Act.put, List.setIfInBounds_toArray, List.set_cons_zero, List.set_cons_succ]
        refine qw_load (by rfl) 24 _ rfl _ rfl r9 4 _ Try.underlying24 size_nat ?_
        simp only [Act.put, List.setIfInBounds_toArray, List.set_cons_zero, List.set_cons_succ]
        refine qw_callK (by rfl) 22 _ _ rfl Try.func22 (by kernel_rfl) #[.pointer (some ⟨g7, 0, none⟩), .agg (natC A), .agg (natC N)] rfl _ (fun w' hb => hex g7 w' (r7.belowAll hb)) ?_
        simp only [Act.put, List.setIfInBounds_toArray, List.set_cons_zero, List.set_cons_succ]
        refine qw_load (by rfl) 24 _ rfl _ rfl r3 4 _ Try.underlying24 size_nat ?_
        simp only [Act.put, List.setIfInBounds_toArray, List.set_cons_zero, List.set_cons_succ]
        refine qw_load (by rfl) 24 _ rfl _ rfl r9 4 _ Try.underlying24 size_nat ?_
        simp only [Act.put, List.setIfInBounds_toArray, List.set_cons_zero, List.set_cons_succ]
        refine qw_load (by rfl) 24 _ rfl _ rfl r4 4 _ Try.underlying24 size_nat ?_
        simp only [Act.put, List.setIfInBounds_toArray, List.set_cons_zero, List.set_cons_succ]
        refine qw_call (by rfl) 23 _ _ rfl Try.func23 (by kernel_rfl) #[.agg (natC A), .agg (natC N), .agg (natC M)] rfl _ hrx ?_
        simp only [Act.put, List.setIfInBounds_toArray, List.set_cons_zero, List.set_cons_succ]
        refine qw_value (by rfl) (.bool true) (fun w' => (exec_eql_nat _ _ _ rfl X X rfl rfl w').trans (by rw [decide_eq_true rfl])) ?_
        simp only [Act.put, List.setIfInBounds_toArray, List.set_cons_zero, List.set_cons_succ]
        refine qw_pick true (v := .bool true) (by rfl) rfl rfl rfl ?_
        simp only [Act.put, List.setIfInBounds_toArray, List.set_cons_zero, List.set_cons_succ]
        refine qw_move (by rfl) rfl rfl ?_
        simp only [Act.put, List.setIfInBounds_toArray, List.set_cons_zero, List.set_cons_succ]
        refine qw_call (by rfl) 11 _ _ rfl Try.func11 (by kernel_rfl) #[] rfl _ haw ?_
        simp only [Act.put, List.setIfInBounds_toArray, List.set_cons_zero, List.set_cons_succ]
        refine qw_pick true (v := .bool true) (by rfl) rfl rfl rfl ?_
        simp only [Act.put, List.setIfInBounds_toArray, List.set_cons_zero, List.set_cons_succ]
        refine qw_asg (by rfl) rfl rfl ?_
        simp only [Act.put, List.setIfInBounds_toArray, List.set_cons_zero, List.set_cons_succ]
        refine qw_nil ?_
        intro w6 hqb
        replace sb := below_on sb (Nat.le_refl _) hqb
        clear hqb
        go_wp2
        go_ret
        exact ⟨rfl, sb⟩
      · rfl
    · rfl
  · rfl
theorem walk (A M : Nat) (z : Int) (w : World) (hA : A < 2 ^ 256) (hM : M < 2 ^ 256) :
    Calls Try.prog 4 #[.agg (natC A), .agg (natC M), .int .i64 z] w fun e w' => e = .returned (.bool true) ∧ Below w.heap.size w w' := by
  by_cases ho : M % 2 = 0
  · exact core0 A M z w (fun w' => new_even M w' ho) (fun w' => may_even M w' ho)
  by_cases h1' : M = 1
  · subst h1'
    exact core0 A 1 z w (fun w' => new_one w') (fun w' => may_odd 1 false w' (by decide) rfl)
  have q : RgQ M := ⟨hM, by omega, by omega⟩
  have hb1 : (!decide (M % 2 ^ 256 = 1 % 2 ^ 256)) = true := by
    rw [Nat.mod_eq_of_lt hM, decide_eq_false (fun h => h1' (h.trans (by decide)))]; rfl
  obtain ⟨N, hN, hz⟩ := mask_nat z
  have hN' : N < 2 ^ 256 := by omega
  exact core1 A M N (A ^ N % M) z _ w hz (fun w' => new_any M w' q.odd q.two hM) (fun w' => may_odd M true w' q.odd hb1) (fun w' => of3_any N w' (by omega))
    (fun g w' r => exp_any A N M g w' hA hN' hM q.odd q.two r) (fun w' => rexp_any A N M w' hA hN' (by omega) hM)

set_option maxRecDepth 100000 in
theorem lifted (os : Os) (started : os.Started) (H : Type) (enc : TypeId × Value → H) :
    ReturnsInHanded {} Try.checked os 4 .any (Rows.montExpsSpec.pre6 enc Try.prog Try.f4 Rows.montExpsRow.domain false) (Rows.montExpsSpec.post enc Try.prog Try.f4 false true false false) := by
  refine returnsInHanded_of_change (C := Try.checked) own started (by kernel_rfl) Try.func4
    (ChangeSpec.witness6 (enc := enc) (C := Try.checked) false ⟨#[], #[.agg #[.int .u64 0, .int .u64 0, .int .u64 0, .int .u64 0], .agg #[.int .u64 0, .int .u64 0, .int .u64 0, .int .u64 0], .int .i64 0], []⟩ 8 (by kernel_rfl) (by kernel_rfl) (by kernel_rfl) (by kernel_rfl)) ?_
  intro W base args ds gs before hval0 hW hcnd _
  have hval : ∀ (j : Nat) t v, Try.f4.params[j]? = some t → args[j]? = some v → Value.okWide Try.prog W .any base t v := hval0
  have hW' := hW
  obtain ⟨p, q, hA0, hV, rfl, hfz, hnd⟩ := hW
  have hA : DataW.TrodAll enc Try.prog W 0 (fun _ => true) true Try.f4.params.toList args.toList ds p := hA0
  rw [Try.params4] at hA hval
  obtain ⟨v0, vs0, d0, ds0, p0, q0, hargs, rfl, rfl, h0, r0⟩ := trodAll_cons hA
  obtain ⟨v1, vs1, d1, ds1, p1, q1, rfl, rfl, rfl, h1, r1⟩ := trodAll_cons r0
  obtain ⟨v2, vs2, d2, ds2, p2, q2, rfl, rfl, rfl, h2, r2⟩ := trodAll_cons r1
  obtain ⟨rfl, rfl, rfl⟩ := trodAll_nil r2
  obtain rfl : args = #[v0, v1, v2] := by cases args; simp_all
  obtain ⟨rfl, rfl⟩ := trodVars_none hV
  have k0 := h0
  have lt0 := lt_of_trod h0
  obtain ⟨N0, hN0, rfl⟩ := open_nat (hval 0 24 v0 rfl rfl) h0
  have k1 := h1
  have lt1 := lt_of_trod h1
  obtain ⟨N1, hN1, rfl⟩ := open_nat (hval 1 24 v1 rfl rfl) h1
  have k2 := h2
  have lt2 := lt_of_trod h2
  obtain ⟨a2, rfl, rfl, rfl, w2⟩ := open_int Try.underlying3 (hval 2 3 v2 rfl rfl) h2
  clear hA0 hval0
  refine (walk N0 N1 a2 W hN0 hN1).mono fun e W' ⟨he, bel⟩ => ?_
  subst he
  exact ⟨_, rfl, _, _, _, [], _, [], hW', trodAll_mk1 (shut_bool Try.underlying4 _), (trodAll_cons_mk (Below.trod laidOut (by kernel_rfl) (of_decide_eq_true (by kernel_rfl)) k0 bel lt0) (trodAll_cons_mk (Below.trod laidOut (by kernel_rfl) (of_decide_eq_true (by kernel_rfl)) k1 bel lt1) (trodAll_cons_mk (Below.trod laidOut (by kernel_rfl) (of_decide_eq_true (by kernel_rfl)) k2 bel lt2) trodAll_mk0))), rfl, bel.frame _, fun h => by cases h⟩

theorem over : Rows.montExpsRow.holds Try.pinned (OpenSpec.ofChange Rows.montExpsSpec) :=
  OpenClaim.holds_of_wide 4 Try.f4 rfl rfl rfl rfl rfl rfl rfl ⟨rfl, rfl, rfl, rfl, rfl⟩ rfl rfl rfl rfl rfl (by kernel_rfl) Try.func4 (by kernel_rfl)
    (of_decide_eq_true (by kernel_rfl)) (by unfold Func.isWrapper; first | (rw [if_pos (by decide +kernel)]; kernel_rfl) | (rw [if_neg (by decide +kernel)]; exact ⟨rfl, rfl⟩))
    (fun os started H enc _ => lifted os started H enc)

end montExpsP

/-- for every two naturals and any int: where there is a ring below the second, the power of the first by the int's lowest 12 bits is the document's; no condition. -/
theorem montExps_holds : Rows.MontExpsSaid := montExpsP.over
end Go.Proofs.Ytcdfefljagddmaa
