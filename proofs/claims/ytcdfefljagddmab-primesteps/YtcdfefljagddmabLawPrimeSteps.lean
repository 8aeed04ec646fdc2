/- PrimeSteps: for any two naturals below 2^32 and any int: Step tells whether the int shows that the first is a prime, if the second is, as the document does; Witness tells the least from 2 to 100, or that there is none; no condition. -/
import Derived.Test.YtcdfefljagddmabPRStep
import Derived.Test.YtcdfefljagddmabPOpen
namespace Go.Proofs.Ytcdfefljagddmab
open Go.ChangeShapes Go.WideShapes Go.ChangeAt Go.RowKit
namespace primeStepsP
theorem exec_neq_bool {P : Program} {o : Oper} {ρ : Operand → Value} (t : TypeId) (x y : Operand) (u : TypeId) (ho : o.op = .binOp .neq t x y u) (n : Bool) (hx : ρ x = .bool n) (hy : ρ y = .bool n) (hu : P.underlying t = some .bool) (w : World) :
    (execOp ρ o).run P w = .ok (.value (.bool false)) w := by
  unfold execOp
  simp only [ho, hx, hy]
  simp [eqGuard, go_sem, hu]
theorem exec_lss_k {P : Program} {o : Oper} {ρ : Operand → Value} (k : IntKind) (t : TypeId) (x y : Operand) (u : TypeId) (ho : o.op = .binOp .lss t x y u) (n m : Int) (hx : ρ x = .int k n) (hy : ρ y = .int k m) (b : Bool) (hb : decide (n < m) = b) (w : World) :
    (execOp ρ o).run P w = .ok (.value (.bool b)) w := by
  subst hb
  unfold execOp
  simp only [ho, hx, hy]
  cases k <;> simp [go_sem]
theorem exec_conv_32 {o : Oper} {ρ : Operand → Value} (x : Operand) (ho : o.op = .convert 22 23 x) (n : Nat) (hx : ρ x = .int .u32 n) (h : n < 4294967296) (w : World) :
    (execOp ρ o).run Try.prog w = .ok (.value (.int .u64 n)) w := by
  have u1 := Try.underlying22
  have u2 := Try.underlying23
  unfold execOp
  simp only [ho, hx]
  simp [convert, run_underlying u1, run_underlying u2, go_sem]
  rw [IntKind.wrap_u64]
  omega
theorem built1 (a : Int) : Try.prog.built 25 [(0, .int .u64 a)] = some #[.int .u64 a, .int .u64 0, .int .u64 0, .int .u64 0] := by kernel_rfl
theorem natC_small (N : Nat) (h : N < 4294967296) : natC N = #[.int .u64 N, .int .u64 0, .int .u64 0, .int .u64 0] := by
  have h0 : lm N 0 = N := by unfold lm; simp; omega
  have h1 : lm N 1 = 0 := by unfold lm; simp; omega
  have h2 : lm N 2 = 0 := by unfold lm; simp; omega
  have h3 : lm N 3 = 0 := by unfold lm; simp; omega
  unfold natC
  rw [h0, h1, h2, h3]
  rfl
theorem exec_build1 {o : Oper} {ρ : Operand → Value} (x : Operand) (ho : o.op = .build 25 #[(0, x)]) (N : Nat) (h0 : ρ x = .int .u64 N) (h : N < 4294967296) (w : World) :
    (execOp ρ o).run Try.prog w = .ok (.value (.agg (natC N))) w := by
  unfold execOp
  simp only [ho, List.map_toArray, List.map_cons, List.map_nil, h0, Sem.run_bind]
  rw [run_build w 25 _ (natC N) (by rw [natC_small N h]; exact built1 N)]
  rfl
theorem wtF_congr (f g : Nat → Bool) (h : ∀ k, k < 99 → f (2 + k) = g (2 + k)) : ∀ m k, k + m ≤ 99 → wtF f m k = wtF g m k
  | 0, _, _ => rfl
  | m + 1, k, hk => by
    unfold wtF
    rw [h k (by omega), wtF_congr f g h m (k + 1) (by omega)]
theorem wtF_none : ∀ m k, wtF (fun _ => false) m k = 0
  | 0, _ => rfl
  | m + 1, k => by
    unfold wtF
    rw [if_neg (by decide)]
    exact wtF_none m (k + 1)
theorem wtF_found (f : Nat → Bool) : ∀ m k, wtF f m k ≠ 0 → f (wtF f m k) = true ∧ 2 ≤ wtF f m k ∧ wtF f m k < 2 + k + m
  | 0, _, h => absurd rfl h
  | m + 1, k, h => by
    unfold wtF at h ⊢
    by_cases hb : f (2 + k) = true
    · rw [if_pos hb]; exact ⟨hb, by omega, by omega⟩
    · rw [if_neg hb] at h ⊢
      have := wtF_found f m (k + 1) h
      exact ⟨this.1, this.2.1, by omega⟩
theorem stN_in (N F j : Nat) (h2 : 2 ≤ j) (h : j ≤ 65535) : stN N F (j : Int) = (mayN N F && shN N F j) := by
  unfold stN
  rw [decide_eq_true (show (2 : Int) ≤ j by omega), decide_eq_true (show (j : Int) ≤ 65535 by omega), Int.toNat_natCast, Bool.true_and, Bool.true_and]
theorem witN_st (N F : Nat) : wtF (fun j => stN N F (j : Int)) 99 0 = witN N F := by
  unfold witN
  cases hm : mayN N F with
  | true =>
    rw [if_pos rfl]
    exact wtF_congr _ _ (fun k hk => by show stN N F ((2 + k : Nat) : Int) = _; rw [stN_in N F _ (by omega) (by omega), hm, Bool.true_and]) 99 0 (by omega)
  | false =>
    rw [if_neg (by decide), ← wtF_none 99 0]
    exact wtF_congr _ _ (fun k hk => by show stN N F ((2 + k : Nat) : Int) = _; rw [stN_in N F _ (by omega) (by omega), hm, Bool.false_and]) 99 0 (by omega)

set_option maxRecDepth 100000 in
set_option maxHeartbeats 4000000 in
theorem big_none (N F W : Nat) (z : Int) (B : Bool) (w : World) (hN : N < 4294967296) (hF : F < 4294967296) (hw0 : W = 0) (hbig : ¬ N < 65536)
    (hwi : ∀ w', Calls Try.prog 7 #[.agg (natC N), .agg (natC F)] w' fun e w2 => e = .returned (.tuple #[.int .i64 W, .int .i64 3]) ∧ Below w'.heap.size w' w2)
    (hs1 : ∀ w', Calls Try.prog 8 #[.agg (natC N), .agg (natC F), .int .i64 z] w' fun e w2 => e = .returned (.bool B) ∧ Below w'.heap.size w' w2)
    (hs2 : ∀ w', Calls Try.prog 9 #[.agg (natC N), .agg (natC F), .int .i64 z] w' fun e w2 => e = .returned (.bool B) ∧ Below w'.heap.size w' w2) :
    Calls Try.prog 3 #[.int .u32 N, .int .u32 F, .int .i64 z] w fun e w' => e = .returned (.bool true) ∧ Below w.heap.size w w' := by
  have haw := awake4_any
  go_enter Try.func3, Try.ntmps3
  (repeat ((fail_if_success (with_reducible show Code.wp _ (Code.region _ _ _) _ _ _)); go_step))
  apply wp_region_mixp [] [_] trivial List.nodup_nil
  · intro p
    refine mx_val (.bool false) (fun _ => rfl) ?_
    simp only [Act.put, pb, pc, pd]
    refine mx_end ?_
    intro w2 hkw hrw hnew hdis
    have sb := hkw.below w.heap.size (Nat.le_refl _) (by simp)
    clear hkw hrw hnew hdis
    (repeat ((fail_if_success (with_reducible show Code.wp _ (Code.region _ _ _) _ _ _)); go_step))
    apply wp_region_mixp [] [_, _, _, _, _, _, _, _, _, _] trivial List.nodup_nil
    · intro p
      refine mx_move rfl rfl ?_
      simp only [Act.put, pb, pc, pd]
      refine mx_val (.int .u64 N) (exec_conv_32 _ rfl N rfl hN) ?_
      simp only [Act.put, pb, pc, pd]
      refine mx_val (.agg (natC N)) (exec_build1 _ rfl N rfl hN) ?_
      simp only [Act.put, pb, pc, pd]
      refine mx_move rfl rfl ?_
      simp only [Act.put, pb, pc, pd]
      refine mx_val (.int .u64 F) (exec_conv_32 _ rfl F rfl hF) ?_
      simp only [Act.put, pb, pc, pd]
      refine mx_val (.agg (natC F)) (exec_build1 _ rfl F rfl hF) ?_
      simp only [Act.put, pb, pc, pd]
      refine mx_new 25 rfl _ zero_nat ?_
      simp only [Act.put, pb, pc, pd]
      refine mx_new 25 rfl _ zero_nat ?_
      simp only [Act.put, pb, pc, pd]
      refine mx_put 13 25 _ _ rfl rfl rfl (natC N) rfl (by exact size_nat) (by simp only [natC_size]) (natC_one _) ?_
      simp only [Act.put]
      refine mx_put 15 25 _ _ rfl rfl rfl (natC F) rfl (by exact size_nat) (by simp only [natC_size]) (natC_one _) ?_
      simp only [Act.put]
      refine mx_end ?_
      intro w3 hkw hrw hnew hdis
      have n7 := hnew 6 rfl
      have n8 := hnew 7 rfl
      have zr7 : Row w3 (p 6) (natC N) 25 := hrw 13 (25, natC N) rfl
      have zr8 : Row w3 (p 7) (natC F) 25 := hrw 15 (25, natC F) rfl
      replace sb := sb.trans (hkw.below w.heap.size sb.size (by simp <;> omega))
      clear hkw hrw hnew hdis n7 n8
      generalize p 6 = g7 at *
      generalize p 7 = g8 at *
      have r7 := zr7
      clear zr7
      have r8 := zr8
      clear zr8
      (repeat ((fail_if_success (with_reducible show Code.wp _ (Code.region _ _ _) _ _ _)); go_step))
      apply wp_region_mixp [] [_, _, _, _, _, _, _, _] trivial List.nodup_nil
      · intro p
        refine mx_load 25 _ rfl _ rfl r7 (by simp <;> omega) 4 _ Try.underlying25 size_nat ?_
        simp only [Act.put, pb, pc, pd]
        refine mx_load 25 _ rfl _ rfl r8 (by simp <;> omega) 4 _ Try.underlying25 size_nat ?_
        simp only [Act.put, pb, pc, pd]
        refine mx_call 7 _ _ rfl Try.func7 (by kernel_rfl) #[.agg (natC N), .agg (natC F)] rfl _ hwi ?_
        simp only [Act.put, pb, pc, pd]
        refine mx_move rfl rfl ?_
        simp only [Act.put, pb, pc, pd]
        refine mx_ext rfl rfl rfl ?_
        simp only [Act.put, pb, pc, pd]
        refine mx_ext rfl rfl rfl ?_
        simp only [Act.put, pb, pc, pd]
        refine mx_asg rfl rfl ?_
        simp only [Act.put, pb, pc, pd]
        refine mx_asg rfl rfl ?_
        simp only [Act.put, pb, pc, pd]
        refine mx_end ?_
        intro w4 hkw hrw hnew hdis
        replace r7 := hkw.row r7 (by simp <;> omega)
        replace r8 := hkw.row r8 (by simp <;> omega)
        replace sb := sb.trans (hkw.below w.heap.size sb.size (by simp <;> omega))
        clear hkw hrw hnew hdis
        (repeat ((fail_if_success (with_reducible show Code.wp _ (Code.region _ _ _) _ _ _)); go_step))
        refine wp_region_qw (by kernel_rfl) (by kernel_rfl) ?_
        refine qw_load (by rfl) 25 _ rfl _ rfl r7 4 _ Try.underlying25 size_nat ?_
        simp only [Act.put, pb, pc, pd]
        refine qw_load (by rfl) 25 _ rfl _ rfl r8 4 _ Try.underlying25 size_nat ?_
        simp only [Act.put, pb, pc, pd]
        refine qw_move (by rfl) rfl rfl ?_
        simp only [Act.put, pb, pc, pd]
        refine qw_call (by rfl) 8 _ _ rfl Try.func8 (by kernel_rfl) #[.agg (natC N), .agg (natC F), .int .i64 z] rfl _ hs1 ?_
        simp only [Act.put, pb, pc, pd]
        refine qw_load (by rfl) 25 _ rfl _ rfl r7 4 _ Try.underlying25 size_nat ?_
        simp only [Act.put, pb, pc, pd]
        refine qw_load (by rfl) 25 _ rfl _ rfl r8 4 _ Try.underlying25 size_nat ?_
        simp only [Act.put, pb, pc, pd]
        refine qw_move (by rfl) rfl rfl ?_
        simp only [Act.put, pb, pc, pd]
        refine qw_call (by rfl) 9 _ _ rfl Try.func9 (by kernel_rfl) #[.agg (natC N), .agg (natC F), .int .i64 z] rfl _ hs2 ?_
        simp only [Act.put, pb, pc, pd]
        refine qw_value (by rfl) (.bool false) (exec_neq_bool _ _ _ _ rfl B rfl rfl Try.underlying4) ?_
        simp only [Act.put, pb, pc, pd]
        refine qw_move (by rfl) rfl rfl ?_
        simp only [Act.put, pb, pc, pd]
        refine qw_move (by rfl) rfl rfl ?_
        simp only [Act.put, pb, pc, pd]
        refine qw_value (by rfl) (.bool true) (exec_neq_k .i64 _ _ _ _ rfl 3 0 rfl rfl true rfl) ?_
        simp only [Act.put, pb, pc, pd]
        refine qw_move (by rfl) rfl rfl ?_
        simp only [Act.put, pb, pc, pd]
        refine qw_move (by rfl) rfl rfl ?_
        simp only [Act.put, pb, pc, pd]
        refine qw_value (by rfl) (.bool false) (exec_neq_k .i64 _ _ _ _ rfl 3 3 rfl rfl false rfl) ?_
        simp only [Act.put, pb, pc, pd]
        refine qw_move (by rfl) rfl rfl ?_
        simp only [Act.put, pb, pc, pd]
        refine qw_move (by rfl) rfl rfl ?_
        simp only [Act.put, pb, pc, pd]
        refine qw_value (by rfl) (.bool false) (exec_neq_k .i64 _ _ _ _ rfl W 0 rfl rfl false (by rw [decide_eq_true (by omega)]; rfl)) ?_
        simp only [Act.put, pb, pc, pd]
        refine qw_pick false (v := .bool false) (by rfl) rfl rfl rfl ?_
        simp only [Act.put, pb, pc, pd]
        refine qw_pick true (v := .bool false) (by rfl) rfl rfl rfl ?_
        simp only [Act.put, pb, pc, pd]
        refine qw_pick false (v := .bool false) (by rfl) rfl rfl rfl ?_
        simp only [Act.put, pb, pc, pd]
        refine qw_nil ?_
        intro w5 hqb
        replace r7 := r7.belowAll hqb
        replace r8 := r8.belowAll hqb
        replace sb := below_on sb (Nat.le_refl _) hqb
        clear hqb
        clear hwi hs1 hs2
        go_wp2_with fail
        go_loopg [11, 12] 0 (fun _ s11 s12 wr => s11 = .int .i64 0 ∧ s12 = .int .i64 2 ∧ Row wr g7 (natC N) 25 ∧ Row wr g8 (natC F) 25 ∧ Below w.heap.size w wr)
        case atStart => exact ⟨rfl, rfl, r7, r8, sb⟩
        case round =>
          clear r7 r8 sb
          obtain ⟨rfl, rfl, r7, r8, sb⟩ := hrel
          (repeat ((fail_if_success (with_reducible show Code.wp _ (Code.region _ _ _) _ _ _)); go_step))
          refine wp_region_qp ?_
          refine qw_move (by rfl) rfl rfl ?_
          simp only [Act.put, pb, pc, pd]
          refine qw_value (by rfl) (.bool true) (exec_leq_i _ _ _ _ rfl 2 100 rfl rfl true rfl) ?_
          simp only [Act.put, pb, pc, pd]
          refine qw_move (by rfl) rfl rfl ?_
          simp only [Act.put, pb, pc, pd]
          refine qw_move (by rfl) rfl rfl ?_
          simp only [Act.put, pb, pc, pd]
          refine qw_value (by rfl) (.bool true) (exec_eql_k .i64 _ _ _ _ rfl 0 0 rfl rfl true rfl) ?_
          simp only [Act.put, pb, pc, pd]
          refine qw_pick true (v := .bool true) (by rfl) rfl rfl rfl ?_
          simp only [Act.put, pb, pc, pd]
          refine qw_move (by rfl) rfl rfl ?_
          simp only [Act.put, pb, pc, pd]
          refine qw_move (by rfl) rfl rfl ?_
          simp only [Act.put, pb, pc, pd]
          refine qw_value (by rfl) (.bool false) (exec_lss_k .u32 _ _ _ _ rfl N 65536 rfl rfl false (decide_eq_false (by omega))) ?_
          simp only [Act.put, pb, pc, pd]
          refine qw_pick true (v := .bool false) (by rfl) rfl rfl rfl ?_
          simp only [Act.put, pb, pc, pd]
          refine qw_nil ?_
          intro w10 hqb
          replace r7 := r7.belowAll hqb
          replace r8 := r8.belowAll hqb
          replace sb := below_on sb (Nat.le_refl _) hqb
          clear hqb
          (repeat ((fail_if_success (with_reducible show Code.wp _ (Code.region _ _ _) _ _ _)); go_step))
          refine wp_region_qp ?_
          refine qw_move (by rfl) rfl rfl ?_
          simp only [Act.put, pb, pc, pd]
          refine qw_value (by rfl) (.bool false) (exec_lss_k .u32 _ _ _ _ rfl N 65536 rfl rfl false (decide_eq_false (by omega))) ?_
          simp only [Act.put, pb, pc, pd]
          refine qw_move (by rfl) rfl rfl ?_
          simp only [Act.put, pb, pc, pd]
          refine qw_skip (by rfl) ?_
          simp only [Act.put, pb, pc, pd]
          refine qw_skip (by rfl) ?_
          simp only [Act.put, pb, pc, pd]
          refine qw_skip (by rfl) ?_
          simp only [Act.put, pb, pc, pd]
          refine qw_pick false (v := .bool false) (by rfl) rfl rfl rfl ?_
          simp only [Act.put, pb, pc, pd]
          refine qw_nil ?_
          intro w20 hqb
          replace r7 := r7.belowAll hqb
          replace r8 := r8.belowAll hqb
          replace sb := below_on sb (Nat.le_refl _) hqb
          clear hqb
          (repeat ((fail_if_success (with_reducible show Code.wp _ (Code.region _ _ _) _ _ _)); go_step))
          refine wp_region_qp ?_
          refine qw_move (by rfl) rfl rfl ?_
          simp only [Act.put, pb, pc, pd]
          refine qw_value (by rfl) (.bool true) (exec_neq_k .i64 _ _ _ _ rfl 3 0 rfl rfl true rfl) ?_
          simp only [Act.put, pb, pc, pd]
          refine qw_move (by rfl) rfl rfl ?_
          simp only [Act.put, pb, pc, pd]
          refine qw_skip (by rfl) ?_
          simp only [Act.put, pb, pc, pd]
          refine qw_skip (by rfl) ?_
          simp only [Act.put, pb, pc, pd]
          refine qw_skip (by rfl) ?_
          simp only [Act.put, pb, pc, pd]
          refine qw_skip (by rfl) ?_
          simp only [Act.put, pb, pc, pd]
          refine qw_skip (by rfl) ?_
          simp only [Act.put, pb, pc, pd]
          refine qw_skip (by rfl) ?_
          simp only [Act.put, pb, pc, pd]
          refine qw_skip (by rfl) ?_
          simp only [Act.put, pb, pc, pd]
          refine qw_skip (by rfl) ?_
          simp only [Act.put, pb, pc, pd]
          refine qw_skip (by rfl) ?_
          simp only [Act.put, pb, pc, pd]
          refine qw_skip (by rfl) ?_
          simp only [Act.put, pb, pc, pd]
          refine qw_skip (by rfl) ?_
          simp only [Act.put, pb, pc, pd]
          refine qw_skip (by rfl) ?_
          simp only [Act.put, pb, pc, pd]
          refine qw_pick true (v := .bool true) (by rfl) rfl rfl rfl ?_
          simp only [Act.put, pb, pc, pd]
          refine qw_move (by rfl) rfl rfl ?_
          simp only [Act.put, pb, pc, pd]
          refine qw_call (by rfl) 10 _ _ rfl Try.func10 (by kernel_rfl) #[] rfl _ haw ?_
          simp only [Act.put, pb, pc, pd]
          refine qw_pick true (v := .bool true) (by rfl) rfl rfl rfl ?_
          simp only [Act.put, pb, pc, pd]
          refine qw_asg (by rfl) rfl rfl ?_
          simp only [Act.put, pb, pc, pd]
          refine qw_nil ?_
          intro w21 hqb
          replace sb := below_on sb (Nat.le_refl _) hqb
          clear hqb
          go_wp2
          go_ret
          exact ⟨rfl, sb⟩
      · rfl
    · rfl
  · rfl
set_option maxRecDepth 100000 in
set_option maxHeartbeats 4000000 in
theorem big_some (N F W : Nat) (z : Int) (B : Bool) (sh : Nat → Bool) (w : World) (hN : N < 4294967296) (hF : F < 4294967296) (hW : wtF sh 99 0 = W) (hw0 : W ≠ 0) (hbig : ¬ N < 65536)
    (hwi : ∀ w', Calls Try.prog 7 #[.agg (natC N), .agg (natC F)] w' fun e w2 => e = .returned (.tuple #[.int .i64 W, .int .i64 0]) ∧ Below w'.heap.size w' w2)
    (hs1 : ∀ w', Calls Try.prog 8 #[.agg (natC N), .agg (natC F), .int .i64 z] w' fun e w2 => e = .returned (.bool B) ∧ Below w'.heap.size w' w2)
    (hs2 : ∀ w', Calls Try.prog 9 #[.agg (natC N), .agg (natC F), .int .i64 z] w' fun e w2 => e = .returned (.bool B) ∧ Below w'.heap.size w' w2)
    (hsk : ∀ k : Nat, ∀ w', Calls Try.prog 9 #[.agg (natC N), .agg (natC F), .int .i64 k] w' fun e w2 => e = .returned (.bool (sh k)) ∧ Below w'.heap.size w' w2) :
    Calls Try.prog 3 #[.int .u32 N, .int .u32 F, .int .i64 z] w fun e w' => e = .returned (.bool true) ∧ Below w.heap.size w w' := by
  have hfo := wtF_found sh 99 0 (by rw [hW]; exact hw0)
  rw [hW] at hfo
  have hsW := hsk W
  rw [hfo.1] at hsW
  have hWl : 2 ≤ W ∧ W ≤ 100 := ⟨hfo.2.1, by have := hfo.2.2; omega⟩
  clear hfo
  clear hsk hW
  have haw := awake4_any
  go_enter Try.func3, Try.ntmps3
  (repeat ((fail_if_success (with_reducible show Code.wp _ (Code.region _ _ _) _ _ _)); go_step))
  apply wp_region_mixp [] [_] trivial List.nodup_nil
  · intro p
    refine mx_val (.bool false) (fun _ => rfl) ?_
    simp only [Act.put, pb, pc, pd]
    refine mx_end ?_
    intro w2 hkw hrw hnew hdis
    have sb := hkw.below w.heap.size (Nat.le_refl _) (by simp)
    clear hkw hrw hnew hdis
    (repeat ((fail_if_success (with_reducible show Code.wp _ (Code.region _ _ _) _ _ _)); go_step))
    apply wp_region_mixp [] [_, _, _, _, _, _, _, _, _, _] trivial List.nodup_nil
    · intro p
      refine mx_move rfl rfl ?_
      simp only [Act.put, pb, pc, pd]
      refine mx_val (.int .u64 N) (exec_conv_32 _ rfl N rfl hN) ?_
      simp only [Act.put, pb, pc, pd]
      refine mx_val (.agg (natC N)) (exec_build1 _ rfl N rfl hN) ?_
      simp only [Act.put, pb, pc, pd]
      refine mx_move rfl rfl ?_
      simp only [Act.put, pb, pc, pd]
      refine mx_val (.int .u64 F) (exec_conv_32 _ rfl F rfl hF) ?_
      simp only [Act.put, pb, pc, pd]
      refine mx_val (.agg (natC F)) (exec_build1 _ rfl F rfl hF) ?_
      simp only [Act.put, pb, pc, pd]
      refine mx_new 25 rfl _ zero_nat ?_
      simp only [Act.put, pb, pc, pd]
      refine mx_new 25 rfl _ zero_nat ?_
      simp only [Act.put, pb, pc, pd]
      refine mx_put 13 25 _ _ rfl rfl rfl (natC N) rfl (by exact size_nat) (by simp only [natC_size]) (natC_one _) ?_
      simp only [Act.put]
      refine mx_put 15 25 _ _ rfl rfl rfl (natC F) rfl (by exact size_nat) (by simp only [natC_size]) (natC_one _) ?_
      simp only [Act.put]
      refine mx_end ?_
      intro w3 hkw hrw hnew hdis
      have n7 := hnew 6 rfl
      have n8 := hnew 7 rfl
      have zr7 : Row w3 (p 6) (natC N) 25 := hrw 13 (25, natC N) rfl
      have zr8 : Row w3 (p 7) (natC F) 25 := hrw 15 (25, natC F) rfl
      replace sb := sb.trans (hkw.below w.heap.size sb.size (by simp <;> omega))
      clear hkw hrw hnew hdis n7 n8
      generalize p 6 = g7 at *
      generalize p 7 = g8 at *
      have r7 := zr7
      clear zr7
      have r8 := zr8
      clear zr8
      (repeat ((fail_if_success (with_reducible show Code.wp _ (Code.region _ _ _) _ _ _)); go_step))
      apply wp_region_mixp [] [_, _, _, _, _, _, _, _] trivial List.nodup_nil
      · intro p
        refine mx_load 25 _ rfl _ rfl r7 (by simp <;> omega) 4 _ Try.underlying25 size_nat ?_
        simp only [Act.put, pb, pc, pd]
        refine mx_load 25 _ rfl _ rfl r8 (by simp <;> omega) 4 _ Try.underlying25 size_nat ?_
        simp only [Act.put, pb, pc, pd]
        refine mx_call 7 _ _ rfl Try.func7 (by kernel_rfl) #[.agg (natC N), .agg (natC F)] rfl _ hwi ?_
        simp only [Act.put, pb, pc, pd]
        refine mx_move rfl rfl ?_
        simp only [Act.put, pb, pc, pd]
        refine mx_ext rfl rfl rfl ?_
        simp only [Act.put, pb, pc, pd]
        refine mx_ext rfl rfl rfl ?_
        simp only [Act.put, pb, pc, pd]
        refine mx_asg rfl rfl ?_
        simp only [Act.put, pb, pc, pd]
        refine mx_asg rfl rfl ?_
        simp only [Act.put, pb, pc, pd]
        refine mx_end ?_
        intro w4 hkw hrw hnew hdis
        replace r7 := hkw.row r7 (by simp <;> omega)
        replace r8 := hkw.row r8 (by simp <;> omega)
        replace sb := sb.trans (hkw.below w.heap.size sb.size (by simp <;> omega))
        clear hkw hrw hnew hdis
        (repeat ((fail_if_success (with_reducible show Code.wp _ (Code.region _ _ _) _ _ _)); go_step))
        refine wp_region_qw (by kernel_rfl) (by kernel_rfl) ?_
        refine qw_load (by rfl) 25 _ rfl _ rfl r7 4 _ Try.underlying25 size_nat ?_
        simp only [Act.put, pb, pc, pd]
        refine qw_load (by rfl) 25 _ rfl _ rfl r8 4 _ Try.underlying25 size_nat ?_
        simp only [Act.put, pb, pc, pd]
        refine qw_move (by rfl) rfl rfl ?_
        simp only [Act.put, pb, pc, pd]
        refine qw_call (by rfl) 8 _ _ rfl Try.func8 (by kernel_rfl) #[.agg (natC N), .agg (natC F), .int .i64 z] rfl _ hs1 ?_
        simp only [Act.put, pb, pc, pd]
        refine qw_load (by rfl) 25 _ rfl _ rfl r7 4 _ Try.underlying25 size_nat ?_
        simp only [Act.put, pb, pc, pd]
        refine qw_load (by rfl) 25 _ rfl _ rfl r8 4 _ Try.underlying25 size_nat ?_
        simp only [Act.put, pb, pc, pd]
        refine qw_move (by rfl) rfl rfl ?_
        simp only [Act.put, pb, pc, pd]
        refine qw_call (by rfl) 9 _ _ rfl Try.func9 (by kernel_rfl) #[.agg (natC N), .agg (natC F), .int .i64 z] rfl _ hs2 ?_
        simp only [Act.put, pb, pc, pd]
        refine qw_value (by rfl) (.bool false) (exec_neq_bool _ _ _ _ rfl B rfl rfl Try.underlying4) ?_
        simp only [Act.put, pb, pc, pd]
        refine qw_move (by rfl) rfl rfl ?_
        simp only [Act.put, pb, pc, pd]
        refine qw_move (by rfl) rfl rfl ?_
        simp only [Act.put, pb, pc, pd]
        refine qw_value (by rfl) (.bool false) (exec_neq_k .i64 _ _ _ _ rfl 0 0 rfl rfl false rfl) ?_
        simp only [Act.put, pb, pc, pd]
        refine qw_move (by rfl) rfl rfl ?_
        simp only [Act.put, pb, pc, pd]
        refine qw_skip (by rfl) ?_
        simp only [Act.put, pb, pc, pd]
        refine qw_skip (by rfl) ?_
        simp only [Act.put, pb, pc, pd]
        refine qw_skip (by rfl) ?_
        simp only [Act.put, pb, pc, pd]
        refine qw_skip (by rfl) ?_
        simp only [Act.put, pb, pc, pd]
        refine qw_skip (by rfl) ?_
        simp only [Act.put, pb, pc, pd]
        refine qw_skip (by rfl) ?_
        simp only [Act.put, pb, pc, pd]
        refine qw_pick false (v := .bool false) (by rfl) rfl rfl rfl ?_
        simp only [Act.put, pb, pc, pd]
        refine qw_pick false (v := .bool false) (by rfl) rfl rfl rfl ?_
        simp only [Act.put, pb, pc, pd]
        refine qw_nil ?_
        intro w5 hqb
        replace r7 := r7.belowAll hqb
        replace r8 := r8.belowAll hqb
        replace sb := below_on sb (Nat.le_refl _) hqb
        clear hqb
        clear hwi hs1 hs2
        go_wp2_with fail
        go_loopg [11, 12] 0 (fun _ s11 s12 wr => s11 = .int .i64 0 ∧ s12 = .int .i64 2 ∧ Row wr g7 (natC N) 25 ∧ Row wr g8 (natC F) 25 ∧ Below w.heap.size w wr)
        case atStart => exact ⟨rfl, rfl, r7, r8, sb⟩
        case round =>
          clear r7 r8 sb
          obtain ⟨rfl, rfl, r7, r8, sb⟩ := hrel
          (repeat ((fail_if_success (with_reducible show Code.wp _ (Code.region _ _ _) _ _ _)); go_step))
          refine wp_region_qp ?_
          refine qw_move (by rfl) rfl rfl ?_
          simp only [Act.put, pb, pc, pd]
          refine qw_value (by rfl) (.bool true) (exec_leq_i _ _ _ _ rfl 2 100 rfl rfl true rfl) ?_
          simp only [Act.put, pb, pc, pd]
          refine qw_move (by rfl) rfl rfl ?_
          simp only [Act.put, pb, pc, pd]
          refine qw_move (by rfl) rfl rfl ?_
          simp only [Act.put, pb, pc, pd]
          refine qw_value (by rfl) (.bool true) (exec_eql_k .i64 _ _ _ _ rfl 0 0 rfl rfl true rfl) ?_
          simp only [Act.put, pb, pc, pd]
          refine qw_pick true (v := .bool true) (by rfl) rfl rfl rfl ?_
          simp only [Act.put, pb, pc, pd]
          refine qw_move (by rfl) rfl rfl ?_
          simp only [Act.put, pb, pc, pd]
          refine qw_move (by rfl) rfl rfl ?_
          simp only [Act.put, pb, pc, pd]
          refine qw_value (by rfl) (.bool false) (exec_lss_k .u32 _ _ _ _ rfl N 65536 rfl rfl false (decide_eq_false (by omega))) ?_
          simp only [Act.put, pb, pc, pd]
          refine qw_pick true (v := .bool false) (by rfl) rfl rfl rfl ?_
          simp only [Act.put, pb, pc, pd]
          refine qw_nil ?_
          intro w10 hqb
          replace r7 := r7.belowAll hqb
          replace r8 := r8.belowAll hqb
          replace sb := below_on sb (Nat.le_refl _) hqb
          clear hqb
          (repeat ((fail_if_success (with_reducible show Code.wp _ (Code.region _ _ _) _ _ _)); go_step))
          refine wp_region_qp ?_
          refine qw_move (by rfl) rfl rfl ?_
          simp only [Act.put, pb, pc, pd]
          refine qw_value (by rfl) (.bool false) (exec_lss_k .u32 _ _ _ _ rfl N 65536 rfl rfl false (decide_eq_false (by omega))) ?_
          simp only [Act.put, pb, pc, pd]
          refine qw_move (by rfl) rfl rfl ?_
          simp only [Act.put, pb, pc, pd]
          refine qw_skip (by rfl) ?_
          simp only [Act.put, pb, pc, pd]
          refine qw_skip (by rfl) ?_
          simp only [Act.put, pb, pc, pd]
          refine qw_skip (by rfl) ?_
          simp only [Act.put, pb, pc, pd]
          refine qw_pick false (v := .bool false) (by rfl) rfl rfl rfl ?_
          simp only [Act.put, pb, pc, pd]
          refine qw_nil ?_
          intro w20 hqb
          replace r7 := r7.belowAll hqb
          replace r8 := r8.belowAll hqb
          replace sb := below_on sb (Nat.le_refl _) hqb
          clear hqb
          (repeat ((fail_if_success (with_reducible show Code.wp _ (Code.region _ _ _) _ _ _)); go_step))
          refine wp_region_qp ?_
          refine qw_move (by rfl) rfl rfl ?_
          simp only [Act.put, pb, pc, pd]
          refine qw_value (by rfl) (.bool false) (exec_neq_k .i64 _ _ _ _ rfl 0 0 rfl rfl false rfl) ?_
          simp only [Act.put, pb, pc, pd]
          refine qw_move (by rfl) rfl rfl ?_
          simp only [Act.put, pb, pc, pd]
          refine qw_move (by rfl) rfl rfl ?_
          simp only [Act.put, pb, pc, pd]
          refine qw_value (by rfl) (.bool true) (exec_geq_i _ _ _ _ rfl W 2 rfl rfl true (decide_eq_true (by omega))) ?_
          simp only [Act.put, pb, pc, pd]
          refine qw_move (by rfl) rfl rfl ?_
          simp only [Act.put, pb, pc, pd]
          refine qw_move (by rfl) rfl rfl ?_
          simp only [Act.put, pb, pc, pd]
          refine qw_value (by rfl) (.bool true) (exec_leq_i _ _ _ _ rfl W 100 rfl rfl true (decide_eq_true (by omega))) ?_
          simp only [Act.put, pb, pc, pd]
          refine qw_pick true (v := .bool true) (by rfl) rfl rfl rfl ?_
          simp only [Act.put, pb, pc, pd]
          refine qw_move (by rfl) rfl rfl ?_
          simp only [Act.put, pb, pc, pd]
          refine qw_load (by rfl) 25 _ rfl _ rfl r7 4 _ Try.underlying25 size_nat ?_
          simp only [Act.put, pb, pc, pd]
          refine qw_load (by rfl) 25 _ rfl _ rfl r8 4 _ Try.underlying25 size_nat ?_
          simp only [Act.put, pb, pc, pd]
          refine qw_move (by rfl) rfl rfl ?_
          simp only [Act.put, pb, pc, pd]
          refine qw_call (by rfl) 9 _ _ rfl Try.func9 (by kernel_rfl) #[.agg (natC N), .agg (natC F), .int .i64 W] rfl _ hsW ?_
          simp only [Act.put, pb, pc, pd]
          refine qw_pick true (v := .bool true) (by rfl) rfl rfl rfl ?_
          simp only [Act.put, pb, pc, pd]
          refine qw_pick false (v := .bool true) (by rfl) rfl rfl rfl ?_
          simp only [Act.put, pb, pc, pd]
          refine qw_move (by rfl) rfl rfl ?_
          simp only [Act.put, pb, pc, pd]
          refine qw_call (by rfl) 10 _ _ rfl Try.func10 (by kernel_rfl) #[] rfl _ haw ?_
          simp only [Act.put, pb, pc, pd]
          refine qw_pick true (v := .bool true) (by rfl) rfl rfl rfl ?_
          simp only [Act.put, pb, pc, pd]
          refine qw_asg (by rfl) rfl rfl ?_
          simp only [Act.put, pb, pc, pd]
          refine qw_nil ?_
          intro w21 hqb
          replace sb := below_on sb (Nat.le_refl _) hqb
          clear hqb
          go_wp2
          go_ret
          exact ⟨rfl, sb⟩
      · rfl
    · rfl
  · rfl
set_option maxRecDepth 100000 in
set_option maxHeartbeats 4000000 in
theorem small_none (N F W : Nat) (z : Int) (B : Bool) (sh : Nat → Bool) (w : World) (hN : N < 4294967296) (hF : F < 4294967296) (hW : wtF sh 99 0 = W) (hw0 : W = 0) (hsm : N < 65536)
    (hwi : ∀ w', Calls Try.prog 7 #[.agg (natC N), .agg (natC F)] w' fun e w2 => e = .returned (.tuple #[.int .i64 W, .int .i64 3]) ∧ Below w'.heap.size w' w2)
    (hs1 : ∀ w', Calls Try.prog 8 #[.agg (natC N), .agg (natC F), .int .i64 z] w' fun e w2 => e = .returned (.bool B) ∧ Below w'.heap.size w' w2)
    (hs2 : ∀ w', Calls Try.prog 9 #[.agg (natC N), .agg (natC F), .int .i64 z] w' fun e w2 => e = .returned (.bool B) ∧ Below w'.heap.size w' w2)
    (hsk : ∀ k : Nat, ∀ w', Calls Try.prog 9 #[.agg (natC N), .agg (natC F), .int .i64 k] w' fun e w2 => e = .returned (.bool (sh k)) ∧ Below w'.heap.size w' w2) :
    Calls Try.prog 3 #[.int .u32 N, .int .u32 F, .int .i64 z] w fun e w' => e = .returned (.bool true) ∧ Below w.heap.size w w' := by
  have HW : Hid (wtF sh 99 0 = W) := hW
  clear hW
  have haw := awake4_any
  go_enter Try.func3, Try.ntmps3
  (repeat ((fail_if_success (with_reducible show Code.wp _ (Code.region _ _ _) _ _ _)); go_step))
  apply wp_region_mixp [] [_] trivial List.nodup_nil
  · intro p
    refine mx_val (.bool false) (fun _ => rfl) ?_
    simp only [Act.put, pb, pc, pd]
    refine mx_end ?_
    intro w2 hkw hrw hnew hdis
    have sb := hkw.below w.heap.size (Nat.le_refl _) (by simp)
    clear hkw hrw hnew hdis
    (repeat ((fail_if_success (with_reducible show Code.wp _ (Code.region _ _ _) _ _ _)); go_step))
    apply wp_region_mixp [] [_, _, _, _, _, _, _, _, _, _] trivial List.nodup_nil
    · intro p
      refine mx_move rfl rfl ?_
      simp only [Act.put, pb, pc, pd]
      refine mx_val (.int .u64 N) (exec_conv_32 _ rfl N rfl hN) ?_
      simp only [Act.put, pb, pc, pd]
      refine mx_val (.agg (natC N)) (exec_build1 _ rfl N rfl hN) ?_
      simp only [Act.put, pb, pc, pd]
      refine mx_move rfl rfl ?_
      simp only [Act.put, pb, pc, pd]
      refine mx_val (.int .u64 F) (exec_conv_32 _ rfl F rfl hF) ?_
      simp only [Act.put, pb, pc, pd]
      refine mx_val (.agg (natC F)) (exec_build1 _ rfl F rfl hF) ?_
      simp only [Act.put, pb, pc, pd]
      refine mx_new 25 rfl _ zero_nat ?_
      simp only [Act.put, pb, pc, pd]
      refine mx_new 25 rfl _ zero_nat ?_
      simp only [Act.put, pb, pc, pd]
      refine mx_put 13 25 _ _ rfl rfl rfl (natC N) rfl (by exact size_nat) (by simp only [natC_size]) (natC_one _) ?_
      simp only [Act.put]
      refine mx_put 15 25 _ _ rfl rfl rfl (natC F) rfl (by exact size_nat) (by simp only [natC_size]) (natC_one _) ?_
      simp only [Act.put]
      refine mx_end ?_
      intro w3 hkw hrw hnew hdis
      have n7 := hnew 6 rfl
      have n8 := hnew 7 rfl
      have zr7 : Row w3 (p 6) (natC N) 25 := hrw 13 (25, natC N) rfl
      have zr8 : Row w3 (p 7) (natC F) 25 := hrw 15 (25, natC F) rfl
      replace sb := sb.trans (hkw.below w.heap.size sb.size (by simp <;> omega))
      clear hkw hrw hnew hdis n7 n8
      generalize p 6 = g7 at *
      generalize p 7 = g8 at *
      have r7 := zr7
      clear zr7
      have r8 := zr8
      clear zr8
      (repeat ((fail_if_success (with_reducible show Code.wp _ (Code.region _ _ _) _ _ _)); go_step))
      apply wp_region_mixp [] [_, _, _, _, _, _, _, _] trivial List.nodup_nil
      · intro p
        refine mx_load 25 _ rfl _ rfl r7 (by simp <;> omega) 4 _ Try.underlying25 size_nat ?_
        simp only [Act.put, pb, pc, pd]
        refine mx_load 25 _ rfl _ rfl r8 (by simp <;> omega) 4 _ Try.underlying25 size_nat ?_
        simp only [Act.put, pb, pc, pd]
        refine mx_call 7 _ _ rfl Try.func7 (by kernel_rfl) #[.agg (natC N), .agg (natC F)] rfl _ hwi ?_
        simp only [Act.put, pb, pc, pd]
        refine mx_move rfl rfl ?_
        simp only [Act.put, pb, pc, pd]
        refine mx_ext rfl rfl rfl ?_
        simp only [Act.put, pb, pc, pd]
        refine mx_ext rfl rfl rfl ?_
        simp only [Act.put, pb, pc, pd]
        refine mx_asg rfl rfl ?_
        simp only [Act.put, pb, pc, pd]
        refine mx_asg rfl rfl ?_
        simp only [Act.put, pb, pc, pd]
        refine mx_end ?_
        intro w4 hkw hrw hnew hdis
        replace r7 := hkw.row r7 (by simp <;> omega)
        replace r8 := hkw.row r8 (by simp <;> omega)
        replace sb := sb.trans (hkw.below w.heap.size sb.size (by simp <;> omega))
        clear hkw hrw hnew hdis
        (repeat ((fail_if_success (with_reducible show Code.wp _ (Code.region _ _ _) _ _ _)); go_step))
        refine wp_region_qw (by kernel_rfl) (by kernel_rfl) ?_
        refine qw_load (by rfl) 25 _ rfl _ rfl r7 4 _ Try.underlying25 size_nat ?_
        simp only [Act.put, pb, pc, pd]
        refine qw_load (by rfl) 25 _ rfl _ rfl r8 4 _ Try.underlying25 size_nat ?_
        simp only [Act.put, pb, pc, pd]
        refine qw_move (by rfl) rfl rfl ?_
        simp only [Act.put, pb, pc, pd]
        refine qw_call (by rfl) 8 _ _ rfl Try.func8 (by kernel_rfl) #[.agg (natC N), .agg (natC F), .int .i64 z] rfl _ hs1 ?_
        simp only [Act.put, pb, pc, pd]
        refine qw_load (by rfl) 25 _ rfl _ rfl r7 4 _ Try.underlying25 size_nat ?_
        simp only [Act.put, pb, pc, pd]
        refine qw_load (by rfl) 25 _ rfl _ rfl r8 4 _ Try.underlying25 size_nat ?_
        simp only [Act.put, pb, pc, pd]
        refine qw_move (by rfl) rfl rfl ?_
        simp only [Act.put, pb, pc, pd]
        refine qw_call (by rfl) 9 _ _ rfl Try.func9 (by kernel_rfl) #[.agg (natC N), .agg (natC F), .int .i64 z] rfl _ hs2 ?_
        simp only [Act.put, pb, pc, pd]
        refine qw_value (by rfl) (.bool false) (exec_neq_bool _ _ _ _ rfl B rfl rfl Try.underlying4) ?_
        simp only [Act.put, pb, pc, pd]
        refine qw_move (by rfl) rfl rfl ?_
        simp only [Act.put, pb, pc, pd]
        refine qw_move (by rfl) rfl rfl ?_
        simp only [Act.put, pb, pc, pd]
        refine qw_value (by rfl) (.bool true) (exec_neq_k .i64 _ _ _ _ rfl 3 0 rfl rfl true rfl) ?_
        simp only [Act.put, pb, pc, pd]
        refine qw_move (by rfl) rfl rfl ?_
        simp only [Act.put, pb, pc, pd]
        refine qw_move (by rfl) rfl rfl ?_
        simp only [Act.put, pb, pc, pd]
        refine qw_value (by rfl) (.bool false) (exec_neq_k .i64 _ _ _ _ rfl 3 3 rfl rfl false rfl) ?_
        simp only [Act.put, pb, pc, pd]
        refine qw_move (by rfl) rfl rfl ?_
        simp only [Act.put, pb, pc, pd]
        refine qw_move (by rfl) rfl rfl ?_
        simp only [Act.put, pb, pc, pd]
        refine qw_value (by rfl) (.bool false) (exec_neq_k .i64 _ _ _ _ rfl W 0 rfl rfl false (by rw [decide_eq_true (by omega)]; rfl)) ?_
        simp only [Act.put, pb, pc, pd]
        refine qw_pick false (v := .bool false) (by rfl) rfl rfl rfl ?_
        simp only [Act.put, pb, pc, pd]
        refine qw_pick true (v := .bool false) (by rfl) rfl rfl rfl ?_
        simp only [Act.put, pb, pc, pd]
        refine qw_pick false (v := .bool false) (by rfl) rfl rfl rfl ?_
        simp only [Act.put, pb, pc, pd]
        refine qw_nil ?_
        intro w5 hqb
        replace r7 := r7.belowAll hqb
        replace r8 := r8.belowAll hqb
        replace sb := below_on sb (Nat.le_refl _) hqb
        clear hqb
        clear hwi hs1 hs2
        have HW0 : Hid (W = 0) := hw0
        clear hw0
        go_wp2_with fail
        go_loopg [11, 12] 100 (fun g s11 s12 wr => ∃ L k : Nat, s11 = .int .i64 L ∧ s12 = .int .i64 k ∧ 2 ≤ k ∧ k ≤ 101 ∧ ((L = 0 ∧ k + g = 102 ∧ wtF sh (g - 1) (k - 2) = W) ∨ (L = W ∧ W ≠ 0)) ∧ Row wr g7 (natC N) 25 ∧ Row wr g8 (natC F) 25 ∧ Below w.heap.size w wr)
        case atStart => exact ⟨0, 2, rfl, rfl, by omega, by omega, .inl ⟨rfl, by omega, HW.out⟩, r7, r8, sb⟩
        case round =>
          clear r7 r8 sb HW
          obtain ⟨L, k, rfl, rfl, hk2, hk, hst0, r7, r8, sb⟩ := hrel
          rcases hst0 with ⟨hL, hkg, hw⟩ | ⟨hL, hWn⟩
          · subst hL
            match gk, hkg, hw with
            | 0, hkg, hw => omega
            | 1, hkg, hw =>
              (repeat ((fail_if_success (with_reducible show Code.wp _ (Code.region _ _ _) _ _ _)); go_step))
              refine wp_region_qp ?_
              refine qw_move (by rfl) rfl rfl ?_
              simp only [Act.put, pb, pc, pd]
              refine qw_value (by rfl) (.bool false) (exec_leq_i _ _ _ _ rfl k 100 rfl rfl false (decide_eq_false (by omega))) ?_
              simp only [Act.put, pb, pc, pd]
              refine qw_move (by rfl) rfl rfl ?_
              simp only [Act.put, pb, pc, pd]
              refine qw_skip (by rfl) ?_
              simp only [Act.put, pb, pc, pd]
              refine qw_skip (by rfl) ?_
              simp only [Act.put, pb, pc, pd]
              refine qw_pick false (v := .bool false) (by rfl) rfl rfl rfl ?_
              simp only [Act.put, pb, pc, pd]
              refine qw_move (by rfl) rfl rfl ?_
              simp only [Act.put, pb, pc, pd]
              refine qw_skip (by rfl) ?_
              simp only [Act.put, pb, pc, pd]
              refine qw_skip (by rfl) ?_
              simp only [Act.put, pb, pc, pd]
              refine qw_pick false (v := .bool false) (by rfl) rfl rfl rfl ?_
              simp only [Act.put, pb, pc, pd]
              refine qw_nil ?_
              intro w10 hqb
              replace r7 := r7.belowAll hqb
              replace r8 := r8.belowAll hqb
              replace sb := below_on sb (Nat.le_refl _) hqb
              clear hqb
              have hw0 := HW0.out
              (repeat ((fail_if_success (with_reducible show Code.wp _ (Code.region _ _ _) _ _ _)); go_step))
              refine wp_region_qp ?_
              refine qw_move (by rfl) rfl rfl ?_
              simp only [Act.put, pb, pc, pd]
              refine qw_value (by rfl) (.bool true) (exec_lss_k .u32 _ _ _ _ rfl N 65536 rfl rfl true (decide_eq_true (by omega))) ?_
              simp only [Act.put, pb, pc, pd]
              refine qw_move (by rfl) rfl rfl ?_
              simp only [Act.put, pb, pc, pd]
              refine qw_move (by rfl) rfl rfl ?_
              simp only [Act.put, pb, pc, pd]
              refine qw_move (by rfl) rfl rfl ?_
              simp only [Act.put, pb, pc, pd]
              refine qw_value (by rfl) (.bool false) (exec_neq_k .i64 _ _ _ _ rfl W ((0 : Nat) : Int) rfl rfl false (by rw [decide_eq_true (by omega)]; rfl)) ?_
              simp only [Act.put, pb, pc, pd]
              refine qw_pick true (v := .bool false) (by rfl) rfl rfl rfl ?_
              simp only [Act.put, pb, pc, pd]
              refine qw_nil ?_
              intro w20 hqb
              replace r7 := r7.belowAll hqb
              replace r8 := r8.belowAll hqb
              replace sb := below_on sb (Nat.le_refl _) hqb
              clear hqb
              (repeat ((fail_if_success (with_reducible show Code.wp _ (Code.region _ _ _) _ _ _)); go_step))
              refine wp_region_qp ?_
              refine qw_move (by rfl) rfl rfl ?_
              simp only [Act.put, pb, pc, pd]
              refine qw_value (by rfl) (.bool true) (exec_neq_k .i64 _ _ _ _ rfl 3 0 rfl rfl true rfl) ?_
              simp only [Act.put, pb, pc, pd]
              refine qw_move (by rfl) rfl rfl ?_
              simp only [Act.put, pb, pc, pd]
              refine qw_skip (by rfl) ?_
              simp only [Act.put, pb, pc, pd]
              refine qw_skip (by rfl) ?_
              simp only [Act.put, pb, pc, pd]
              refine qw_skip (by rfl) ?_
              simp only [Act.put, pb, pc, pd]
              refine qw_skip (by rfl) ?_
              simp only [Act.put, pb, pc, pd]
              refine qw_skip (by rfl) ?_
              simp only [Act.put, pb, pc, pd]
              refine qw_skip (by rfl) ?_
              simp only [Act.put, pb, pc, pd]
              refine qw_skip (by rfl) ?_
              simp only [Act.put, pb, pc, pd]
              refine qw_skip (by rfl) ?_
              simp only [Act.put, pb, pc, pd]
              refine qw_skip (by rfl) ?_
              simp only [Act.put, pb, pc, pd]
              refine qw_skip (by rfl) ?_
              simp only [Act.put, pb, pc, pd]
              refine qw_skip (by rfl) ?_
              simp only [Act.put, pb, pc, pd]
              refine qw_skip (by rfl) ?_
              simp only [Act.put, pb, pc, pd]
              refine qw_pick true (v := .bool true) (by rfl) rfl rfl rfl ?_
              simp only [Act.put, pb, pc, pd]
              refine qw_move (by rfl) rfl rfl ?_
              simp only [Act.put, pb, pc, pd]
              refine qw_call (by rfl) 10 _ _ rfl Try.func10 (by kernel_rfl) #[] rfl _ haw ?_
              simp only [Act.put, pb, pc, pd]
              refine qw_pick true (v := .bool true) (by rfl) rfl rfl rfl ?_
              simp only [Act.put, pb, pc, pd]
              refine qw_asg (by rfl) rfl rfl ?_
              simp only [Act.put, pb, pc, pd]
              refine qw_nil ?_
              intro w21 hqb
              replace sb := below_on sb (Nat.le_refl _) hqb
              clear hqb
              go_wp2
              go_ret
              exact ⟨rfl, sb⟩
            | g + 2, hkg, hw =>
              have hst := hsk k
              rw [show g + 2 - 1 = g + 1 by omega] at hw
              unfold wtF at hw
              rw [show 2 + (k - 2) = k by omega, show k - 2 + 1 = k + 1 - 2 by omega] at hw
              clear haw
              cases hb : sh k with
              | true =>
                rw [hb] at hst
                rw [if_pos hb] at hw
                have HS : Hid (k = W ∧ W ≠ 0) := ⟨hw, by omega⟩
                clear hb hw
                (repeat ((fail_if_success (with_reducible show Code.wp _ (Code.region _ _ _) _ _ _)); go_step))
                refine wp_region_qp ?_
                refine qw_move (by rfl) rfl rfl ?_
                simp only [Act.put, pb, pc, pd]
                refine qw_value (by rfl) (.bool true) (exec_leq_i _ _ _ _ rfl k 100 rfl rfl true (decide_eq_true (by omega))) ?_
                simp only [Act.put, pb, pc, pd]
                refine qw_move (by rfl) rfl rfl ?_
                simp only [Act.put, pb, pc, pd]
                refine qw_move (by rfl) rfl rfl ?_
                simp only [Act.put, pb, pc, pd]
                refine qw_value (by rfl) (.bool true) (exec_eql_k .i64 _ _ _ _ rfl ((0 : Nat) : Int) 0 rfl rfl true rfl) ?_
                simp only [Act.put, pb, pc, pd]
                refine qw_pick true (v := .bool true) (by rfl) rfl rfl rfl ?_
                simp only [Act.put, pb, pc, pd]
                refine qw_move (by rfl) rfl rfl ?_
                simp only [Act.put, pb, pc, pd]
                refine qw_move (by rfl) rfl rfl ?_
                simp only [Act.put, pb, pc, pd]
                refine qw_value (by rfl) (.bool true) (exec_lss_k .u32 _ _ _ _ rfl N 65536 rfl rfl true (decide_eq_true (by omega))) ?_
                simp only [Act.put, pb, pc, pd]
                refine qw_pick true (v := .bool true) (by rfl) rfl rfl rfl ?_
                simp only [Act.put, pb, pc, pd]
                refine qw_nil ?_
                intro w10 hqb
                replace r7 := r7.belowAll hqb
                replace r8 := r8.belowAll hqb
                replace sb := below_on sb (Nat.le_refl _) hqb
                clear hqb
                (repeat ((fail_if_success (with_reducible show Code.wp _ (Code.region _ _ _) _ _ _)); go_step))
                refine wp_region_qp ?_
                refine qw_load (by rfl) 25 _ rfl _ rfl r7 4 _ Try.underlying25 size_nat ?_
                simp only [Act.put, pb, pc, pd]
                refine qw_load (by rfl) 25 _ rfl _ rfl r8 4 _ Try.underlying25 size_nat ?_
                simp only [Act.put, pb, pc, pd]
                refine qw_move (by rfl) rfl rfl ?_
                simp only [Act.put, pb, pc, pd]
                refine qw_call (by rfl) 9 _ _ rfl Try.func9 (by kernel_rfl) #[.agg (natC N), .agg (natC F), .int .i64 k] rfl _ hst ?_
                simp only [Act.put, pb, pc, pd]
                refine qw_nil ?_
                intro w11 hqb
                replace r7 := r7.belowAll hqb
                replace r8 := r8.belowAll hqb
                replace sb := below_on sb (Nat.le_refl _) hqb
                clear hqb
                (repeat ((fail_if_success (with_reducible show Code.wp _ (Code.region _ _ _) _ _ _)); go_step))
                apply wp_region_mixp [] [_, _] trivial List.nodup_nil
                · intro p
                  refine mx_move rfl rfl ?_
                  simp only [Act.put, pb, pc, pd]
                  refine mx_asg rfl rfl ?_
                  simp only [Act.put, pb, pc, pd]
                  refine mx_end ?_
                  intro w12 hkw hrw hnew hdis
                  replace r7 := hkw.row r7 (by simp <;> omega)
                  replace r8 := hkw.row r8 (by simp <;> omega)
                  replace sb := sb.trans (hkw.below w.heap.size sb.size (by simp <;> omega))
                  clear hkw hrw hnew hdis
                  (repeat ((fail_if_success (with_reducible show Code.wp _ (Code.region _ _ _) _ _ _)); go_step))
                  apply wp_region_mixp [] [_, _, _] trivial List.nodup_nil
                  · intro p
                    refine mx_move rfl rfl ?_
                    simp only [Act.put, pb, pc, pd]
                    refine mx_val (.int .i64 ((k + 1 : Nat) : Int)) (exec_add_in _ _ _ _ rfl k 1 rfl rfl (by omega)) ?_
                    simp only [Act.put, pb, pc, pd]
                    refine mx_asg rfl rfl ?_
                    simp only [Act.put, pb, pc, pd]
                    refine mx_end ?_
                    intro w13 hkw hrw hnew hdis
                    replace r7 := hkw.row r7 (by simp <;> omega)
                    replace r8 := hkw.row r8 (by simp <;> omega)
                    replace sb := sb.trans (hkw.below w.heap.size sb.size (by simp <;> omega))
                    clear hkw hrw hnew hdis
                    go_wp2
                    go_roundg (g + 1)
                    case measure => omega
                    case rel => exact ⟨k, k + 1, rfl, rfl, by omega, by omega, .inr HS.out, r7, r8, sb⟩
                  · rfl
                · rfl
              | false =>
                rw [hb] at hst
                rw [if_neg (by rw [hb]; decide)] at hw
                have HS : Hid (k + 1 + (g + 1) = 102 ∧ wtF sh (g + 1 - 1) (k + 1 - 2) = W) := ⟨by omega, by rw [Nat.add_sub_cancel]; exact hw⟩
                clear hb hw
                (repeat ((fail_if_success (with_reducible show Code.wp _ (Code.region _ _ _) _ _ _)); go_step))
                refine wp_region_qp ?_
                refine qw_move (by rfl) rfl rfl ?_
                simp only [Act.put, pb, pc, pd]
                refine qw_value (by rfl) (.bool true) (exec_leq_i _ _ _ _ rfl k 100 rfl rfl true (decide_eq_true (by omega))) ?_
                simp only [Act.put, pb, pc, pd]
                refine qw_move (by rfl) rfl rfl ?_
                simp only [Act.put, pb, pc, pd]
                refine qw_move (by rfl) rfl rfl ?_
                simp only [Act.put, pb, pc, pd]
                refine qw_value (by rfl) (.bool true) (exec_eql_k .i64 _ _ _ _ rfl ((0 : Nat) : Int) 0 rfl rfl true rfl) ?_
                simp only [Act.put, pb, pc, pd]
                refine qw_pick true (v := .bool true) (by rfl) rfl rfl rfl ?_
                simp only [Act.put, pb, pc, pd]
                refine qw_move (by rfl) rfl rfl ?_
                simp only [Act.put, pb, pc, pd]
                refine qw_move (by rfl) rfl rfl ?_
                simp only [Act.put, pb, pc, pd]
                refine qw_value (by rfl) (.bool true) (exec_lss_k .u32 _ _ _ _ rfl N 65536 rfl rfl true (decide_eq_true (by omega))) ?_
                simp only [Act.put, pb, pc, pd]
                refine qw_pick true (v := .bool true) (by rfl) rfl rfl rfl ?_
                simp only [Act.put, pb, pc, pd]
                refine qw_nil ?_
                intro w10 hqb
                replace r7 := r7.belowAll hqb
                replace r8 := r8.belowAll hqb
                replace sb := below_on sb (Nat.le_refl _) hqb
                clear hqb
                (repeat ((fail_if_success (with_reducible show Code.wp _ (Code.region _ _ _) _ _ _)); go_step))
                refine wp_region_qp ?_
                refine qw_load (by rfl) 25 _ rfl _ rfl r7 4 _ Try.underlying25 size_nat ?_
                simp only [Act.put, pb, pc, pd]
                refine qw_load (by rfl) 25 _ rfl _ rfl r8 4 _ Try.underlying25 size_nat ?_
                simp only [Act.put, pb, pc, pd]
                refine qw_move (by rfl) rfl rfl ?_
                simp only [Act.put, pb, pc, pd]
                refine qw_call (by rfl) 9 _ _ rfl Try.func9 (by kernel_rfl) #[.agg (natC N), .agg (natC F), .int .i64 k] rfl _ hst ?_
                simp only [Act.put, pb, pc, pd]
                refine qw_nil ?_
                intro w11 hqb
                replace r7 := r7.belowAll hqb
                replace r8 := r8.belowAll hqb
                replace sb := below_on sb (Nat.le_refl _) hqb
                clear hqb
                (repeat ((fail_if_success (with_reducible show Code.wp _ (Code.region _ _ _) _ _ _)); go_step))
                apply wp_region_mixp [] [_, _, _] trivial List.nodup_nil
                · intro p
                  refine mx_move rfl rfl ?_
                  simp only [Act.put, pb, pc, pd]
                  refine mx_val (.int .i64 ((k + 1 : Nat) : Int)) (exec_add_in _ _ _ _ rfl k 1 rfl rfl (by omega)) ?_
                  simp only [Act.put, pb, pc, pd]
                  refine mx_asg rfl rfl ?_
                  simp only [Act.put, pb, pc, pd]
                  refine mx_end ?_
                  intro w13 hkw hrw hnew hdis
                  replace r7 := hkw.row r7 (by simp <;> omega)
                  replace r8 := hkw.row r8 (by simp <;> omega)
                  replace sb := sb.trans (hkw.below w.heap.size sb.size (by simp <;> omega))
                  clear hkw hrw hnew hdis
                  go_wp2
                  go_roundg (g + 1)
                  case measure => omega
                  case rel => exact ⟨0, k + 1, rfl, rfl, by omega, by omega, .inl ⟨rfl, HS.out⟩, r7, r8, sb⟩
                · rfl
          · exact absurd HW0.out hWn
      · rfl
    · rfl
  · rfl
set_option maxRecDepth 100000 in
set_option maxHeartbeats 4000000 in
theorem small_some (N F W : Nat) (z : Int) (B : Bool) (sh : Nat → Bool) (w : World) (hN : N < 4294967296) (hF : F < 4294967296) (hW : wtF sh 99 0 = W) (hw0 : W ≠ 0) (hsm : N < 65536)
    (hwi : ∀ w', Calls Try.prog 7 #[.agg (natC N), .agg (natC F)] w' fun e w2 => e = .returned (.tuple #[.int .i64 W, .int .i64 0]) ∧ Below w'.heap.size w' w2)
    (hs1 : ∀ w', Calls Try.prog 8 #[.agg (natC N), .agg (natC F), .int .i64 z] w' fun e w2 => e = .returned (.bool B) ∧ Below w'.heap.size w' w2)
    (hs2 : ∀ w', Calls Try.prog 9 #[.agg (natC N), .agg (natC F), .int .i64 z] w' fun e w2 => e = .returned (.bool B) ∧ Below w'.heap.size w' w2)
    (hsk : ∀ k : Nat, ∀ w', Calls Try.prog 9 #[.agg (natC N), .agg (natC F), .int .i64 k] w' fun e w2 => e = .returned (.bool (sh k)) ∧ Below w'.heap.size w' w2) :
    Calls Try.prog 3 #[.int .u32 N, .int .u32 F, .int .i64 z] w fun e w' => e = .returned (.bool true) ∧ Below w.heap.size w w' := by
  have hfo := wtF_found sh 99 0 (by rw [hW]; exact hw0)
  rw [hW] at hfo
  have hsW := hsk W
  rw [hfo.1] at hsW
  have hWl : 2 ≤ W ∧ W ≤ 100 := ⟨hfo.2.1, by have := hfo.2.2; omega⟩
  clear hfo
  have HW : Hid (wtF sh 99 0 = W) := hW
  clear hW
  have haw := awake4_any
  go_enter Try.func3, Try.ntmps3
  (repeat ((fail_if_success (with_reducible show Code.wp _ (Code.region _ _ _) _ _ _)); go_step))
  apply wp_region_mixp [] [_] trivial List.nodup_nil
  · intro p
    refine mx_val (.bool false) (fun _ => rfl) ?_
    simp only [Act.put, pb, pc, pd]
    refine mx_end ?_
    intro w2 hkw hrw hnew hdis
    have sb := hkw.below w.heap.size (Nat.le_refl _) (by simp)
    clear hkw hrw hnew hdis
    (repeat ((fail_if_success (with_reducible show Code.wp _ (Code.region _ _ _) _ _ _)); go_step))
    apply wp_region_mixp [] [_, _, _, _, _, _, _, _, _, _] trivial List.nodup_nil
    · intro p
      refine mx_move rfl rfl ?_
      simp only [Act.put, pb, pc, pd]
      refine mx_val (.int .u64 N) (exec_conv_32 _ rfl N rfl hN) ?_
      simp only [Act.put, pb, pc, pd]
      refine mx_val (.agg (natC N)) (exec_build1 _ rfl N rfl hN) ?_
      simp only [Act.put, pb, pc, pd]
      refine mx_move rfl rfl ?_
      simp only [Act.put, pb, pc, pd]
      refine mx_val (.int .u64 F) (exec_conv_32 _ rfl F rfl hF) ?_
      simp only [Act.put, pb, pc, pd]
      refine mx_val (.agg (natC F)) (exec_build1 _ rfl F rfl hF) ?_
      simp only [Act.put, pb, pc, pd]
      refine mx_new 25 rfl _ zero_nat ?_
      simp only [Act.put, pb, pc, pd]
      refine mx_new 25 rfl _ zero_nat ?_
      simp only [Act.put, pb, pc, pd]
      refine mx_put 13 25 _ _ rfl rfl rfl (natC N) rfl (by exact size_nat) (by simp only [natC_size]) (natC_one _) ?_
      simp only [Act.put]
      refine mx_put 15 25 _ _ rfl rfl rfl (natC F) rfl (by exact size_nat) (by simp only [natC_size]) (natC_one _) ?_
      simp only [Act.put]
      refine mx_end ?_
      intro w3 hkw hrw hnew hdis
      have n7 := hnew 6 rfl
      have n8 := hnew 7 rfl
      have zr7 : Row w3 (p 6) (natC N) 25 := hrw 13 (25, natC N) rfl
      have zr8 : Row w3 (p 7) (natC F) 25 := hrw 15 (25, natC F) rfl
      replace sb := sb.trans (hkw.below w.heap.size sb.size (by simp <;> omega))
      clear hkw hrw hnew hdis n7 n8
      generalize p 6 = g7 at *
      generalize p 7 = g8 at *
      have r7 := zr7
      clear zr7
      have r8 := zr8
      clear zr8
      (repeat ((fail_if_success (with_reducible show Code.wp _ (Code.region _ _ _) _ _ _)); go_step))
      apply wp_region_mixp [] [_, _, _, _, _, _, _, _] trivial List.nodup_nil
      · intro p
        refine mx_load 25 _ rfl _ rfl r7 (by simp <;> omega) 4 _ Try.underlying25 size_nat ?_
        simp only [Act.put, pb, pc, pd]
        refine mx_load 25 _ rfl _ rfl r8 (by simp <;> omega) 4 _ Try.underlying25 size_nat ?_
        simp only [Act.put, pb, pc, pd]
        refine mx_call 7 _ _ rfl Try.func7 (by kernel_rfl) #[.agg (natC N), .agg (natC F)] rfl _ hwi ?_
        simp only [Act.put, pb, pc, pd]
        refine mx_move rfl rfl ?_
        simp only [Act.put, pb, pc, pd]
        refine mx_ext rfl rfl rfl ?_
        simp only [Act.put, pb, pc, pd]
        refine mx_ext rfl rfl rfl ?_
        simp only [Act.put, pb, pc, pd]
        refine mx_asg rfl rfl ?_
        simp only [Act.put, pb, pc, pd]
        refine mx_asg rfl rfl ?_
        simp only [Act.put, pb, pc, pd]
        refine mx_end ?_
        intro w4 hkw hrw hnew hdis
        replace r7 := hkw.row r7 (by simp <;> omega)
        replace r8 := hkw.row r8 (by simp <;> omega)
        replace sb := sb.trans (hkw.below w.heap.size sb.size (by simp <;> omega))
        clear hkw hrw hnew hdis
        (repeat ((fail_if_success (with_reducible show Code.wp _ (Code.region _ _ _) _ _ _)); go_step))
        refine wp_region_qw (by kernel_rfl) (by kernel_rfl) ?_
        refine qw_load (by rfl) 25 _ rfl _ rfl r7 4 _ Try.underlying25 size_nat ?_
        simp only [Act.put, pb, pc, pd]
        refine qw_load (by rfl) 25 _ rfl _ rfl r8 4 _ Try.underlying25 size_nat ?_
        simp only [Act.put, pb, pc, pd]
        refine qw_move (by rfl) rfl rfl ?_
        simp only [Act.put, pb, pc, pd]
        refine qw_call (by rfl) 8 _ _ rfl Try.func8 (by kernel_rfl) #[.agg (natC N), .agg (natC F), .int .i64 z] rfl _ hs1 ?_
        simp only [Act.put, pb, pc, pd]
        refine qw_load (by rfl) 25 _ rfl _ rfl r7 4 _ Try.underlying25 size_nat ?_
        simp only [Act.put, pb, pc, pd]
        refine qw_load (by rfl) 25 _ rfl _ rfl r8 4 _ Try.underlying25 size_nat ?_
        simp only [Act.put, pb, pc, pd]
        refine qw_move (by rfl) rfl rfl ?_
        simp only [Act.put, pb, pc, pd]
        refine qw_call (by rfl) 9 _ _ rfl Try.func9 (by kernel_rfl) #[.agg (natC N), .agg (natC F), .int .i64 z] rfl _ hs2 ?_
        simp only [Act.put, pb, pc, pd]
        refine qw_value (by rfl) (.bool false) (exec_neq_bool _ _ _ _ rfl B rfl rfl Try.underlying4) ?_
        simp only [Act.put, pb, pc, pd]
        refine qw_move (by rfl) rfl rfl ?_
        simp only [Act.put, pb, pc, pd]
        refine qw_move (by rfl) rfl rfl ?_
        simp only [Act.put, pb, pc, pd]
        refine qw_value (by rfl) (.bool false) (exec_neq_k .i64 _ _ _ _ rfl 0 0 rfl rfl false rfl) ?_
        simp only [Act.put, pb, pc, pd]
        refine qw_move (by rfl) rfl rfl ?_
        simp only [Act.put, pb, pc, pd]
        refine qw_skip (by rfl) ?_
        simp only [Act.put, pb, pc, pd]
        refine qw_skip (by rfl) ?_
        simp only [Act.put, pb, pc, pd]
        refine qw_skip (by rfl) ?_
        simp only [Act.put, pb, pc, pd]
        refine qw_skip (by rfl) ?_
        simp only [Act.put, pb, pc, pd]
        refine qw_skip (by rfl) ?_
        simp only [Act.put, pb, pc, pd]
        refine qw_skip (by rfl) ?_
        simp only [Act.put, pb, pc, pd]
        refine qw_pick false (v := .bool false) (by rfl) rfl rfl rfl ?_
        simp only [Act.put, pb, pc, pd]
        refine qw_pick false (v := .bool false) (by rfl) rfl rfl rfl ?_
        simp only [Act.put, pb, pc, pd]
        refine qw_nil ?_
        intro w5 hqb
        replace r7 := r7.belowAll hqb
        replace r8 := r8.belowAll hqb
        replace sb := below_on sb (Nat.le_refl _) hqb
        clear hqb
        clear hwi hs1 hs2
        go_wp2_with fail
        go_loopg [11, 12] 100 (fun g s11 s12 wr => ∃ L k : Nat, s11 = .int .i64 L ∧ s12 = .int .i64 k ∧ 2 ≤ k ∧ k ≤ 101 ∧ ((L = 0 ∧ k + g = 102 ∧ wtF sh (g - 1) (k - 2) = W) ∨ (L = W ∧ W ≠ 0)) ∧ Row wr g7 (natC N) 25 ∧ Row wr g8 (natC F) 25 ∧ Below w.heap.size w wr)
        case atStart => exact ⟨0, 2, rfl, rfl, by omega, by omega, .inl ⟨rfl, by omega, HW.out⟩, r7, r8, sb⟩
        case round =>
          clear r7 r8 sb HW
          obtain ⟨L, k, rfl, rfl, hk2, hk, hst0, r7, r8, sb⟩ := hrel
          rcases hst0 with ⟨hL, hkg, hw⟩ | ⟨hL, hWn⟩
          · subst hL
            match gk, hkg, hw with
            | 0, hkg, hw => omega
            | 1, hkg, hw =>
              exact absurd hw.symm hw0
            | g + 2, hkg, hw =>
              have hst := hsk k
              rw [show g + 2 - 1 = g + 1 by omega] at hw
              unfold wtF at hw
              rw [show 2 + (k - 2) = k by omega, show k - 2 + 1 = k + 1 - 2 by omega] at hw
              clear haw hsW
              cases hb : sh k with
              | true =>
                rw [hb] at hst
                rw [if_pos hb] at hw
                have HS : Hid (k = W ∧ W ≠ 0) := ⟨hw, by omega⟩
                clear hb hw
                (repeat ((fail_if_success (with_reducible show Code.wp _ (Code.region _ _ _) _ _ _)); go_step))
                refine wp_region_qp ?_
                refine qw_move (by rfl) rfl rfl ?_
                simp only [Act.put, pb, pc, pd]
                refine qw_value (by rfl) (.bool true) (exec_leq_i _ _ _ _ rfl k 100 rfl rfl true (decide_eq_true (by omega))) ?_
                simp only [Act.put, pb, pc, pd]
                refine qw_move (by rfl) rfl rfl ?_
                simp only [Act.put, pb, pc, pd]
                refine qw_move (by rfl) rfl rfl ?_
                simp only [Act.put, pb, pc, pd]
                refine qw_value (by rfl) (.bool true) (exec_eql_k .i64 _ _ _ _ rfl ((0 : Nat) : Int) 0 rfl rfl true rfl) ?_
                simp only [Act.put, pb, pc, pd]
                refine qw_pick true (v := .bool true) (by rfl) rfl rfl rfl ?_
                simp only [Act.put, pb, pc, pd]
                refine qw_move (by rfl) rfl rfl ?_
                simp only [Act.put, pb, pc, pd]
                refine qw_move (by rfl) rfl rfl ?_
                simp only [Act.put, pb, pc, pd]
                refine qw_value (by rfl) (.bool true) (exec_lss_k .u32 _ _ _ _ rfl N 65536 rfl rfl true (decide_eq_true (by omega))) ?_
                simp only [Act.put, pb, pc, pd]
                refine qw_pick true (v := .bool true) (by rfl) rfl rfl rfl ?_
                simp only [Act.put, pb, pc, pd]
                refine qw_nil ?_
                intro w10 hqb
                replace r7 := r7.belowAll hqb
                replace r8 := r8.belowAll hqb
                replace sb := below_on sb (Nat.le_refl _) hqb
                clear hqb
                (repeat ((fail_if_success (with_reducible show Code.wp _ (Code.region _ _ _) _ _ _)); go_step))
                refine wp_region_qp ?_
                refine qw_load (by rfl) 25 _ rfl _ rfl r7 4 _ Try.underlying25 size_nat ?_
                simp only [Act.put, pb, pc, pd]
                refine qw_load (by rfl) 25 _ rfl _ rfl r8 4 _ Try.underlying25 size_nat ?_
                simp only [Act.put, pb, pc, pd]
                refine qw_move (by rfl) rfl rfl ?_
                simp only [Act.put, pb, pc, pd]
                refine qw_call (by rfl) 9 _ _ rfl Try.func9 (by kernel_rfl) #[.agg (natC N), .agg (natC F), .int .i64 k] rfl _ hst ?_
                simp only [Act.put, pb, pc, pd]
                refine qw_nil ?_
                intro w11 hqb
                replace r7 := r7.belowAll hqb
                replace r8 := r8.belowAll hqb
                replace sb := below_on sb (Nat.le_refl _) hqb
                clear hqb
                (repeat ((fail_if_success (with_reducible show Code.wp _ (Code.region _ _ _) _ _ _)); go_step))
                apply wp_region_mixp [] [_, _] trivial List.nodup_nil
                · intro p
                  refine mx_move rfl rfl ?_
                  simp only [Act.put, pb, pc, pd]
                  refine mx_asg rfl rfl ?_
                  simp only [Act.put, pb, pc, pd]
                  refine mx_end ?_
                  intro w12 hkw hrw hnew hdis
                  replace r7 := hkw.row r7 (by simp <;> omega)
                  replace r8 := hkw.row r8 (by simp <;> omega)
                  replace sb := sb.trans (hkw.below w.heap.size sb.size (by simp <;> omega))
                  clear hkw hrw hnew hdis
                  (repeat ((fail_if_success (with_reducible show Code.wp _ (Code.region _ _ _) _ _ _)); go_step))
                  apply wp_region_mixp [] [_, _, _] trivial List.nodup_nil
                  · intro p
                    refine mx_move rfl rfl ?_
                    simp only [Act.put, pb, pc, pd]
                    refine mx_val (.int .i64 ((k + 1 : Nat) : Int)) (exec_add_in _ _ _ _ rfl k 1 rfl rfl (by omega)) ?_
                    simp only [Act.put, pb, pc, pd]
                    refine mx_asg rfl rfl ?_
                    simp only [Act.put, pb, pc, pd]
                    refine mx_end ?_
                    intro w13 hkw hrw hnew hdis
                    replace r7 := hkw.row r7 (by simp <;> omega)
                    replace r8 := hkw.row r8 (by simp <;> omega)
                    replace sb := sb.trans (hkw.below w.heap.size sb.size (by simp <;> omega))
                    clear hkw hrw hnew hdis
                    go_wp2
                    go_roundg (g + 1)
                    case measure => omega
                    case rel => exact ⟨k, k + 1, rfl, rfl, by omega, by omega, .inr HS.out, r7, r8, sb⟩
                  · rfl
                · rfl
              | false =>
                rw [hb] at hst
                rw [if_neg (by rw [hb]; decide)] at hw
                have HS : Hid (k + 1 + (g + 1) = 102 ∧ wtF sh (g + 1 - 1) (k + 1 - 2) = W) := ⟨by omega, by rw [Nat.add_sub_cancel]; exact hw⟩
                clear hb hw
                (repeat ((fail_if_success (with_reducible show Code.wp _ (Code.region _ _ _) _ _ _)); go_step))
                refine wp_region_qp ?_
                refine qw_move (by rfl) rfl rfl ?_
                simp only [Act.put, pb, pc, pd]
                refine qw_value (by rfl) (.bool true) (exec_leq_i _ _ _ _ rfl k 100 rfl rfl true (decide_eq_true (by omega))) ?_
                simp only [Act.put, pb, pc, pd]
                refine qw_move (by rfl) rfl rfl ?_
                simp only [Act.put, pb, pc, pd]
                refine qw_move (by rfl) rfl rfl ?_
                simp only [Act.put, pb, pc, pd]
                refine qw_value (by rfl) (.bool true) (exec_eql_k .i64 _ _ _ _ rfl ((0 : Nat) : Int) 0 rfl rfl true rfl) ?_
                simp only [Act.put, pb, pc, pd]
                refine qw_pick true (v := .bool true) (by rfl) rfl rfl rfl ?_
                simp only [Act.put, pb, pc, pd]
                refine qw_move (by rfl) rfl rfl ?_
                simp only [Act.put, pb, pc, pd]
                refine qw_move (by rfl) rfl rfl ?_
                simp only [Act.put, pb, pc, pd]
                refine qw_value (by rfl) (.bool true) (exec_lss_k .u32 _ _ _ _ rfl N 65536 rfl rfl true (decide_eq_true (by omega))) ?_
                simp only [Act.put, pb, pc, pd]
                refine qw_pick true (v := .bool true) (by rfl) rfl rfl rfl ?_
                simp only [Act.put, pb, pc, pd]
                refine qw_nil ?_
                intro w10 hqb
                replace r7 := r7.belowAll hqb
                replace r8 := r8.belowAll hqb
                replace sb := below_on sb (Nat.le_refl _) hqb
                clear hqb
                (repeat ((fail_if_success (with_reducible show Code.wp _ (Code.region _ _ _) _ _ _)); go_step))
                refine wp_region_qp ?_
                refine qw_load (by rfl) 25 _ rfl _ rfl r7 4 _ Try.underlying25 size_nat ?_
                simp only [Act.put, pb, pc, pd]
                refine qw_load (by rfl) 25 _ rfl _ rfl r8 4 _ Try.underlying25 size_nat ?_
                simp only [Act.put, pb, pc, pd]
                refine qw_move (by rfl) rfl rfl ?_
                simp only [Act.put, pb, pc, pd]
                refine qw_call (by rfl) 9 _ _ rfl Try.func9 (by kernel_rfl) #[.agg (natC N), .agg (natC F), .int .i64 k] rfl _ hst ?_
                simp only [Act.put, pb, pc, pd]
                refine qw_nil ?_
                intro w11 hqb
                replace r7 := r7.belowAll hqb
                replace r8 := r8.belowAll hqb
                replace sb := below_on sb (Nat.le_refl _) hqb
                clear hqb
                (repeat ((fail_if_success (with_reducible show Code.wp _ (Code.region _ _ _) _ _ _)); go_step))
                apply wp_region_mixp [] [_, _, _] trivial List.nodup_nil
                · intro p
                  refine mx_move rfl rfl ?_
                  simp only [Act.put, pb, pc, pd]
                  refine mx_val (.int .i64 ((k + 1 : Nat) : Int)) (exec_add_in _ _ _ _ rfl k 1 rfl rfl (by omega)) ?_
                  simp only [Act.put, pb, pc, pd]
                  refine mx_asg rfl rfl ?_
                  simp only [Act.put, pb, pc, pd]
                  refine mx_end ?_
                  intro w13 hkw hrw hnew hdis
                  replace r7 := hkw.row r7 (by simp <;> omega)
                  replace r8 := hkw.row r8 (by simp <;> omega)
                  replace sb := sb.trans (hkw.below w.heap.size sb.size (by simp <;> omega))
                  clear hkw hrw hnew hdis
                  go_wp2
                  go_roundg (g + 1)
                  case measure => omega
                  case rel => exact ⟨0, k + 1, rfl, rfl, by omega, by omega, .inl ⟨rfl, HS.out⟩, r7, r8, sb⟩
                · rfl
          · clear hsk
            by_cases hk1 : k ≤ 100
            · skip
              (repeat ((fail_if_success (with_reducible show Code.wp _ (Code.region _ _ _) _ _ _)); go_step))
              refine wp_region_qp ?_
              refine qw_move (by rfl) rfl rfl ?_
              simp only [Act.put, pb, pc, pd]
              refine qw_value (by rfl) (.bool true) (exec_leq_i _ _ _ _ rfl k 100 rfl rfl true (decide_eq_true (by omega))) ?_
              simp only [Act.put, pb, pc, pd]
              refine qw_move (by rfl) rfl rfl ?_
              simp only [Act.put, pb, pc, pd]
              refine qw_move (by rfl) rfl rfl ?_
              simp only [Act.put, pb, pc, pd]
              refine qw_value (by rfl) (.bool false) (exec_eql_k .i64 _ _ _ _ rfl L 0 rfl rfl false (decide_eq_false (by omega))) ?_
              simp only [Act.put, pb, pc, pd]
              refine qw_pick true (v := .bool false) (by rfl) rfl rfl rfl ?_
              simp only [Act.put, pb, pc, pd]
              refine qw_move (by rfl) rfl rfl ?_
              simp only [Act.put, pb, pc, pd]
              refine qw_skip (by rfl) ?_
              simp only [Act.put, pb, pc, pd]
              refine qw_skip (by rfl) ?_
              simp only [Act.put, pb, pc, pd]
              refine qw_pick false (v := .bool false) (by rfl) rfl rfl rfl ?_
              simp only [Act.put, pb, pc, pd]
              refine qw_nil ?_
              intro w10 hqb
              replace r7 := r7.belowAll hqb
              replace r8 := r8.belowAll hqb
              replace sb := below_on sb (Nat.le_refl _) hqb
              clear hqb
              (repeat ((fail_if_success (with_reducible show Code.wp _ (Code.region _ _ _) _ _ _)); go_step))
              refine wp_region_qp ?_
              refine qw_move (by rfl) rfl rfl ?_
              simp only [Act.put, pb, pc, pd]
              refine qw_value (by rfl) (.bool true) (exec_lss_k .u32 _ _ _ _ rfl N 65536 rfl rfl true (decide_eq_true (by omega))) ?_
              simp only [Act.put, pb, pc, pd]
              refine qw_move (by rfl) rfl rfl ?_
              simp only [Act.put, pb, pc, pd]
              refine qw_move (by rfl) rfl rfl ?_
              simp only [Act.put, pb, pc, pd]
              refine qw_move (by rfl) rfl rfl ?_
              simp only [Act.put, pb, pc, pd]
              refine qw_value (by rfl) (.bool false) (exec_neq_k .i64 _ _ _ _ rfl W L rfl rfl false (by rw [decide_eq_true (by omega)]; rfl)) ?_
              simp only [Act.put, pb, pc, pd]
              refine qw_pick true (v := .bool false) (by rfl) rfl rfl rfl ?_
              simp only [Act.put, pb, pc, pd]
              refine qw_nil ?_
              intro w20 hqb
              replace r7 := r7.belowAll hqb
              replace r8 := r8.belowAll hqb
              replace sb := below_on sb (Nat.le_refl _) hqb
              clear hqb
              (repeat ((fail_if_success (with_reducible show Code.wp _ (Code.region _ _ _) _ _ _)); go_step))
              refine wp_region_qp ?_
              refine qw_move (by rfl) rfl rfl ?_
              simp only [Act.put, pb, pc, pd]
              refine qw_value (by rfl) (.bool false) (exec_neq_k .i64 _ _ _ _ rfl 0 0 rfl rfl false rfl) ?_
              simp only [Act.put, pb, pc, pd]
              refine qw_move (by rfl) rfl rfl ?_
              simp only [Act.put, pb, pc, pd]
              refine qw_move (by rfl) rfl rfl ?_
              simp only [Act.put, pb, pc, pd]
              refine qw_value (by rfl) (.bool true) (exec_geq_i _ _ _ _ rfl W 2 rfl rfl true (decide_eq_true (by omega))) ?_
              simp only [Act.put, pb, pc, pd]
              refine qw_move (by rfl) rfl rfl ?_
              simp only [Act.put, pb, pc, pd]
              refine qw_move (by rfl) rfl rfl ?_
              simp only [Act.put, pb, pc, pd]
              refine qw_value (by rfl) (.bool true) (exec_leq_i _ _ _ _ rfl W 100 rfl rfl true (decide_eq_true (by omega))) ?_
              simp only [Act.put, pb, pc, pd]
              refine qw_pick true (v := .bool true) (by rfl) rfl rfl rfl ?_
              simp only [Act.put, pb, pc, pd]
              refine qw_move (by rfl) rfl rfl ?_
              simp only [Act.put, pb, pc, pd]
              refine qw_load (by rfl) 25 _ rfl _ rfl r7 4 _ Try.underlying25 size_nat ?_
              simp only [Act.put, pb, pc, pd]
              refine qw_load (by rfl) 25 _ rfl _ rfl r8 4 _ Try.underlying25 size_nat ?_
              simp only [Act.put, pb, pc, pd]
              refine qw_move (by rfl) rfl rfl ?_
              simp only [Act.put, pb, pc, pd]
              refine qw_call (by rfl) 9 _ _ rfl Try.func9 (by kernel_rfl) #[.agg (natC N), .agg (natC F), .int .i64 W] rfl _ hsW ?_
              simp only [Act.put, pb, pc, pd]
              refine qw_pick true (v := .bool true) (by rfl) rfl rfl rfl ?_
              simp only [Act.put, pb, pc, pd]
              refine qw_pick false (v := .bool true) (by rfl) rfl rfl rfl ?_
              simp only [Act.put, pb, pc, pd]
              refine qw_move (by rfl) rfl rfl ?_
              simp only [Act.put, pb, pc, pd]
              refine qw_call (by rfl) 10 _ _ rfl Try.func10 (by kernel_rfl) #[] rfl _ haw ?_
              simp only [Act.put, pb, pc, pd]
              refine qw_pick true (v := .bool true) (by rfl) rfl rfl rfl ?_
              simp only [Act.put, pb, pc, pd]
              refine qw_asg (by rfl) rfl rfl ?_
              simp only [Act.put, pb, pc, pd]
              refine qw_nil ?_
              intro w21 hqb
              replace sb := below_on sb (Nat.le_refl _) hqb
              clear hqb
              go_wp2
              go_ret
              exact ⟨rfl, sb⟩
            · skip
              (repeat ((fail_if_success (with_reducible show Code.wp _ (Code.region _ _ _) _ _ _)); go_step))
              refine wp_region_qp ?_
              refine qw_move (by rfl) rfl rfl ?_
              simp only [Act.put, pb, pc, pd]
              refine qw_value (by rfl) (.bool false) (exec_leq_i _ _ _ _ rfl k 100 rfl rfl false (decide_eq_false (by omega))) ?_
              simp only [Act.put, pb, pc, pd]
              refine qw_move (by rfl) rfl rfl ?_
              simp only [Act.put, pb, pc, pd]
              refine qw_skip (by rfl) ?_
              simp only [Act.put, pb, pc, pd]
              refine qw_skip (by rfl) ?_
              simp only [Act.put, pb, pc, pd]
              refine qw_pick false (v := .bool false) (by rfl) rfl rfl rfl ?_
              simp only [Act.put, pb, pc, pd]
              refine qw_move (by rfl) rfl rfl ?_
              simp only [Act.put, pb, pc, pd]
              refine qw_skip (by rfl) ?_
              simp only [Act.put, pb, pc, pd]
              refine qw_skip (by rfl) ?_
              simp only [Act.put, pb, pc, pd]
              refine qw_pick false (v := .bool false) (by rfl) rfl rfl rfl ?_
              simp only [Act.put, pb, pc, pd]
              refine qw_nil ?_
              intro w10 hqb
              replace r7 := r7.belowAll hqb
              replace r8 := r8.belowAll hqb
              replace sb := below_on sb (Nat.le_refl _) hqb
              clear hqb
              (repeat ((fail_if_success (with_reducible show Code.wp _ (Code.region _ _ _) _ _ _)); go_step))
              refine wp_region_qp ?_
              refine qw_move (by rfl) rfl rfl ?_
              simp only [Act.put, pb, pc, pd]
              refine qw_value (by rfl) (.bool true) (exec_lss_k .u32 _ _ _ _ rfl N 65536 rfl rfl true (decide_eq_true (by omega))) ?_
              simp only [Act.put, pb, pc, pd]
              refine qw_move (by rfl) rfl rfl ?_
              simp only [Act.put, pb, pc, pd]
              refine qw_move (by rfl) rfl rfl ?_
              simp only [Act.put, pb, pc, pd]
              refine qw_move (by rfl) rfl rfl ?_
              simp only [Act.put, pb, pc, pd]
              refine qw_value (by rfl) (.bool false) (exec_neq_k .i64 _ _ _ _ rfl W L rfl rfl false (by rw [decide_eq_true (by omega)]; rfl)) ?_
              simp only [Act.put, pb, pc, pd]
              refine qw_pick true (v := .bool false) (by rfl) rfl rfl rfl ?_
              simp only [Act.put, pb, pc, pd]
              refine qw_nil ?_
              intro w20 hqb
              replace r7 := r7.belowAll hqb
              replace r8 := r8.belowAll hqb
              replace sb := below_on sb (Nat.le_refl _) hqb
              clear hqb
              (repeat ((fail_if_success (with_reducible show Code.wp _ (Code.region _ _ _) _ _ _)); go_step))
              refine wp_region_qp ?_
              refine qw_move (by rfl) rfl rfl ?_
              simp only [Act.put, pb, pc, pd]
              refine qw_value (by rfl) (.bool false) (exec_neq_k .i64 _ _ _ _ rfl 0 0 rfl rfl false rfl) ?_
              simp only [Act.put, pb, pc, pd]
              refine qw_move (by rfl) rfl rfl ?_
              simp only [Act.put, pb, pc, pd]
              refine qw_move (by rfl) rfl rfl ?_
              simp only [Act.put, pb, pc, pd]
              refine qw_value (by rfl) (.bool true) (exec_geq_i _ _ _ _ rfl W 2 rfl rfl true (decide_eq_true (by omega))) ?_
              simp only [Act.put, pb, pc, pd]
              refine qw_move (by rfl) rfl rfl ?_
              simp only [Act.put, pb, pc, pd]
              refine qw_move (by rfl) rfl rfl ?_
              simp only [Act.put, pb, pc, pd]
              refine qw_value (by rfl) (.bool true) (exec_leq_i _ _ _ _ rfl W 100 rfl rfl true (decide_eq_true (by omega))) ?_
              simp only [Act.put, pb, pc, pd]
              refine qw_pick true (v := .bool true) (by rfl) rfl rfl rfl ?_
              simp only [Act.put, pb, pc, pd]
              refine qw_move (by rfl) rfl rfl ?_
              simp only [Act.put, pb, pc, pd]
              refine qw_load (by rfl) 25 _ rfl _ rfl r7 4 _ Try.underlying25 size_nat ?_
              simp only [Act.put, pb, pc, pd]
              refine qw_load (by rfl) 25 _ rfl _ rfl r8 4 _ Try.underlying25 size_nat ?_
              simp only [Act.put, pb, pc, pd]
              refine qw_move (by rfl) rfl rfl ?_
              simp only [Act.put, pb, pc, pd]
              refine qw_call (by rfl) 9 _ _ rfl Try.func9 (by kernel_rfl) #[.agg (natC N), .agg (natC F), .int .i64 W] rfl _ hsW ?_
              simp only [Act.put, pb, pc, pd]
              refine qw_pick true (v := .bool true) (by rfl) rfl rfl rfl ?_
              simp only [Act.put, pb, pc, pd]
              refine qw_pick false (v := .bool true) (by rfl) rfl rfl rfl ?_
              simp only [Act.put, pb, pc, pd]
              refine qw_move (by rfl) rfl rfl ?_
              simp only [Act.put, pb, pc, pd]
              refine qw_call (by rfl) 10 _ _ rfl Try.func10 (by kernel_rfl) #[] rfl _ haw ?_
              simp only [Act.put, pb, pc, pd]
              refine qw_pick true (v := .bool true) (by rfl) rfl rfl rfl ?_
              simp only [Act.put, pb, pc, pd]
              refine qw_asg (by rfl) rfl rfl ?_
              simp only [Act.put, pb, pc, pd]
              refine qw_nil ?_
              intro w21 hqb
              replace sb := below_on sb (Nat.le_refl _) hqb
              clear hqb
              go_wp2
              go_ret
              exact ⟨rfl, sb⟩
      · rfl
    · rfl
  · rfl
theorem walk (N F : Nat) (z : Int) (w : World) (hN : N < 4294967296) (hF : F < 4294967296) :
    Calls Try.prog 3 #[.int .u32 N, .int .u32 F, .int .i64 z] w fun e w' => e = .returned (.bool true) ∧ Below w.heap.size w w' := by
  have hN' : N < 2 ^ 256 := by omega
  have hF' : F < 2 ^ 256 := by omega
  have hwi := fun w' => wit_any N F w' hN' hF'
  have hs1 := fun w' => step_any N F z w' hN' hF'
  have hs2 := fun w' => rS_any N F z w' (by omega) (by omega)
  have hsk := fun (k : Nat) w' => rS_any N F (k : Int) w' (by omega) (by omega)
  by_cases hw0 : witN N F = 0
  · rw [show errW (witN N F) = 3 from if_pos hw0] at hwi
    by_cases hs : N < 65536
    · exact small_none N F _ z _ _ w hN hF (witN_st N F) hw0 hs hwi hs1 hs2 hsk
    · exact big_none N F _ z _ w hN hF hw0 hs hwi hs1 hs2
  · rw [show errW (witN N F) = 0 from if_neg hw0] at hwi
    by_cases hs : N < 65536
    · exact small_some N F _ z _ _ w hN hF (witN_st N F) hw0 hs hwi hs1 hs2 hsk
    · exact big_some N F _ z _ _ w hN hF (witN_st N F) hw0 hs hwi hs1 hs2 hsk

set_option maxRecDepth 100000 in
theorem lifted (os : Os) (started : os.Started) (H : Type) (enc : TypeId × Value → H) :
    ReturnsInHanded {} Try.checked os 3 .any (Rows.primeStepsSpec.pre6 enc Try.prog Try.f3 Rows.primeStepsRow.domain false) (Rows.primeStepsSpec.post enc Try.prog Try.f3 false true false false) := by
  refine returnsInHanded_of_change (C := Try.checked) own started (by kernel_rfl) Try.func3
    (ChangeSpec.witness6 (enc := enc) (C := Try.checked) false ⟨#[], #[.int .u32 0, .int .u32 0, .int .i64 0], []⟩ 8 (by kernel_rfl) (by kernel_rfl) (by kernel_rfl) (by kernel_rfl)) ?_
  intro W base args ds gs before hval0 hW hcnd _
  have hval : ∀ (j : Nat) t v, Try.f3.params[j]? = some t → args[j]? = some v → Value.okWide Try.prog W .any base t v := hval0
  have hW' := hW
  obtain ⟨p, q, hA0, hV, rfl, hfz, hnd⟩ := hW
  have hA : DataW.TrodAll enc Try.prog W 0 (fun _ => true) true Try.f3.params.toList args.toList ds p := hA0
  rw [Try.params3] at hA hval
  obtain ⟨v0, vs0, d0, ds0, p0, q0, hargs, rfl, rfl, h0, r0⟩ := trodAll_cons hA
  obtain ⟨v1, vs1, d1, ds1, p1, q1, rfl, rfl, rfl, h1, r1⟩ := trodAll_cons r0
  obtain ⟨v2, vs2, d2, ds2, p2, q2, rfl, rfl, rfl, h2, r2⟩ := trodAll_cons r1
  obtain ⟨rfl, rfl, rfl⟩ := trodAll_nil r2
  obtain rfl : args = #[v0, v1, v2] := by cases args; simp_all
  obtain ⟨rfl, rfl⟩ := trodVars_none hV
  have k0 := h0
  have lt0 := lt_of_trod h0
  obtain ⟨a0, rfl, rfl, rfl, w0⟩ := open_int Try.underlying22 (hval 0 22 v0 rfl rfl) h0
  have k1 := h1
  have lt1 := lt_of_trod h1
  obtain ⟨a1, rfl, rfl, rfl, w1⟩ := open_int Try.underlying22 (hval 1 22 v1 rfl rfl) h1
  have k2 := h2
  have lt2 := lt_of_trod h2
  obtain ⟨a2, rfl, rfl, rfl, w2⟩ := open_int Try.underlying3 (hval 2 3 v2 rfl rfl) h2
  clear hA0 hval0
  have b0 := bounds_u32 w0
  have b1 := bounds_u32 w1
  obtain ⟨n0, rfl⟩ := Int.eq_ofNat_of_zero_le b0.1
  obtain ⟨n1, rfl⟩ := Int.eq_ofNat_of_zero_le b1.1
  refine (walk n0 n1 a2 W (by omega) (by omega)).mono fun e W' ⟨he, bel⟩ => ?_
  subst he
  exact ⟨_, rfl, _, _, _, [], _, [], hW', trodAll_mk1 (shut_bool Try.underlying4 _), (trodAll_cons_mk (Below.trod laidOut (by kernel_rfl) (of_decide_eq_true (by kernel_rfl)) k0 bel lt0) (trodAll_cons_mk (Below.trod laidOut (by kernel_rfl) (of_decide_eq_true (by kernel_rfl)) k1 bel lt1) (trodAll_cons_mk (Below.trod laidOut (by kernel_rfl) (of_decide_eq_true (by kernel_rfl)) k2 bel lt2) trodAll_mk0))), rfl, bel.frame _, fun h => by cases h⟩

theorem over : Rows.primeStepsRow.holds Try.pinned (OpenSpec.ofChange Rows.primeStepsSpec) :=
  OpenClaim.holds_of_wide 3 Try.f3 rfl rfl rfl rfl rfl rfl rfl ⟨rfl, rfl, rfl, rfl, rfl⟩ rfl rfl rfl rfl rfl (by kernel_rfl) Try.func3 (by kernel_rfl)
    (of_decide_eq_true (by kernel_rfl)) (by unfold Func.isWrapper; first | (rw [if_pos (by decide +kernel)]; kernel_rfl) | (rw [if_neg (by decide +kernel)]; exact ⟨rfl, rfl⟩))
    (fun os started H enc _ => lifted os started H enc)

end primeStepsP

/-- for any two naturals below 2^32 and any int: Step tells whether the int shows that the first is a prime, if the second is, as the document does; Witness tells the least from 2 to 100, or that there is none; no condition. -/
theorem primeSteps_holds : Rows.PrimeStepsSaid := primeStepsP.over
end Go.Proofs.Ytcdfefljagddmab
