/- nat.Of, nat.Int, nat.Cmp, nat.Bit; two naturals held against each other. -/
import Derived.Test.YtmmjjohnejimdaaNAdd
import Derived.Test.YtmmjjohnejimdaaRLen
import Derived.Test.YtmmjjohnejimdaaRCmp
namespace Go.Proofs.Ytmmjjohnejimdaa
open Go.RowKit

theorem natC_eq (X Y : Nat) : natC X = natC Y ↔ X % 2 ^ 256 = Y % 2 ^ 256 := ⟨natC_inj, fun h => by rw [← natC_full X, ← natC_full Y, h]⟩
theorem natC_lms (X Y : Nat) : (lm X 0 = lm Y 0 ∧ lm X 1 = lm Y 1 ∧ lm X 2 = lm Y 2 ∧ lm X 3 = lm Y 3) ↔ X % 2 ^ 256 = Y % 2 ^ 256 := by
  rw [← natC_eq]
  constructor
  · rintro ⟨h0, h1, h2, h3⟩
    unfold natC
    rw [h0, h1, h2, h3]
  · intro h
    have hl : ∀ i, i < 4 → lm X i = lm Y i := fun i hi => by
      have h1 := natC_get X i hi
      rw [h, natC_get Y i hi] at h1
      simp only [Option.some.injEq, Value.int.injEq, true_and] at h1
      omega
    exact ⟨hl 0 (by omega), hl 1 (by omega), hl 2 (by omega), hl 3 (by omega)⟩
set_option maxHeartbeats 1000000 in
theorem equal_nat (X Y : Nat) (w : World) : (Op.equalIn 10000 24 (.agg (natC X)) (.agg (natC Y))).run Try.prog w = .ok (decide (X % 2 ^ 256 = Y % 2 ^ 256)) w := by
  have h := natC_lms X Y
  rw [show decide (X % 2 ^ 256 = Y % 2 ^ 256) = decide (lm X 0 = lm Y 0 ∧ lm X 1 = lm Y 1 ∧ lm X 2 = lm Y 2 ∧ lm X 3 = lm Y 3) from decide_eq_decide.2 h.symm]
  clear h
  have u3 := Try.underlying22
  have a3 := Try.isAgg22
  have z3 := Try.sizeOf22
  unfold natC
  rw [show (10000 : Nat) = 9999 + 1 from rfl, Op.equalIn]
  simp only [Sem.run_bind, run_underlying Try.underlying24, Result.andThen_ok]
  simp only [Std.Legacy.Range.forIn_eq_forIn_range', Std.Legacy.Range.size, Nat.sub_zero, Nat.add_sub_cancel, Nat.div_one, List.range'_succ, List.range'_zero, List.forIn_cons, List.forIn_nil]
  go_simp
  by_cases h1 : lm X 0 = lm Y 0 <;> by_cases h2 : lm X 1 = lm Y 1 <;> by_cases h3 : lm X 2 = lm Y 2 <;> by_cases h4 : lm X 3 = lm Y 3 <;> simp [h1, h2, h3, h4] <;> omega
theorem exec_eql_nat {o : Oper} {ρ : Operand → Value} (x y : Operand) (u : TypeId) (ho : o.op = .binOp .eql 24 x y u) (X Y : Nat) (hx : ρ x = .agg (natC X)) (hy : ρ y = .agg (natC Y)) (w : World) :
    (execOp ρ o).run Try.prog w = .ok (.value (.bool (decide (X % 2 ^ 256 = Y % 2 ^ 256)))) w := by
  unfold execOp
  simp only [ho, hx, hy]
  simp [eqGuard, run_eql_struct, equal_nat]
theorem exec_neq_nat {o : Oper} {ρ : Operand → Value} (x y : Operand) (u : TypeId) (ho : o.op = .binOp .neq 24 x y u) (X Y : Nat) (hx : ρ x = .agg (natC X)) (hy : ρ y = .agg (natC Y)) (w : World) :
    (execOp ρ o).run Try.prog w = .ok (.value (.bool (!decide (X % 2 ^ 256 = Y % 2 ^ 256)))) w := by
  unfold execOp
  simp only [ho, hx, hy]
  simp [eqGuard, run_neq_struct, equal_nat]
theorem wpList_value {P : Program} {ops : Array Oper} {rest : List Oper} {o : Oper} {a : Act} {w : World} {Q : Exit → Act → World → Prop} (hgd : o.guard = none) (v : Value)
    (hr : (execOp a.eval o).run P w = .ok (.value v) w) (h : wpList P ops Q rest (a.put o.dst v) w) : wpList P ops Q (o :: rest) a w :=
  wpList_plain hgd fun _ hK => by unfold Oper.wp; rw [hr]; exact hK _ _ h
theorem natC_low (n : Nat) (h : n < 18446744073709551616) : natC n = #[.int .u64 n, .int .u64 0, .int .u64 0, .int .u64 0] := by
  unfold natC lm
  rw [show 64 * 0 = 0 from rfl, Nat.pow_zero, Nat.div_one, Nat.mod_eq_of_lt (show n < 2 ^ 64 from h), Nat.div_eq_of_lt (Nat.lt_of_lt_of_le h (by decide)), Nat.div_eq_of_lt (Nat.lt_of_lt_of_le h (by decide)), Nat.div_eq_of_lt (Nat.lt_of_lt_of_le h (by decide))]
  rfl

set_option maxRecDepth 100000 in
set_option maxHeartbeats 400000 in
theorem nof_any (n : Int) (w : World) (h1 : n < 9223372036854775808) :
    Calls Try.prog 47 #[.int .i64 n] w fun e w' => e = .returned (.agg (natC n.toNat)) ∧ Below w.heap.size w w' := by
  rw [natC_low n.toNat (by omega)]
  by_cases h0 : 0 ≤ n
  · rw [Int.toNat_of_nonneg h0]
    have hm : max n 0 = n := by omega
    go_enter Try.func47, Try.ntmps47
    go_wp2
    exact ret_row rfl _ rfl (Row.here rfl) 4 _ Try.underlying24 (by exact size_nat) rfl ⟨rfl, below_alloc _⟩
  · rw [show ((n.toNat : Nat) : Int) = 0 by omega]
    have hm : max n 0 = 0 := by omega
    go_enter Try.func47, Try.ntmps47
    go_wp2
    exact ret_row rfl _ rfl (Row.here rfl) 4 _ Try.underlying24 (by exact size_nat) rfl ⟨rfl, below_alloc _⟩

theorem bit_val (A k : Nat) : bits BinOp.and IntKind.u64 ((lm A (k / 64) : Int) / 2 ^ (k % 64)) 1 = if A.testBit k = true then (1 : Int) else 0 := by
  have hlm := lm_lt A (k / 64)
  have h1 := bit_test (lm A (k / 64)) (k % 64) hlm
  rw [lm_bit] at h1
  have h2 : (lm A (k / 64) : Int) / 2 ^ (k % 64) = ((lm A (k / 64) / 2 ^ (k % 64) : Nat) : Int) := by simp
  have h3 : lm A (k / 64) / 2 ^ (k % 64) < 18446744073709551616 := Nat.lt_of_le_of_lt (Nat.div_le_self _ _) hlm
  rw [h2, show (1 : Int) = ((1 : Nat) : Int) from rfl, u64_and_nat _ _ h3 (by decide), Nat.and_one_is_mod] at h1 ⊢
  rw [← h1]
  have h4 : lm A (k / 64) / 2 ^ (k % 64) % 2 = 0 ∨ lm A (k / 64) / 2 ^ (k % 64) % 2 = 1 := by omega
  rcases h4 with h4 | h4 <;> rw [h4] <;> rfl
set_option maxRecDepth 100000 in
set_option maxHeartbeats 400000 in
theorem ncmp_any (A B : Nat) (w : World) (hA : A < 2 ^ 256) (hB : B < 2 ^ 256) :
    Calls Try.prog 57 #[.agg (natC A), .agg (natC B)] w fun e w' => e = .returned (.int .i64 (cmpI A B)) ∧ Below w.heap.size w w' := by
  have rA : Row ((w.alloc (.cells (natC A) 24)).alloc (.cells (natC B) 24)) w.heap.size (natC A) 24 := Row.one rfl
  have rB : Row ((w.alloc (.cells (natC A) 24)).alloc (.cells (natC B) 24)) (w.heap.size + 1) (natC B) 24 := Row.here (by simp)
  have HB : Hid (B < 2 ^ 256) := hB
  have ma := Nat.mod_eq_of_lt hA
  have mb := Nat.mod_eq_of_lt hB
  by_cases heq : A = B
  · subst heq
    clear ma mb hA hB
    go_enter Try.func57, Try.ntmps57
    go_wp2_with (first
      | refine wpList_box_row rfl 24 _ rfl _ rfl ?_
      | refine wpList_loadR rfl 24 _ rfl _ rfl rA 4 _ Try.underlying24 (by exact size_nat) ?_
      | refine wpList_loadR rfl 24 _ rfl _ rfl rB 4 _ Try.underlying24 (by exact size_nat) ?_
      | refine wpList_value rfl (.bool true) ((exec_eql_nat _ _ _ rfl A A rfl rfl _).trans (by rw [decide_eq_true rfl])) ?_)
    go_ret
    exact ⟨by simp [cmpI], below_alloc2 _ _⟩
  · have HD : Hid (decide (A % 2 ^ 256 = B % 2 ^ 256) = false) := by show _ = _; rw [ma, mb]; exact decide_eq_false heq
    have HN : Hid (bN A B 256 = if A < B then 1 else 0) := by show _ = _; unfold bN; rw [ma, mb]
    by_cases hlt : A < B
    · have HC : Hid (cmpI A B = -1) := by show _ = _; unfold cmpI; rw [if_pos hlt]
      have hn : ((bN A B 256 : Nat) : Int) = 1 := by rw [HN.out, if_pos hlt]; rfl
      clear HN hlt heq ma mb hA hB
      go_enter Try.func57, Try.ntmps57
      go_wp2_with (first
        | refine wpList_box_row rfl 24 _ rfl _ rfl ?_
        | refine wpList_loadR rfl 24 _ rfl _ rfl rA 4 _ Try.underlying24 (by exact size_nat) ?_
        | refine wpList_loadR rfl 24 _ rfl _ rfl rB 4 _ Try.underlying24 (by exact size_nat) ?_
        | refine wpList_value rfl (.bool false) ((exec_eql_nat _ _ _ rfl A B rfl rfl _).trans (by rw [HD.out])) ?_
        | (go_at_call 49; refine (nsub_any _ _ _ HB.out).mono ?_; rintro e w2 ⟨rfl, hb2⟩; have b2 := below_on (below_alloc2 _ _) (Nat.le_refl _) hb2; clear hb2)
        | refine wpList_alloc_row rfl 24 rfl _ zero_nat ?_
        | refine wpList_store_new rfl 24 _ _ rfl _ rfl rfl _ _ (by exact size_nat) (by simp only [natC_size]) (natC_one _) ?_)
      go_ret
      exact ⟨by rw [HC.out]; rfl, b2.alloc b2.size _⟩
    · have HC : Hid (cmpI A B = 1) := by show _ = _; unfold cmpI; rw [if_neg hlt, if_pos (by omega)]
      have hn : ((bN A B 256 : Nat) : Int) = 0 := by rw [HN.out, if_neg hlt]; rfl
      clear HN hlt heq ma mb hA hB
      go_enter Try.func57, Try.ntmps57
      go_wp2_with (first
        | refine wpList_box_row rfl 24 _ rfl _ rfl ?_
        | refine wpList_loadR rfl 24 _ rfl _ rfl rA 4 _ Try.underlying24 (by exact size_nat) ?_
        | refine wpList_loadR rfl 24 _ rfl _ rfl rB 4 _ Try.underlying24 (by exact size_nat) ?_
        | refine wpList_value rfl (.bool false) ((exec_eql_nat _ _ _ rfl A B rfl rfl _).trans (by rw [HD.out])) ?_
        | (go_at_call 49; refine (nsub_any _ _ _ HB.out).mono ?_; rintro e w2 ⟨rfl, hb2⟩; have b2 := below_on (below_alloc2 _ _) (Nat.le_refl _) hb2; clear hb2)
        | refine wpList_alloc_row rfl 24 rfl _ zero_nat ?_
        | refine wpList_store_new rfl 24 _ _ rfl _ rfl rfl _ _ (by exact size_nat) (by simp only [natC_size]) (natC_one _) ?_)
      go_ret
      exact ⟨by rw [HC.out]; rfl, b2.alloc b2.size _⟩
end Go.Proofs.Ytmmjjohnejimdaa
