/- The document's Add: the sum, bit by bit. -/
import Derived.Test.YtojobffihlmfgaaGA
import Derived.Deep.DeepCutAuto
import Derived.Deep.RegionLaw
namespace Go.Proofs.Ytojobffihlmfgaa
open Go.RowKit
end Go.Proofs.Ytojobffihlmfgaa
/- The document's Int: an int as a natural. -/
namespace Go.Proofs.Ytojobffihlmfgaa
open Go.RowKit
end Go.Proofs.Ytojobffihlmfgaa
/- The document's Not: all bits turned. -/
namespace Go.Proofs.Ytojobffihlmfgaa
open Go.RowKit
/-- All 256 bits turned. -/
def flip (N : Nat) : Nat := 2 ^ 256 - 1 - N % 2 ^ 256
/-- The first k bits turned. -/
def flipTo (N k : Nat) : Nat := flip N % 2 ^ k + N / 2 ^ k * 2 ^ k
end Go.Proofs.Ytojobffihlmfgaa
/- The document's Cmp and Sub. -/
namespace Go.Proofs.Ytojobffihlmfgaa
open Go.RowKit
/-- Which of two is greater. -/
def cmpI (A B : Nat) : Int := if A < B then -1 else if B < A then 1 else 0
end Go.Proofs.Ytojobffihlmfgaa
/- The document's Len, Bit and Low. -/
namespace Go.Proofs.Ytojobffihlmfgaa
open Go.RowKit
/-- One bit, as an int. -/
def bitI (A : Nat) (k : Int) : Int := if 0 ≤ k ∧ k < 256 ∧ A.testBit k.toNat = true then 1 else 0
end Go.Proofs.Ytojobffihlmfgaa
/- nat.Add and nat.Sub: the limbs' sums and rests, carried. -/
namespace Go.Proofs.Ytojobffihlmfgaa
open Go.RowKit
end Go.Proofs.Ytojobffihlmfgaa
/- nat.Of, nat.Int, nat.Cmp, nat.Bit; two naturals held against each other. -/
namespace Go.Proofs.Ytojobffihlmfgaa
open Go.RowKit
theorem natC_eq (X Y : Nat) : natC X = natC Y ↔ X % 2 ^ 256 = Y % 2 ^ 256 := ⟨natC_inj, fun h => by rw [← natC_full X, ← natC_full Y, h]⟩
theorem natC_lms (X Y : Nat) : (lm X 0 = lm Y 0 ∧ lm X 1 = lm Y 1 ∧ lm X 2 = lm Y 2 ∧ lm X 3 = lm Y 3) ↔ X % 2 ^ 256 = Y % 2 ^ 256 := by
 rw [← natC_eq]
 constructor
 ·rintro ⟨h0, h1, h2, h3⟩
  unfold natC
  rw [h0, h1, h2, h3]
 ·intro h
  have hl : ∀ i, i < 4 → lm X i = lm Y i := fun i hi => by
   have h1 := natC_get X i hi
   rw [h, natC_get Y i hi] at h1
   simp only [Option.some.injEq, Value.int.injEq, true_and] at h1
   omega
  exact ⟨hl 0 (by omega), hl 1 (by omega), hl 2 (by omega), hl 3 (by omega)⟩
set_option maxHeartbeats 1000000 in
theorem equal_nat (X Y : Nat) (w : World) : (Op.equalIn 10000 51 (.agg (natC X)) (.agg (natC Y))).run Try.prog w = .ok (decide (X % 2 ^ 256 = Y % 2 ^ 256)) w := by
 have h := natC_lms X Y
 rw [show decide (X % 2 ^ 256 = Y % 2 ^ 256) = decide (lm X 0 = lm Y 0 ∧ lm X 1 = lm Y 1 ∧ lm X 2 = lm Y 2 ∧ lm X 3 = lm Y 3) from decide_eq_decide.2 h.symm]
 clear h
 have u3 := Try.underlying49
 have a3 := Try.isAgg49
 have z3 := Try.sizeOf49
 unfold natC
 rw [show (10000 : Nat) = 9999 + 1 from rfl, Op.equalIn]
 simp only [Sem.run_bind, run_underlying Try.underlying51, Result.andThen_ok]
 simp only [Std.Legacy.Range.forIn_eq_forIn_range', Std.Legacy.Range.size, Nat.sub_zero, Nat.add_sub_cancel, Nat.div_one, List.range'_succ, List.range'_zero, List.forIn_cons, List.forIn_nil]
 go_simp
 by_cases h1 : lm X 0 = lm Y 0 <;> by_cases h2 : lm X 1 = lm Y 1 <;> by_cases h3 : lm X 2 = lm Y 2 <;> by_cases h4 : lm X 3 = lm Y 3 <;> simp [h1, h2, h3, h4] <;> omega
theorem exec_neq_nat {o : Oper} {ρ : Operand → Value} (x y : Operand) (u : TypeId) (ho : o.op = .binOp .neq 51 x y u) (X Y : Nat) (hx : ρ x = .agg (natC X)) (hy : ρ y = .agg (natC Y)) (w : World) :
  (execOp ρ o).run Try.prog w = .ok (.value (.bool (!decide (X % 2 ^ 256 = Y % 2 ^ 256)))) w := by
 unfold execOp
 simp only [ho, hx, hy]
 simp [eqGuard, run_neq_struct, equal_nat]
theorem wpList_value {P : Program} {ops : Array Oper} {rest : List Oper} {o : Oper} {a : Act} {w : World} {Q : Exit → Act → World → Prop} (hgd : o.guard = none) (v : Value)
  (hr : (execOp a.eval o).run P w = .ok (.value v) w) (h : wpList P ops Q rest (a.put o.dst v) w) : wpList P ops Q (o :: rest) a w :=
 wpList_plain hgd fun _ hK => by unfold Oper.wp; rw [hr]; exact hK _ _ h
end Go.Proofs.Ytojobffihlmfgaa
/- nat.Int, and the document's Sub. -/
namespace Go.Proofs.Ytojobffihlmfgaa
open Go.RowKit
/-- A natural as an int, if it is one. -/
def lowI (A : Nat) : Int := if A < 9223372036854775808 then A else 0
def lowB (A : Nat) : Bool := decide (A < 9223372036854775808)
end Go.Proofs.Ytojobffihlmfgaa
/- bits.Len64 and nat.Len. -/
namespace Go.Proofs.Ytojobffihlmfgaa
open Go.RowKit
/-- A byte of the library's table of bit lengths. -/
theorem exec_index_tab {P : Program} {o : Oper} {ρ : Operand → Value} (t : TypeId) (x ix : Operand) (ho : o.op = .index t x ix) (hu : P.underlying t = some .string) (S : ByteArray) (hx : ρ x = .string S)
  (hS : S.data.toList.map UInt8.toNat = (List.range 256).map bitLen) (k : IntKind) (i : Int) (hi : ρ ix = .int k i) (h0 : 0 ≤ i) (h1 : i < 256) (w : World) :
  (execOp ρ o).run P w = .ok (.value (.int .u8 (bitLen i.toNat))) w := by
 have hsz : S.size = 256 := by
  have := congrArg List.length hS
  simpa using this
 have hlt : i.toNat < S.size := by omega
 have hget : (S[i.toNat]'hlt).toNat = bitLen i.toNat := by
  have h2 := congrArg (fun l : List Nat => l[i.toNat]?) hS
  simp only [List.getElem?_map] at h2
  rw [List.getElem?_range (by omega)] at h2
  have h3 : S.data.toList[i.toNat]? = some (S[i.toNat]'hlt) := by
   rw [Array.getElem?_toList]
   exact Array.getElem?_eq_getElem hlt
  rw [h3] at h2
  simpa using h2
 unfold execOp
 simp only [ho, hx, hi, Sem.run_bind]
 rw [run_index_string w t S k i hu, dif_pos ⟨h0, by omega⟩, hget]
 rfl
theorem ret_int {k : IntKind} {a b : Int} (h : a = b) : Ending.returned (.int k a) = .returned (.int k b) := by rw [h]
theorem wrap64_small (q n : Nat) (hq : q ≤ 8) (hn : n ≤ 56) : wrap64 ((n : Int) + wrap64 (q : Int)) = ((n + q : Nat) : Int) := by unfold wrap64; omega
theorem wrap64_small0 (q : Nat) (hq : q ≤ 8) : wrap64 (wrap64 (q : Int)) = (q : Int) := by unfold wrap64; omega
set_option maxRecDepth 1000000 in
set_option maxHeartbeats 1000000 in
theorem len64_0 (x : Nat) (w : World) (h0 : 0 ≤ x) (h1 : x < 256) :
  Calls Try.prog 76 #[.int .u64 x] w fun e w' => e = .returned (.int .i64 (bitLen x)) ∧ w' = w := by
 have t0 : ¬ (4294967296 : Int) ≤ (x : Int) := by omega
 have t1 : ¬ (65536 : Int) ≤ (x : Int) := by omega
 have t2 : ¬ (256 : Int) ≤ (x : Int) := by omega
 have HX : Hid (0 ≤ (x : Int) ∧ (x : Int) < 256) := ⟨by omega, by omega⟩
 have HE : Hid (x = x / 1) := by show _ = _; omega
 have HB8 : Hid (bitLen (x / 1) ≤ 8) := bitLen_le8 _ (by omega)
 have HB : Hid (bitLen x = 0 + bitLen (x / 1)) := by
  show _ = _
  rw [Nat.div_one]; omega
 clear h0 h1
 go_enter Try.func76, Try.ntmps76
 go_wp2_with (first
  | (refine wpList_value rfl _ (exec_index_tab 9 _ _ rfl Try.underlying9 _ rfl ?_ _ _ rfl ?_ ?_ _) ?_; (· kernel_rfl); (· exact HX.out.1); (· exact HX.out.2)))
 go_ret
 have hb := HB8.out
 rw [Nat.div_one] at hb
 exact ⟨ret_int (wrap64_small0 _ hb), rfl⟩
set_option maxRecDepth 1000000 in
set_option maxHeartbeats 1000000 in
theorem len64_1 (x : Nat) (w : World) (h0 : 256 ≤ x) (h1 : x < 65536) :
  Calls Try.prog 76 #[.int .u64 x] w fun e w' => e = .returned (.int .i64 (bitLen x)) ∧ w' = w := by
 have t0 : ¬ (4294967296 : Int) ≤ (x : Int) := by omega
 have t1 : ¬ (65536 : Int) ≤ (x : Int) := by omega
 have t2 : (256 : Int) ≤ (x : Int) := by omega
 have HX : Hid (0 ≤ (x : Int) / 256 ∧ (x : Int) / 256 < 256) := ⟨by omega, by omega⟩
 have HB8 : Hid (bitLen (x / 256) ≤ 8) := bitLen_le8 _ (by omega)
 have HB : Hid (bitLen x = 8 + bitLen (x / 256)) := by
  show _ = _
  exact bitLen_shift x 8 (show x / 256 ≠ 0 by omega)
 clear h0 h1
 go_enter Try.func76, Try.ntmps76
 go_wp2_with (first
  | (refine wpList_value rfl _ (exec_index_tab 9 _ _ rfl Try.underlying9 _ rfl ?_ _ _ rfl ?_ ?_ _) ?_; (· kernel_rfl); (· exact HX.out.1); (· exact HX.out.2)))
 go_ret
 refine ⟨ret_int ?_, rfl⟩
 rw [HB.out]
 exact wrap64_small _ 8 HB8.out (by decide)
set_option maxRecDepth 1000000 in
set_option maxHeartbeats 1000000 in
theorem len64_2 (x : Nat) (w : World) (h0 : 65536 ≤ x) (h1 : x < 16777216) :
  Calls Try.prog 76 #[.int .u64 x] w fun e w' => e = .returned (.int .i64 (bitLen x)) ∧ w' = w := by
 have t0 : ¬ (4294967296 : Int) ≤ (x : Int) := by omega
 have t1 : (65536 : Int) ≤ (x : Int) := by omega
 have t2 : ¬ (256 : Int) ≤ (x : Int) / 65536 := by omega
 have HX : Hid (0 ≤ (x : Int) / 65536 ∧ (x : Int) / 65536 < 256) := ⟨by omega, by omega⟩
 have HB8 : Hid (bitLen (x / 65536) ≤ 8) := bitLen_le8 _ (by omega)
 have HB : Hid (bitLen x = 16 + bitLen (x / 65536)) := by
  show _ = _
  exact bitLen_shift x 16 (show x / 65536 ≠ 0 by omega)
 clear h0 h1
 go_enter Try.func76, Try.ntmps76
 go_wp2_with (first
  | (refine wpList_value rfl _ (exec_index_tab 9 _ _ rfl Try.underlying9 _ rfl ?_ _ _ rfl ?_ ?_ _) ?_; (· kernel_rfl); (· exact HX.out.1); (· exact HX.out.2)))
 go_ret
 refine ⟨ret_int ?_, rfl⟩
 rw [HB.out]
 exact wrap64_small _ 16 HB8.out (by decide)
set_option maxRecDepth 1000000 in
set_option maxHeartbeats 1000000 in
theorem len64_3 (x : Nat) (w : World) (h0 : 16777216 ≤ x) (h1 : x < 4294967296) :
  Calls Try.prog 76 #[.int .u64 x] w fun e w' => e = .returned (.int .i64 (bitLen x)) ∧ w' = w := by
 have t0 : ¬ (4294967296 : Int) ≤ (x : Int) := by omega
 have t1 : (65536 : Int) ≤ (x : Int) := by omega
 have t2 : (256 : Int) ≤ (x : Int) / 65536 := by omega
 have HX : Hid (0 ≤ (x : Int) / 65536 / 256 ∧ (x : Int) / 65536 / 256 < 256) := ⟨by omega, by omega⟩
 have HE : Hid (x / 65536 / 256 = x / 16777216) := by show _ = _; omega
 have HB8 : Hid (bitLen (x / 16777216) ≤ 8) := bitLen_le8 _ (by omega)
 have HB : Hid (bitLen x = 24 + bitLen (x / 16777216)) := by
  show _ = _
  exact bitLen_shift x 24 (show x / 16777216 ≠ 0 by omega)
 clear h0 h1
 go_enter Try.func76, Try.ntmps76
 go_wp2_with (first
  | (refine wpList_value rfl _ (exec_index_tab 9 _ _ rfl Try.underlying9 _ rfl ?_ _ _ rfl ?_ ?_ _) ?_; (· kernel_rfl); (· exact HX.out.1); (· exact HX.out.2)))
 go_ret
 refine ⟨ret_int ?_, rfl⟩
 have hb := HB8.out
 rw [HB.out]
 rw [← HE.out] at hb ⊢
 exact wrap64_small _ 24 hb (by decide)
set_option maxRecDepth 1000000 in
set_option maxHeartbeats 1000000 in
theorem len64_4 (x : Nat) (w : World) (h0 : 4294967296 ≤ x) (h1 : x < 1099511627776) :
  Calls Try.prog 76 #[.int .u64 x] w fun e w' => e = .returned (.int .i64 (bitLen x)) ∧ w' = w := by
 have t0 : (4294967296 : Int) ≤ (x : Int) := by omega
 have t1 : ¬ (65536 : Int) ≤ (x : Int) / 4294967296 := by omega
 have t2 : ¬ (256 : Int) ≤ (x : Int) / 4294967296 := by omega
 have HX : Hid (0 ≤ (x : Int) / 4294967296 ∧ (x : Int) / 4294967296 < 256) := ⟨by omega, by omega⟩
 have HB8 : Hid (bitLen (x / 4294967296) ≤ 8) := bitLen_le8 _ (by omega)
 have HB : Hid (bitLen x = 32 + bitLen (x / 4294967296)) := by
  show _ = _
  exact bitLen_shift x 32 (show x / 4294967296 ≠ 0 by omega)
 clear h0 h1
 go_enter Try.func76, Try.ntmps76
 go_wp2_with (first
  | (refine wpList_value rfl _ (exec_index_tab 9 _ _ rfl Try.underlying9 _ rfl ?_ _ _ rfl ?_ ?_ _) ?_; (· kernel_rfl); (· exact HX.out.1); (· exact HX.out.2)))
 go_ret
 refine ⟨ret_int ?_, rfl⟩
 rw [HB.out]
 exact wrap64_small _ 32 HB8.out (by decide)
set_option maxRecDepth 1000000 in
set_option maxHeartbeats 1000000 in
theorem len64_5 (x : Nat) (w : World) (h0 : 1099511627776 ≤ x) (h1 : x < 281474976710656) :
  Calls Try.prog 76 #[.int .u64 x] w fun e w' => e = .returned (.int .i64 (bitLen x)) ∧ w' = w := by
 have t0 : (4294967296 : Int) ≤ (x : Int) := by omega
 have t1 : ¬ (65536 : Int) ≤ (x : Int) / 4294967296 := by omega
 have t2 : (256 : Int) ≤ (x : Int) / 4294967296 := by omega
 have HX : Hid (0 ≤ (x : Int) / 4294967296 / 256 ∧ (x : Int) / 4294967296 / 256 < 256) := ⟨by omega, by omega⟩
 have HE : Hid (x / 4294967296 / 256 = x / 1099511627776) := by show _ = _; omega
 have HB8 : Hid (bitLen (x / 1099511627776) ≤ 8) := bitLen_le8 _ (by omega)
 have HB : Hid (bitLen x = 40 + bitLen (x / 1099511627776)) := by
  show _ = _
  exact bitLen_shift x 40 (show x / 1099511627776 ≠ 0 by omega)
 clear h0 h1
 go_enter Try.func76, Try.ntmps76
 go_wp2_with (first
  | (refine wpList_value rfl _ (exec_index_tab 9 _ _ rfl Try.underlying9 _ rfl ?_ _ _ rfl ?_ ?_ _) ?_; (· kernel_rfl); (· exact HX.out.1); (· exact HX.out.2)))
 go_ret
 refine ⟨ret_int ?_, rfl⟩
 have hb := HB8.out
 rw [HB.out]
 rw [← HE.out] at hb ⊢
 exact wrap64_small _ 40 hb (by decide)
set_option maxRecDepth 1000000 in
set_option maxHeartbeats 1000000 in
theorem len64_6 (x : Nat) (w : World) (h0 : 281474976710656 ≤ x) (h1 : x < 72057594037927936) :
  Calls Try.prog 76 #[.int .u64 x] w fun e w' => e = .returned (.int .i64 (bitLen x)) ∧ w' = w := by
 have t0 : (4294967296 : Int) ≤ (x : Int) := by omega
 have t1 : (65536 : Int) ≤ (x : Int) / 4294967296 := by omega
 have t2 : ¬ (256 : Int) ≤ (x : Int) / 4294967296 / 65536 := by omega
 have HX : Hid (0 ≤ (x : Int) / 4294967296 / 65536 ∧ (x : Int) / 4294967296 / 65536 < 256) := ⟨by omega, by omega⟩
 have HE : Hid (x / 4294967296 / 65536 = x / 281474976710656) := by show _ = _; omega
 have HB8 : Hid (bitLen (x / 281474976710656) ≤ 8) := bitLen_le8 _ (by omega)
 have HB : Hid (bitLen x = 48 + bitLen (x / 281474976710656)) := by
  show _ = _
  exact bitLen_shift x 48 (show x / 281474976710656 ≠ 0 by omega)
 clear h0 h1
 go_enter Try.func76, Try.ntmps76
 go_wp2_with (first
  | (refine wpList_value rfl _ (exec_index_tab 9 _ _ rfl Try.underlying9 _ rfl ?_ _ _ rfl ?_ ?_ _) ?_; (· kernel_rfl); (· exact HX.out.1); (· exact HX.out.2)))
 go_ret
 refine ⟨ret_int ?_, rfl⟩
 have hb := HB8.out
 rw [HB.out]
 rw [← HE.out] at hb ⊢
 exact wrap64_small _ 48 hb (by decide)
set_option maxRecDepth 1000000 in
set_option maxHeartbeats 1000000 in
theorem len64_7 (x : Nat) (w : World) (h0 : 72057594037927936 ≤ x) (h1 : x < 18446744073709551616) :
  Calls Try.prog 76 #[.int .u64 x] w fun e w' => e = .returned (.int .i64 (bitLen x)) ∧ w' = w := by
 have t0 : (4294967296 : Int) ≤ (x : Int) := by omega
 have t1 : (65536 : Int) ≤ (x : Int) / 4294967296 := by omega
 have t2 : (256 : Int) ≤ (x : Int) / 4294967296 / 65536 := by omega
 have HX : Hid (0 ≤ (x : Int) / 4294967296 / 65536 / 256 % 256 ∧ (x : Int) / 4294967296 / 65536 / 256 % 256 < 256) := ⟨by omega, by omega⟩
 have HE : Hid (x / 4294967296 / 65536 / 256 % 256 = x / 72057594037927936) := by show _ = _; omega
 have HB8 : Hid (bitLen (x / 72057594037927936) ≤ 8) := bitLen_le8 _ (by omega)
 have HB : Hid (bitLen x = 56 + bitLen (x / 72057594037927936)) := by
  show _ = _
  exact bitLen_shift x 56 (show x / 72057594037927936 ≠ 0 by omega)
 clear h0 h1
 go_enter Try.func76, Try.ntmps76
 go_wp2_with (first
  | (refine wpList_value rfl _ (exec_index_tab 9 _ _ rfl Try.underlying9 _ rfl ?_ _ _ rfl ?_ ?_ _) ?_; (· kernel_rfl); (· exact HX.out.1); (· exact HX.out.2)))
 go_ret
 refine ⟨ret_int ?_, rfl⟩
 have hb := HB8.out
 rw [HB.out]
 rw [← HE.out] at hb ⊢
 exact wrap64_small _ 56 hb (by decide)
theorem len64_any (x : Nat) (w : World) (h : x < 18446744073709551616) :
  Calls Try.prog 76 #[.int .u64 x] w fun e w' => e = .returned (.int .i64 (bitLen x)) ∧ w' = w := by
 by_cases h0 : x < 256
 ·exact len64_0 x w (by omega) h0
 by_cases h1 : x < 65536
 ·exact len64_1 x w (by omega) h1
 by_cases h2 : x < 16777216
 ·exact len64_2 x w (by omega) h2
 by_cases h3 : x < 4294967296
 ·exact len64_3 x w (by omega) h3
 by_cases h4 : x < 1099511627776
 ·exact len64_4 x w (by omega) h4
 by_cases h5 : x < 281474976710656
 ·exact len64_5 x w (by omega) h5
 by_cases h6 : x < 72057594037927936
 ·exact len64_6 x w (by omega) h6
 exact len64_7 x w (by omega) h
theorem bitLen_64 (x : Nat) (h : x < 18446744073709551616) : bitLen x ≤ 64 := by
 unfold bitLen
 split
 ·omega
 ·rename_i h0
  have := (Nat.log2_lt h0).2 (show x < 2 ^ 64 from h)
  omega
theorem lm_top (A k : Nat) (h : A < 2 ^ (64 * (k + 1))) : lm A k = A / 2 ^ (64 * k) := by
 unfold lm
 refine Nat.mod_eq_of_lt (Nat.div_lt_of_lt_mul ?_)
 rw [← Nat.pow_add]
 exact h
theorem bitLen_lm (A k : Nat) (h : A < 2 ^ (64 * (k + 1))) (h0 : lm A k ≠ 0) : bitLen A = 64 * k + bitLen (lm A k) := by
 rw [lm_top A k h] at h0 ⊢
 exact bitLen_shift A (64 * k) h0
theorem lm_down (A k : Nat) (h : A < 2 ^ (64 * (k + 1))) (h0 : lm A k = 0) : A < 2 ^ (64 * k) := by
 rw [lm_top A k h] at h0
 exact (Nat.div_eq_zero_iff_lt (Nat.two_pow_pos _)).1 h0
set_option maxRecDepth 100000 in
set_option maxHeartbeats 400000 in
theorem nlen_any (A : Nat) (w : World) (hA : A < 2 ^ 256) :
  Calls Try.prog 72 #[.agg (natC A)] w fun e w' => e = .returned (.int .i64 (bitLen A)) ∧ Below w.heap.size w w' := by
 have HA : Hid (A < 2 ^ 256) := hA
 clear hA
 go_enter Try.func72, Try.ntmps72
 go_wp2_with (first
  | refine wpList_box_row rfl 51 _ rfl _ rfl ?_)
 go_loopg [5] 4 (fun g s5 wr => ∃ k : Nat, k + g = 4 ∧ s5 = .int .i64 k ∧ A < 2 ^ (64 * g) ∧ Row wr w.heap.size (natC A) 51 ∧ Below w.heap.size w wr)
 case atStart => exact ⟨0, by omega, rfl, HA.out, Row.new _ _ _, below_alloc _⟩
 case round =>
  obtain ⟨k, hk, rfl, hlt, r0, hb⟩ := hrel
  cases gk with
  | zero =>
   obtain rfl : k = 4 := by omega
   obtain rfl : A = 0 := by simpa using hlt
   clear hlt hk HA
   have hx : ¬ ((4 : Int) < 4) := by omega
   go_wp2
   go_ret
   exact ⟨rfl, hb⟩
  | succ g =>
   have hk4 : (k : Int) < 4 := by omega
   have hc0 := cell_nat r0 g (by omega)
   have hsub : (3 : Int) - k = g := by omega
   have hl := lm_lt A g
   by_cases h0 : lm A g = 0
   ·have R : Aside (A < 2 ^ (64 * g) ∧ Row wr w.heap.size (natC A) 51 ∧ Below w.heap.size w wr) := ⟨lm_down A g hlt h0, r0, hb⟩
    rw [h0] at hc0
    clear r0 hb hlt HA h0 hl
    go_wp2
    obtain ⟨h1, r0, hb⟩ := R.out
    go_roundg g
    case measure => omega
    case rel => exact ⟨k + 1, by omega, by go_num, h1, r0, hb⟩
   ·have R : Aside (bitLen A = 64 * g + bitLen (lm A g) ∧ bitLen (lm A g) ≤ 64 ∧ Below w.heap.size w wr) := ⟨bitLen_lm A g hlt h0, ?_, hb⟩
    ·have hne : ((lm A g : Nat) : Int) ≠ 0 := by omega
     have HL : Hid (lm A g < 18446744073709551616) := hl
     clear r0 hb hlt HA h0 hl
     go_wp2_with (first
      | (go_at_call 76; refine (len64_any _ _ HL.out).mono ?_; rintro e w2 ⟨rfl, rfl⟩))
     go_ret
     obtain ⟨h1, h2, hb⟩ := R.out
     refine ⟨ret_int ?_, hb⟩
     rw [h1]
     unfold wrap64
     omega
    ·exact bitLen_64 _ hl
end Go.Proofs.Ytojobffihlmfgaa
