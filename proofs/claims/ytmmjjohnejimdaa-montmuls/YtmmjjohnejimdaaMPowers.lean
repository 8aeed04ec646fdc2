/- mont's powers: what it lays, and the closure that it hands back. -/
import Derived.Test.YtmmjjohnejimdaaMPower
namespace Go.Proofs.Ytmmjjohnejimdaa
open Go.RowKit

theorem info_k16 : (Try.prog.info? 86).map (fun i => (i.zero, i.size, i.bytes)) = some (some (.agg (Array.replicate 64 (.int .u64 0))), 64, 512) := by kernel_rfl
theorem info_int : (Try.prog.info? 3).map (fun i => (i.zero, i.size, i.bytes)) = some (some (.int .i64 0), 1, 8) := by kernel_rfl
theorem make_k (n : Nat) (hn : n ≤ 64) (w : World) : (Instr.makeSlice 84 (.int .i64 n) (.int .i64 n)).run Try.prog w = .ok (.slice (some ⟨w.heap.size, 0, none⟩) n n) (w.alloc (.cells (nsC (16 * n) fun _ => 0) 86)) := by
  cases hi : Try.prog.info? 86 with
  | none => have := info_k16; rw [hi] at this; cases this
  | some i =>
    have h := info_k16
    rw [hi] at h
    simp only [Option.map_some, Option.some.injEq, Prod.mk.injEq] at h
    obtain ⟨h1, h2, h3⟩ := h
    have hr := run_makeSlice (P := Try.prog) w 84 86 i _ Try.underlying84 hi h1 .i64 .i64 (n : Int) (n : Int) (by omega) (by omega) (by rw [Int.toNat_natCast, h2]; omega) (by rw [h3]; omega) (by omega)
    rw [Int.toNat_natCast, h2] at hr
    rw [hr, made_ns (16 * n) (n * 64) _ (fun j hj => by simp [Value.cells] at hj ⊢; simp [hj]) (by simp [Value.cells]) (by omega)]
theorem make_u (n : Nat) (hn : n ≤ 64) (w : World) : (Instr.makeSlice 85 (.int .i64 n) (.int .i64 n)).run Try.prog w = .ok (.slice (some ⟨w.heap.size, 0, none⟩) n n) (w.alloc (.cells (isC n fun _ => 0) 3)) := by
  cases hi : Try.prog.info? 3 with
  | none => have := info_int; rw [hi] at this; cases this
  | some i =>
    have h := info_int
    rw [hi] at h
    simp only [Option.map_some, Option.some.injEq, Prod.mk.injEq] at h
    obtain ⟨h1, h2, h3⟩ := h
    have hr := run_makeSlice (P := Try.prog) w 85 3 i _ Try.underlying85 hi h1 .i64 .i64 (n : Int) (n : Int) (by omega) (by omega) (by rw [Int.toNat_natCast, h2]; omega) (by rw [h3]; omega) (by omega)
    rw [Int.toNat_natCast, h2, Nat.mul_one] at hr
    rw [hr, show (Value.int .i64 0).cells = #[.int .i64 0] from rfl, made_is]

/-- The rows that powers lays, one behind the other. -/
structure PwN (w' : World) (s n g0 : Nat) (bv : Value) : Prop where
  r : Row w' s #[.pointer (some ⟨g0, 0, none⟩)] 41
  b : Row w' (s + 1) #[bv] 65
  rk : Row w' (s + 1 + 1) (nsC (16 * n) fun _ => 0) 86
  k : Row w' (s + 1 + 1 + 1) #[.slice (some ⟨s + 1 + 1, 0, none⟩) n n] 84
  ru : Row w' (s + 1 + 1 + 1 + 1) (isC n fun _ => 0) 3
  u : Row w' (s + 1 + 1 + 1 + 1 + 1) #[.slice (some ⟨s + 1 + 1 + 1 + 1, 0, none⟩) n n] 85

set_option maxRecDepth 100000 in
set_option maxHeartbeats 1000000 in
theorem powers_any (n g0 cb : Nat) (ab : Option Addr) (w : World) (hn : n ≤ 64) :
    Calls Try.prog 70 #[.pointer (some ⟨g0, 0, none⟩), .slice ab n cb] w fun e w' =>
      e = .returned (.func (.func 76) #[] #[.pointer (some ⟨w.heap.size + 1 + 1 + 1 + 1 + 1, 0, none⟩), .pointer (some ⟨w.heap.size, 0, none⟩), .pointer (some ⟨w.heap.size + 1, 0, none⟩), .pointer (some ⟨w.heap.size + 1 + 1 + 1, 0, none⟩)]) ∧
      PwN w' w.heap.size n g0 (.slice ab n cb) ∧ Below w.heap.size w w' := by
  have hk := make_k n hn
  have hu := make_u n hn
  go_enter Try.func70, Try.ntmps70
  go_wp2
  go_ret
  exact ⟨rfl, ⟨((((((Row.here (by first | rfl | simp only [alloc_size])).alloc _).alloc _).alloc _).alloc _).alloc _), (((((Row.here (by first | rfl | simp only [alloc_size])).alloc _).alloc _).alloc _).alloc _), ((((Row.here (by first | rfl | simp only [alloc_size])).alloc _).alloc _).alloc _), (((Row.here (by first | rfl | simp only [alloc_size])).alloc _).alloc _), ((Row.here (by first | rfl | simp only [alloc_size])).alloc _), (Row.here (by first | rfl | simp only [alloc_size]))⟩, (by repeat (first | exact Below.refl _ _ | refine Below.alloc ?_ (by simp <;> omega) _))⟩

theorem exec_shr_u {P : Program} {o : Oper} {ρ : Operand → Value} (t : TypeId) (x y : Operand) (u : TypeId) (ho : o.op = .binOp .shr t x y u) (n s : Nat) (hx : ρ x = .int .u64 n) (hy : ρ y = .int .i64 s) (hs : s < 64) (w : World) :
    (execOp ρ o).run P w = .ok (.value (.int .u64 ((n / 2 ^ s : Nat) : Int))) w := by
  unfold execOp
  simp only [ho, hx, hy]
  simp [go_sem]
theorem exec_conv_ui {o : Oper} {ρ : Operand → Value} (x : Operand) (ho : o.op = .convert 22 3 x) (n : Nat) (hx : ρ x = .int .u64 n) (h : n < 9223372036854775808) (w : World) :
    (execOp ρ o).run Try.prog w = .ok (.value (.int .i64 n)) w := by
  have u1 := Try.underlying22
  have u2 := Try.underlying3
  unfold execOp
  simp only [ho, hx]
  simp [convert, run_underlying u1, run_underlying u2, go_sem]
  rw [IntKind.wrap_i64]
  omega
theorem digit_go (A k : Nat) : lm A (k * 4 / 64) / 2 ^ (k * 4 % 64) % 16 = A / 2 ^ (4 * k) % 16 := by
  apply Nat.eq_of_testBit_eq
  intro j
  rw [show 16 = 2 ^ 4 from rfl, Nat.testBit_mod_two_pow, Nat.testBit_mod_two_pow, Nat.testBit_div_two_pow, Nat.testBit_div_two_pow, lm_testBit]
  by_cases hj : j < 4
  · simp only [hj, decide_true, Bool.true_and, show j + k * 4 % 64 < 64 by omega]
    congr 1; omega
  · simp [hj]

set_option maxRecDepth 100000 in
set_option maxHeartbeats 400000 in
theorem digit_any (A k : Nat) (w : World) (hk : k < 64) :
    Calls Try.prog 72 #[.agg (natC A), .int .i64 k] w fun e w' => e = .returned (.int .i64 (A / 2 ^ (4 * k) % 16 : Nat)) ∧ Below w.heap.size w w' := by
  have HD := digit_go A k
  have HD' : Hid (lm A (k * 4 / 64) / 2 ^ (k * 4 % 64) % 16 = A / 2 ^ (4 * k) % 16) := HD
  clear HD
  have hl := lm_lt A (k * 4 / 64)
  have c0 : ((w.alloc (.cells (natC A) 24))).cell? ⟨w.heap.size, k * 4 / 64, none⟩ = some (.int .u64 (lm A (k * 4 / 64))) := cell_nat (Row.new w (natC A) 24) (k * 4 / 64) (by omega)
  go_enter Try.func72, Try.ntmps72
  (repeat ((fail_if_success (with_reducible show Code.wp _ (Code.region _ _ _) _ _ _)); go_step))
  apply wp_region_mixq [] [_, _] trivial List.nodup_nil rfl
  intro p
  refine mx_box 24 _ rfl _ rfl ?_
  simp only [Act.put, List.setIfInBounds_toArray, List.set_cons_zero, List.set_cons_succ]
  refine mx_val (.int .i64 0) (fun _ => rfl) ?_
  simp only [Act.put, List.setIfInBounds_toArray, List.set_cons_zero, List.set_cons_succ]
  refine mx_end ?_
  intro vw1 hkw hrw hnew hdis
  have n2 := hnew 0 rfl
  have zr2 : Row vw1 (p 0) (natC A) 24 := hrw 1 (24, natC A) rfl
  have sb := hkw.below w.heap.size (Nat.le_refl _) (by simp)
  clear hkw hrw hnew hdis n2
  generalize p 0 = g2 at *
  have r2 := zr2
  clear zr2
  (repeat ((fail_if_success (with_reducible show Code.wp _ (Code.region _ _ _) _ _ _)); go_step))
  apply wp_region_mixq [] [_, _, _, _, _, _] trivial List.nodup_nil rfl
  intro p
  refine mx_move rfl rfl ?_
  simp only [Act.put, List.setIfInBounds_toArray, List.set_cons_zero, List.set_cons_succ]
  refine mx_val (.int .i64 ((k * 4 : Nat) : Int)) (fun w' => (exec_mul_i _ _ _ _ rfl k 4 rfl rfl w').trans (by rw [show ((k : Int) * 4) = ((k * 4 : Nat) : Int) by omega, wrap_i64 _ (by omega)])) ?_
  simp only [Act.put, List.setIfInBounds_toArray, List.set_cons_zero, List.set_cons_succ]
  refine mx_val (.int .i64 ((k * 4 / 64 : Nat) : Int)) (exec_quo_i _ _ _ _ rfl (k * 4) 64 rfl rfl (by omega) (by omega)) ?_
  simp only [Act.put, List.setIfInBounds_toArray, List.set_cons_zero, List.set_cons_succ]
  refine mx_val (.pointer (some ⟨g2, (k * 4 / 64), none⟩)) (exec_index 24 _ _ rfl (g2) rfl ((k * 4 / 64)) 4 rfl (by omega) _ Try.underlying24 Try.sizeOf22) ?_
  simp only [Act.put, List.setIfInBounds_toArray, List.set_cons_zero, List.set_cons_succ]
  refine mx_loadc 22 _ rfl _ ((k * 4 / 64)) rfl r2 (by simp <;> omega) (.int .u64 (lm (A) (k * 4 / 64) : Nat)) (natC_get A (k * 4 / 64) (by omega)) Try.isAgg22 ?_
  simp only [Act.put, List.setIfInBounds_toArray, List.set_cons_zero, List.set_cons_succ]
  refine mx_asg rfl rfl ?_
  simp only [Act.put, List.setIfInBounds_toArray, List.set_cons_zero, List.set_cons_succ]
  refine mx_end ?_
  intro vw2 hkw hrw hnew hdis
  clear r2
  replace sb := sb.trans (hkw.below w.heap.size sb.size (by simp <;> omega))
  clear hkw hrw hnew hdis
  (repeat ((fail_if_success (with_reducible show Code.wp _ (Code.region _ _ _) _ _ _)); go_step))
  apply wp_region_mixq [] [_, _, _, _, _, _, _, _] trivial List.nodup_nil rfl
  intro p
  refine mx_move rfl rfl ?_
  simp only [Act.put, List.setIfInBounds_toArray, List.set_cons_zero, List.set_cons_succ]
  refine mx_move rfl rfl ?_
  simp only [Act.put, List.setIfInBounds_toArray, List.set_cons_zero, List.set_cons_succ]
  refine mx_val (.int .i64 ((k * 4 : Nat) : Int)) (fun w' => (exec_mul_i _ _ _ _ rfl k 4 rfl rfl w').trans (by rw [show ((k : Int) * 4) = ((k * 4 : Nat) : Int) by omega, wrap_i64 _ (by omega)])) ?_
  simp only [Act.put, List.setIfInBounds_toArray, List.set_cons_zero, List.set_cons_succ]
  refine mx_val (.int .i64 ((k * 4 % 64 : Nat) : Int)) (exec_rem_i _ _ _ _ rfl (k * 4) 64 rfl rfl (by omega)) ?_
  simp only [Act.put, List.setIfInBounds_toArray, List.set_cons_zero, List.set_cons_succ]
  refine mx_val (.int .u64 ((lm A (k * 4 / 64) / 2 ^ (k * 4 % 64) : Nat) : Int)) (exec_shr_u _ _ _ _ rfl _ (k * 4 % 64) rfl rfl (by omega)) ?_
  simp only [Act.put, List.setIfInBounds_toArray, List.set_cons_zero, List.set_cons_succ]
  refine mx_val (.int .u64 ((lm A (k * 4 / 64) / 2 ^ (k * 4 % 64) % 16 : Nat) : Int)) (exec_rem_u _ _ _ _ rfl _ 16 rfl rfl (by omega)) ?_
  simp only [Act.put, List.setIfInBounds_toArray, List.set_cons_zero, List.set_cons_succ]
  refine mx_val (.int .i64 ((A / 2 ^ (4 * k) % 16 : Nat) : Int)) (fun w' => (exec_conv_ui _ rfl _ rfl (by omega) w').trans (by rw [HD'.out])) ?_
  simp only [Act.put, List.setIfInBounds_toArray, List.set_cons_zero, List.set_cons_succ]
  refine mx_asg rfl rfl ?_
  simp only [Act.put, List.setIfInBounds_toArray, List.set_cons_zero, List.set_cons_succ]
  refine mx_end ?_
  intro vw3 hkw hrw hnew hdis
  replace sb := sb.trans (hkw.below w.heap.size sb.size (by simp <;> omega))
  clear hkw hrw hnew hdis
  -- the rows that stand: 
  go_wp2
  go_ret
  exact ⟨rfl, sb⟩
end Go.Proofs.Ytmmjjohnejimdaa
