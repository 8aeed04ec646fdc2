/- prime's claims: squareAbove, newClaim, shownBy, Step. -/
import Derived.Test.YtcgeimbfijpocaaPSmall
import Derived.Test.YtcgeimbfijpocaaGT
import Derived.Test.YtcgeimbfijpocaaWDiv
import Derived.Test.YtcgeimbfijpocaaGH
namespace Go.Proofs.Ytcgeimbfijpocaa
open Go.RowKit
/-- The cells of a claim. -/
def clC (q : Option Addr) (F K : Nat) : Array Value := #[.pointer q, .int .u64 (lm F 0), .int .u64 (lm F 1), .int .u64 (lm F 2), .int .u64 (lm F 3), .int .u64 (lm K 0), .int .u64 (lm K 1), .int .u64 (lm K 2), .int .u64 (lm K 3)]
theorem cl_f (q : Option Addr) (F K : Nat) : ∀ j v, (natC F).toList[j]? = some v → (clC q F K)[1 + j]? = some v := part4 rfl rfl rfl rfl
theorem cl_k (q : Option Addr) (F K : Nat) : ∀ j v, (natC K).toList[j]? = some v → (clC q F K)[5 + j]? = some v := part4 rfl rfl rfl rfl
theorem cl_one (q : Option Addr) (F K : Nat) : (clC q F K).all (·.oneCell') = true := by simp [clC, Value.oneCell']
theorem info_cl : (Try.prog.info? 101).map (fun i => (i.zero, i.size)) = some (some (.agg (clC none 0 0)), 9) := by kernel_rfl
theorem zero_cl (w : World) : (zeroValue 101).run Try.prog w = .ok (.agg (clC none 0 0)) w := (zero_of_info info_cl).1 w
theorem size_cl : (Try.prog.info? 101).map (·.size) = some 9 := (zero_of_info info_cl).2
theorem built_cl : Try.prog.built 101 [] = some (clC none 0 0) := by kernel_rfl
theorem part_all (c : Array Value) : ∀ j v, c.toList[j]? = some v → c[0 + j]? = some v := fun j v h => by rw [Nat.zero_add, ← Array.getElem?_toList]; exact h
theorem built_cl3 (q : Option Addr) (F K : Nat) : Try.prog.built 101 [(0, .pointer q), (1, .agg (natC F)), (2, .agg (natC K))] = some (clC q F K) := by
 unfold natC clC
 generalize lm F 0 = a0
 generalize lm F 1 = a1
 generalize lm F 2 = a2
 generalize lm F 3 = a3
 generalize lm K 0 = b0
 generalize lm K 1 = b1
 generalize lm K 2 = b2
 generalize lm K 3 = b3
 kernel_rfl
theorem exec_claim {o : Oper} {ρ : Operand → Value} {x0 x1 x2 : Operand} (q : Option Addr) (F K : Nat) (ho : o.op = .build 101 #[(0, x0), (1, x1), (2, x2)]) (h0 : ρ x0 = .pointer q) (h1 : ρ x1 = .agg (natC F)) (h2 : ρ x2 = .agg (natC K)) (w : World) :
  (execOp ρ o).run Try.prog w = .ok (.value (.agg (clC q F K))) w := by
 unfold execOp
 simp only [ho, List.map_toArray, List.map_cons, List.map_nil, h0, h1, h2, Sem.run_bind]
 rw [run_build w 101 _ (clC q F K) (built_cl3 q F K)]
 rfl
/-- A function's end: two results, the first a struct in memory. -/
theorem ret_row2d {P : Program} {fn : Func} {R : Ending → World → Prop} {a : Act} {w : World} {p u : Tmp} {ty : TypeId} (hf : fn.results = #[.cell p ty, .tmp u]) (g : Nat) (hp : a.tmps.getD p undef = .pointer (some ⟨g, 0, none⟩))
  {t : TypeId} {cs : Array Value} (hr : Row w g cs t) (fs : Array Field) (hu : P.underlying ty = some (.struct fs)) (hi : (P.info? ty).map (·.size) = some cs.size) (hd : a.defers = [])
  (v : Value) (hv : a.tmps.getD u undef = v) (h : R (.returned (.tuple #[.agg cs, v])) w) : bodyPost P fn R .ret a w := by
 refine bodyPost_ret (v := .tuple #[.agg cs, v]) ?_ hd h
 rw [results_cell_tmp hf, hp, hv]
 simp only [asAddr, Sem.run_pure, Result.andThen_ok]
 rw [run_loadVar_row w g t ty cs (0, 0) _ hr hu rfl hi]
 rfl
theorem natC_less1 (X : Nat) (h : 1 ≤ X) : natC (less X 1) = natC (X - 1) := by
 rw [natC_eq]
 unfold less
 rw [show X + (2 ^ 256 - 1) = X - 1 + 2 ^ 256 by omega, Nat.add_mod_right]
theorem cmp_pos (A B : Nat) : decide ((0 : Int) < cmpI A B) = decide (B < A) := by
 unfold cmpI
 split
 ·rw [decide_eq_false (by omega), decide_eq_false (by omega)]
 ·split
  ·rw [decide_eq_true (by omega), decide_eq_true (by assumption)]
  ·rw [decide_eq_false (by omega), decide_eq_false (by omega)]
theorem neq_no (X : Nat) : (!decide (X % 2 ^ 256 = X % 2 ^ 256)) = false := by rw [decide_eq_true rfl]; rfl
theorem neq_yes (X Y : Nat) (hX : X < 2 ^ 256) (hY : Y < 2 ^ 256) (h : X ≠ Y) : (!decide (X % 2 ^ 256 = Y % 2 ^ 256)) = true := by
 rw [Nat.mod_eq_of_lt hX, Nat.mod_eq_of_lt hY, decide_eq_false h]; rfl
theorem eql_dec (X Y : Nat) (hX : X < 2 ^ 256) (hY : Y < 2 ^ 256) : decide (X % 2 ^ 256 = Y % 2 ^ 256) = decide (X = Y) := by
 rw [Nat.mod_eq_of_lt hX, Nat.mod_eq_of_lt hY]
set_option maxRecDepth 100000 in
set_option maxHeartbeats 2000000 in
theorem sqab_high (F N L H : Nat)  (w : World) (hb : (!decide (H % 2 ^ 256 = 0 % 2 ^ 256)) = true)
  (hmu : ∀ w', Calls Try.prog 69 #[.agg (natC F), .agg (natC F)] w' fun e w2 => e = .returned (.tuple #[.agg (natC L), .agg (natC H)]) ∧ Below w'.heap.size w' w2) :
  Calls Try.prog 92 #[.agg (natC F), .agg (natC N)] w fun e w' => e = .returned (.bool true) ∧ Below w.heap.size w w' := by
 go_enter Try.func92, Try.ntmps92
 (repeat ((fail_if_success with_reducible refine rg ?_); go_step))
 apply wp_region_mixp [] [_, _, _] trivial List.nodup_nil
 ·intro p
  refine mx_box 24 _ rfl _ rfl ?_
  simp only [Act.put, pu]
  refine mx_box 24 _ rfl _ rfl ?_
  simp only [Act.put, pu]
  refine mx_val (.bool false) (fun _ => rfl) ?_
  simp only [Act.put, pu]
  refine mx_end ?_
  intro w2 hkw hrw hnew hdis
  have n2 := hnew 0 rfl
  have n3 := hnew 1 rfl
  have zr2 : Row w2 (p 0) (natC F) 24 := hrw 1 (24, natC F) rfl
  have zr3 : Row w2 (p 1) (natC N) 24 := hrw 3 (24, natC N) rfl
  have d2x3 := hdis 0 1 (by omega) rfl rfl
  have sb := hkw.below w.heap.size (Nat.le_refl _) (by simp)
  have b2 : w.heap.size ≤ p 0 := n2
  have b3 : w.heap.size ≤ p 1 := n3
  clear hkw hrw hnew hdis n2 n3
  generalize p 0 = g2 at *
  generalize p 1 = g3 at *
  have r2 := zr2
  clear zr2
  have r3 := zr3
  clear zr3
  (repeat ((fail_if_success with_reducible refine rg ?_); go_step))
  apply wp_region_mixp [] [_, _, _, _, _, _, _, _, _, _] trivial List.nodup_nil
  ·intro p
   refine mx_load 24 _ rfl _ rfl r2 (by simp <;> omega) 4 _ Try.underlying24 size_nat ?_
   simp only [Act.put, pu]
   refine mx_load 24 _ rfl _ rfl r2 (by simp <;> omega) 4 _ Try.underlying24 size_nat ?_
   simp only [Act.put, pu]
   refine mx_call 69 _ _ rfl Try.func69 (by kernel_rfl) #[.agg (natC F), .agg (natC F)] rfl _ hmu ?_
   simp only [Act.put, pu]
   refine mx_move rfl rfl ?_
   simp only [Act.put, pu]
   refine mx_ext rfl rfl rfl ?_
   simp only [Act.put, pu]
   refine mx_ext rfl rfl rfl ?_
   simp only [Act.put, pu]
   refine mx_new 24 rfl _ zero_nat ?_
   simp only [Act.put, pu]
   refine mx_new 24 rfl _ zero_nat ?_
   simp only [Act.put, pu]
   refine mx_put 13 24 _ _ rfl rfl rfl (natC L) rfl (by exact size_nat) (by simp only [natC_size]) (natC_one _) ?_
   simp only [Act.put]
   refine mx_put 15 24 _ _ rfl rfl rfl (natC H) rfl (by exact size_nat) (by simp only [natC_size]) (natC_one _) ?_
   simp only [Act.put]
   refine mx_end ?_
   intro w3 hkw hrw hnew hdis
   have n5 := hnew 6 rfl
   have n6 := hnew 7 rfl
   have zr5 : Row w3 (p 6) (natC L) 24 := hrw 13 (24, natC L) rfl
   have zr6 : Row w3 (p 7) (natC H) 24 := hrw 15 (24, natC H) rfl
   replace r3 := hkw.row r3 (by simp <;> omega)
   replace sb := sb.trans (hkw.below w.heap.size sb.size (by simp <;> omega))
   clear hkw hrw hnew hdis n5 n6
   generalize p 6 = g5 at *
   generalize p 7 = g6 at *
   have r5 := zr5
   clear zr5
   have r6 := zr6
   clear zr6
   (repeat ((fail_if_success with_reducible refine rg ?_); go_step))
   refine wp_region_qp ?_
   refine qw_load (by rfl) 24 _ rfl _ rfl r6 4 _ Try.underlying24 size_nat ?_
   simp only [Act.put, pu]
   refine qw_value (by rfl) (.agg (natC 0)) (exec_build0 24 rfl _ built_nat) ?_
   simp only [Act.put, pu]
   refine qw_value (by rfl) (.bool true) (fun w' => (exec_neq_nat _ _ _ rfl H 0 rfl rfl w').trans (by rw [hb])) ?_
   simp only [Act.put, pu]
   refine qw_move (by rfl) rfl rfl ?_
   simp only [Act.put, pu]
   refine qw_skip (by rfl) ?_
   simp only [Act.put, pu]
   refine qw_skip (by rfl) ?_
   simp only [Act.put, pu]
   refine qw_skip (by rfl) ?_
   simp only [Act.put, pu]
   refine qw_skip (by rfl) ?_
   simp only [Act.put, pu]
   refine qw_pick true (v := .bool true) (by rfl) rfl rfl rfl ?_
   simp only [Act.put, pu]
   refine qw_asg (by rfl) rfl rfl ?_
   simp only [Act.put, pu]
   refine qw_nil ?_
   intro w4 hqb
   replace sb := below_on sb (Nat.le_refl _) hqb
   clear hqb
   go_wp2
   go_ret
   exact ⟨rfl, sb⟩
  ·rfl
 ·rfl
set_option maxRecDepth 100000 in
set_option maxHeartbeats 2000000 in
theorem sqab_low (F N L H : Nat) (z : Int) (w : World) (hb : (!decide (H % 2 ^ 256 = 0 % 2 ^ 256)) = false)
  (hmu : ∀ w', Calls Try.prog 69 #[.agg (natC F), .agg (natC F)] w' fun e w2 => e = .returned (.tuple #[.agg (natC L), .agg (natC H)]) ∧ Below w'.heap.size w' w2)
  (hcm : ∀ w', Calls Try.prog 50 #[.agg (natC L), .agg (natC N)] w' fun e w2 => e = .returned (.int .i64 z) ∧ Below w'.heap.size w' w2) :
  Calls Try.prog 92 #[.agg (natC F), .agg (natC N)] w fun e w' => e = .returned (.bool (decide (0 < z))) ∧ Below w.heap.size w w' := by
 go_enter Try.func92, Try.ntmps92
 (repeat ((fail_if_success with_reducible refine rg ?_); go_step))
 apply wp_region_mixp [] [_, _, _] trivial List.nodup_nil
 ·intro p
  refine mx_box 24 _ rfl _ rfl ?_
  simp only [Act.put, pu]
  refine mx_box 24 _ rfl _ rfl ?_
  simp only [Act.put, pu]
  refine mx_val (.bool false) (fun _ => rfl) ?_
  simp only [Act.put, pu]
  refine mx_end ?_
  intro w2 hkw hrw hnew hdis
  have n2 := hnew 0 rfl
  have n3 := hnew 1 rfl
  have zr2 : Row w2 (p 0) (natC F) 24 := hrw 1 (24, natC F) rfl
  have zr3 : Row w2 (p 1) (natC N) 24 := hrw 3 (24, natC N) rfl
  have d2x3 := hdis 0 1 (by omega) rfl rfl
  have sb := hkw.below w.heap.size (Nat.le_refl _) (by simp)
  have b2 : w.heap.size ≤ p 0 := n2
  have b3 : w.heap.size ≤ p 1 := n3
  clear hkw hrw hnew hdis n2 n3
  generalize p 0 = g2 at *
  generalize p 1 = g3 at *
  have r2 := zr2
  clear zr2
  have r3 := zr3
  clear zr3
  (repeat ((fail_if_success with_reducible refine rg ?_); go_step))
  apply wp_region_mixp [] [_, _, _, _, _, _, _, _, _, _] trivial List.nodup_nil
  ·intro p
   refine mx_load 24 _ rfl _ rfl r2 (by simp <;> omega) 4 _ Try.underlying24 size_nat ?_
   simp only [Act.put, pu]
   refine mx_load 24 _ rfl _ rfl r2 (by simp <;> omega) 4 _ Try.underlying24 size_nat ?_
   simp only [Act.put, pu]
   refine mx_call 69 _ _ rfl Try.func69 (by kernel_rfl) #[.agg (natC F), .agg (natC F)] rfl _ hmu ?_
   simp only [Act.put, pu]
   refine mx_move rfl rfl ?_
   simp only [Act.put, pu]
   refine mx_ext rfl rfl rfl ?_
   simp only [Act.put, pu]
   refine mx_ext rfl rfl rfl ?_
   simp only [Act.put, pu]
   refine mx_new 24 rfl _ zero_nat ?_
   simp only [Act.put, pu]
   refine mx_new 24 rfl _ zero_nat ?_
   simp only [Act.put, pu]
   refine mx_put 13 24 _ _ rfl rfl rfl (natC L) rfl (by exact size_nat) (by simp only [natC_size]) (natC_one _) ?_
   simp only [Act.put]
   refine mx_put 15 24 _ _ rfl rfl rfl (natC H) rfl (by exact size_nat) (by simp only [natC_size]) (natC_one _) ?_
   simp only [Act.put]
   refine mx_end ?_
   intro w3 hkw hrw hnew hdis
   have n5 := hnew 6 rfl
   have n6 := hnew 7 rfl
   have zr5 : Row w3 (p 6) (natC L) 24 := hrw 13 (24, natC L) rfl
   have zr6 : Row w3 (p 7) (natC H) 24 := hrw 15 (24, natC H) rfl
   replace r3 := hkw.row r3 (by simp <;> omega)
   replace sb := sb.trans (hkw.below w.heap.size sb.size (by simp <;> omega))
   clear hkw hrw hnew hdis n5 n6
   generalize p 6 = g5 at *
   generalize p 7 = g6 at *
   have r5 := zr5
   clear zr5
   have r6 := zr6
   clear zr6
   (repeat ((fail_if_success with_reducible refine rg ?_); go_step))
   refine wp_region_qp ?_
   refine qw_load (by rfl) 24 _ rfl _ rfl r6 4 _ Try.underlying24 size_nat ?_
   simp only [Act.put, pu]
   refine qw_value (by rfl) (.agg (natC 0)) (exec_build0 24 rfl _ built_nat) ?_
   simp only [Act.put, pu]
   refine qw_value (by rfl) (.bool false) (fun w' => (exec_neq_nat _ _ _ rfl H 0 rfl rfl w').trans (by rw [hb])) ?_
   simp only [Act.put, pu]
   refine qw_move (by rfl) rfl rfl ?_
   simp only [Act.put, pu]
   refine qw_load (by rfl) 24 _ rfl _ rfl r5 4 _ Try.underlying24 size_nat ?_
   simp only [Act.put, pu]
   refine qw_load (by rfl) 24 _ rfl _ rfl r3 4 _ Try.underlying24 size_nat ?_
   simp only [Act.put, pu]
   refine qw_call (by rfl) 50 _ _ rfl Try.func50 (by kernel_rfl) #[.agg (natC L), .agg (natC N)] rfl _ hcm ?_
   simp only [Act.put, pu]
   refine qw_value (by rfl) (.bool (decide (0 < z))) (exec_gt_i _ _ _ _ rfl z 0 rfl rfl _ rfl) ?_
   simp only [Act.put, pu]
   refine qw_pick false (v := .bool (decide (0 < z))) (by rfl) rfl rfl rfl ?_
   simp only [Act.put, pu]
   refine qw_asg (by rfl) rfl rfl ?_
   simp only [Act.put, pu]
   refine qw_nil ?_
   intro w4 hqb
   replace sb := below_on sb (Nat.le_refl _) hqb
   clear hqb
   go_wp2
   go_ret
   exact ⟨rfl, sb⟩
  ·rfl
 ·rfl
theorem sqab_any (F N : Nat) (w : World) (hF : F < 2 ^ 256) (hN : N < 2 ^ 256) :
  Calls Try.prog 92 #[.agg (natC F), .agg (natC N)] w fun e w' => e = .returned (.bool (decide (N < F * F))) ∧ Below w.heap.size w w' := by
 have hFF : F * F / 2 ^ 256 < 2 ^ 256 := by
  rw [Nat.div_lt_iff_lt_mul (Nat.two_pow_pos _)]
  exact Nat.mul_lt_mul'' hF hF
 by_cases h : F * F < 2 ^ 256
 ·have h0 : F * F / 2 ^ 256 = 0 := Nat.div_eq_of_lt h
  have := sqab_low F N (F * F) 0 (cmpI (F * F) N) w (neq_no 0) (fun w' => h0 ▸ wmul_any F F w' hF hF) (fun w' => ncmp_any (F * F) N w' h hN)
  rw [cmp_pos] at this
  exact this
 ·rw [decide_eq_true (show N < F * F by omega)]
  refine sqab_high F N (F * F) (F * F / 2 ^ 256) w (neq_yes _ 0 hFF (Nat.two_pow_pos _) ?_) (fun w' => wmul_any F F w' hF hF)
  intro h0
  have := (Nat.div_eq_zero_iff_lt (Nat.two_pow_pos 256)).1 h0
  exact h this
set_option maxRecDepth 100000 in
set_option maxHeartbeats 2000000 in
theorem claim_none (N F : Nat) (w : World)
  (hnew : ∀ w', Calls Try.prog 31 #[.agg (natC N)] w' fun e w2 => e = .returned (.tuple #[.pointer none, .int .i64 1]) ∧ Below w'.heap.size w' w2) :
  Calls Try.prog 73 #[.agg (natC N), .agg (natC F)] w fun e w' => e = .returned (.tuple #[.agg (clC none 0 0), .bool false]) ∧ Below w.heap.size w w' := by
 go_enter Try.func73, Try.ntmps73
 (repeat ((fail_if_success with_reducible refine rg ?_); go_step))
 apply wp_region_mixp [] [_, _, _, _] trivial List.nodup_nil
 ·intro p
  refine mx_box 24 _ rfl _ rfl ?_
  simp only [Act.put, pu]
  refine mx_box 24 _ rfl _ rfl ?_
  simp only [Act.put, pu]
  refine mx_new 101 rfl _ zero_cl ?_
  simp only [Act.put, pu]
  refine mx_val (.bool false) (fun _ => rfl) ?_
  simp only [Act.put, pu]
  refine mx_end ?_
  intro w2 hkw hrw hnew hdis
  have n2 := hnew 0 rfl
  have n3 := hnew 1 rfl
  have n4 := hnew 2 rfl
  have zr2 : Row w2 (p 0) (natC N) 24 := hrw 1 (24, natC N) rfl
  have zr3 : Row w2 (p 1) (natC F) 24 := hrw 3 (24, natC F) rfl
  have zr4 : Row w2 (p 2) (clC none 0 0) 101 := hrw 5 (101, clC none 0 0) rfl
  have d2x3 := hdis 0 1 (by omega) rfl rfl
  have d2x4 := hdis 0 2 (by omega) rfl rfl
  have d3x4 := hdis 1 2 (by omega) rfl rfl
  have sb := hkw.below w.heap.size (Nat.le_refl _) (by simp)
  have b2 : w.heap.size ≤ p 0 := n2
  have b3 : w.heap.size ≤ p 1 := n3
  have b4 : w.heap.size ≤ p 2 := n4
  clear hkw hrw hnew hdis n2 n3 n4
  generalize p 0 = g2 at *
  generalize p 1 = g3 at *
  generalize p 2 = g4 at *
  have r2 := zr2
  clear zr2
  have r3 := zr3
  clear zr3
  have r4 := zr4
  clear zr4
  (repeat ((fail_if_success with_reducible refine rg ?_); go_step))
  apply wp_region_mixp [] [_, _, _, _, _, _, _] trivial List.nodup_nil
  ·intro p
   refine mx_load 24 _ rfl _ rfl r2 (by simp <;> omega) 4 _ Try.underlying24 size_nat ?_
   simp only [Act.put, pu]
   refine mx_call 31 _ _ rfl Try.func31 (by kernel_rfl) #[.agg (natC N)] rfl _ hnew ?_
   simp only [Act.put, pu]
   refine mx_move rfl rfl ?_
   simp only [Act.put, pu]
   refine mx_ext rfl rfl rfl ?_
   simp only [Act.put, pu]
   refine mx_ext rfl rfl rfl ?_
   simp only [Act.put, pu]
   refine mx_asg rfl rfl ?_
   simp only [Act.put, pu]
   refine mx_asg rfl rfl ?_
   simp only [Act.put, pu]
   refine mx_end ?_
   intro w3 hkw hrw hnew hdis
   replace r4 := hkw.row r4 (by simp <;> omega)
   replace sb := sb.trans (hkw.below w.heap.size sb.size (by simp <;> omega))
   clear hkw hrw hnew hdis
   (repeat ((fail_if_success with_reducible refine rg ?_); go_step))
   apply wp_region_mixp [] [_, _] trivial List.nodup_nil
   ·intro p
    refine mx_move rfl rfl ?_
    simp only [Act.put, pu]
    refine mx_val (.bool true) (exec_neq_k .i64 _ _ _ _ rfl 1 0 rfl rfl true rfl) ?_
    simp only [Act.put, pu]
    refine mx_end ?_
    intro w4 hkw hrw hnew hdis
    replace r4 := hkw.row r4 (by simp <;> omega)
    replace sb := sb.trans (hkw.below w.heap.size sb.size (by simp <;> omega))
    clear hkw hrw hnew hdis
    (repeat ((fail_if_success with_reducible refine rg ?_); go_step))
    apply wp_region_mixp [(g4, 101, clC none 0 0)] [_, _, _] ⟨r4, trivial⟩ (by simp <;> omega)
    ·intro p
     refine mx_val (.agg (clC none 0 0)) (exec_build0 101 rfl _ built_cl) ?_
     simp only [Act.put, pu]
     refine mx_put 0 101 _ _ rfl rfl rfl (clC none 0 0) rfl (by exact size_cl) (by rfl) (cl_one _ _ _) ?_
     simp only [Act.put]
     refine mx_val (.bool false) (fun _ => rfl) ?_
     simp only [Act.put, pu]
     refine mx_end ?_
     intro w5 hkw hrw hnew hdis
     have zr4 : Row w5 (g4) (clC none 0 0) 101 := hrw 0 (101, clC none 0 0) rfl
     replace sb := sb.trans (hkw.below w.heap.size sb.size (by simp <;> omega))
     clear hkw hrw hnew hdis r4
     have r4 := zr4
     clear zr4
     go_wp2
     exact ret_row2d rfl _ rfl r4 _ Try.underlying101 (by exact size_cl) rfl _ rfl ⟨rfl, sb⟩
    ·rfl
   ·rfl
  ·rfl
 ·rfl
set_option maxRecDepth 100000 in
set_option maxHeartbeats 2000000 in
theorem claim_err (N F L K R : Nat) (er lz : Int) (RG : Array Value) (w : World) (he : er ≠ 0)
  (hnew : ∀ w', Calls Try.prog 31 #[.agg (natC N)] w' fun e w2 => ∃ g, e = .returned (.tuple #[.pointer (some ⟨g, 0, none⟩), .int .i64 0]) ∧ w'.heap.size ≤ g ∧ Row w2 g RG 80 ∧ Below w'.heap.size w' w2)
  (hof : ∀ w', Calls Try.prog 33 #[.int .i64 1] w' fun e w2 => e = .returned (.agg (natC 1)) ∧ Below w'.heap.size w' w2)
  (hsu : ∀ w', Calls Try.prog 62 #[.agg (natC N), .agg (natC 1)] w' fun e w2 => e = .returned (.tuple #[.agg (natC L), .int .i64 lz]) ∧ Below w'.heap.size w' w2)
  (hdi : ∀ w', Calls Try.prog 91 #[.agg (natC L), .agg (natC F)] w' fun e w2 => e = .returned (.tuple #[.agg (natC K), .agg (natC R), .int .i64 er]) ∧ Below w'.heap.size w' w2) :
  Calls Try.prog 73 #[.agg (natC N), .agg (natC F)] w fun e w' => e = .returned (.tuple #[.agg (clC none 0 0), .bool false]) ∧ Below w.heap.size w w' := by
 go_enter Try.func73, Try.ntmps73
 (repeat ((fail_if_success with_reducible refine rg ?_); go_step))
 apply wp_region_mixp [] [_, _, _, _] trivial List.nodup_nil
 ·intro p
  refine mx_box 24 _ rfl _ rfl ?_
  simp only [Act.put, pu]
  refine mx_box 24 _ rfl _ rfl ?_
  simp only [Act.put, pu]
  refine mx_new 101 rfl _ zero_cl ?_
  simp only [Act.put, pu]
  refine mx_val (.bool false) (fun _ => rfl) ?_
  simp only [Act.put, pu]
  refine mx_end ?_
  intro w2 hkw hrw hnew hdis
  have n2 := hnew 0 rfl
  have n3 := hnew 1 rfl
  have n4 := hnew 2 rfl
  have zr2 : Row w2 (p 0) (natC N) 24 := hrw 1 (24, natC N) rfl
  have zr3 : Row w2 (p 1) (natC F) 24 := hrw 3 (24, natC F) rfl
  have zr4 : Row w2 (p 2) (clC none 0 0) 101 := hrw 5 (101, clC none 0 0) rfl
  have d2x3 := hdis 0 1 (by omega) rfl rfl
  have d2x4 := hdis 0 2 (by omega) rfl rfl
  have d3x4 := hdis 1 2 (by omega) rfl rfl
  have sb := hkw.below w.heap.size (Nat.le_refl _) (by simp)
  have b2 : w.heap.size ≤ p 0 := n2
  have b3 : w.heap.size ≤ p 1 := n3
  have b4 : w.heap.size ≤ p 2 := n4
  clear hkw hrw hnew hdis n2 n3 n4
  generalize p 0 = g2 at *
  generalize p 1 = g3 at *
  generalize p 2 = g4 at *
  have r2 := zr2
  clear zr2
  have r3 := zr3
  clear zr3
  have r4 := zr4
  clear zr4
  go_wp2_with (first
   | refine wpList_loadR rfl 24 _ rfl _ rfl r2 4 _ Try.underlying24 (by exact size_nat) ?_)
  refine (hnew _).mono ?_
  rintro _ wb ⟨g6, rfl, hg6, r6, bb⟩
  replace r2 := r2.belowAll bb
  replace r3 := r3.belowAll bb
  have d4x6 := Nat.lt_of_lt_of_le r4.lt hg6
  replace r4 := r4.belowAll bb
  have b6 : w.heap.size ≤ g6 := Nat.le_trans sb.size hg6
  replace sb := below_on sb (Nat.le_refl _) bb
  clear bb hg6 hnew
  dsimp only
  (repeat ((fail_if_success with_reducible refine rg ?_); go_step))
  apply wp_region_mixp [] [_, _] trivial List.nodup_nil
  ·intro p
   refine mx_move rfl rfl ?_
   simp only [Act.put, pu]
   refine mx_val (.bool false) (exec_neq_k .i64 _ _ _ _ rfl 0 0 rfl rfl false rfl) ?_
   simp only [Act.put, pu]
   refine mx_end ?_
   intro w4 hkw hrw hnew hdis
   replace r2 := hkw.row r2 (by simp <;> omega)
   replace r3 := hkw.row r3 (by simp <;> omega)
   replace r4 := hkw.row r4 (by simp <;> omega)
   replace r6 := hkw.row r6 (by simp <;> omega)
   replace sb := sb.trans (hkw.below w.heap.size sb.size (by simp <;> omega))
   clear hkw hrw hnew hdis
   (repeat ((fail_if_success with_reducible refine rg ?_); go_step))
   apply wp_region_mix (by kernel_rfl) [] [_, _, _, _, _, _, _, _, _] trivial List.nodup_nil
   ·intro p
    refine mx_load 24 _ rfl _ rfl r2 (by simp <;> omega) 4 _ Try.underlying24 size_nat ?_
    simp only [Act.put, pu]
    refine mx_call 33 _ _ rfl Try.func33 (by kernel_rfl) #[.int .i64 1] rfl _ hof ?_
    simp only [Act.put, pu]
    refine mx_call 62 _ _ rfl Try.func62 (by kernel_rfl) #[.agg (natC N), .agg (natC 1)] rfl _ hsu ?_
    simp only [Act.put, pu]
    refine mx_move rfl rfl ?_
    simp only [Act.put, pu]
    refine mx_ext rfl rfl rfl ?_
    simp only [Act.put, pu]
    refine mx_ext rfl rfl rfl ?_
    simp only [Act.put, pu]
    refine mx_new 24 rfl _ zero_nat ?_
    simp only [Act.put, pu]
    refine mx_put 13 24 _ _ rfl rfl rfl (natC L) rfl (by exact size_nat) (by simp only [natC_size]) (natC_one _) ?_
    simp only [Act.put]
    refine mx_asg rfl rfl ?_
    simp only [Act.put, pu]
    refine mx_end ?_
    intro w5 hkw hrw hnew hdis
    have n8 := hnew 6 rfl
    have zr8 : Row w5 (p 6) (natC L) 24 := hrw 13 (24, natC L) rfl
    replace r2 := hkw.row r2 (by simp <;> omega)
    replace r3 := hkw.row r3 (by simp <;> omega)
    replace r4 := hkw.row r4 (by simp <;> omega)
    replace r6 := hkw.row r6 (by simp <;> omega)
    replace sb := sb.trans (hkw.below w.heap.size sb.size (by simp <;> omega))
    clear hkw hrw hnew hdis n8
    generalize p 6 = g8 at *
    have r8 := zr8
    clear zr8
    (repeat ((fail_if_success with_reducible refine rg ?_); go_step))
    apply wp_region_mixp [] [_, _, _, _, _, _, _, _, _, _, _, _] trivial List.nodup_nil
    ·intro p
     refine mx_load 24 _ rfl _ rfl r8 (by simp <;> omega) 4 _ Try.underlying24 size_nat ?_
     simp only [Act.put, pu]
     refine mx_load 24 _ rfl _ rfl r3 (by simp <;> omega) 4 _ Try.underlying24 size_nat ?_
     simp only [Act.put, pu]
     refine mx_call 91 _ _ rfl Try.func91 (by kernel_rfl) #[.agg (natC L), .agg (natC F)] rfl _ hdi ?_
     simp only [Act.put, pu]
     refine mx_move rfl rfl ?_
     simp only [Act.put, pu]
     refine mx_ext rfl rfl rfl ?_
     simp only [Act.put, pu]
     refine mx_ext rfl rfl rfl ?_
     simp only [Act.put, pu]
     refine mx_ext rfl rfl rfl ?_
     simp only [Act.put, pu]
     refine mx_new 24 rfl _ zero_nat ?_
     simp only [Act.put, pu]
     refine mx_new 24 rfl _ zero_nat ?_
     simp only [Act.put, pu]
     refine mx_put 15 24 _ _ rfl rfl rfl (natC K) rfl (by exact size_nat) (by simp only [natC_size]) (natC_one _) ?_
     simp only [Act.put]
     refine mx_put 17 24 _ _ rfl rfl rfl (natC R) rfl (by exact size_nat) (by simp only [natC_size]) (natC_one _) ?_
     simp only [Act.put]
     refine mx_asg rfl rfl ?_
     simp only [Act.put, pu]
     refine mx_end ?_
     intro w6 hkw hrw hnew hdis
     have n10 := hnew 7 rfl
     have n11 := hnew 8 rfl
     have zr10 : Row w6 (p 7) (natC K) 24 := hrw 15 (24, natC K) rfl
     have zr11 : Row w6 (p 8) (natC R) 24 := hrw 17 (24, natC R) rfl
     have d2x10 := Nat.lt_of_lt_of_le r2.lt n10
     have d2x11 := Nat.lt_of_lt_of_le r2.lt n11
     have d3x10 := Nat.lt_of_lt_of_le r3.lt n10
     have d3x11 := Nat.lt_of_lt_of_le r3.lt n11
     have d4x10 := Nat.lt_of_lt_of_le r4.lt n10
     have d4x11 := Nat.lt_of_lt_of_le r4.lt n11
     have d6x10 := Nat.lt_of_lt_of_le r6.lt n10
     have d6x11 := Nat.lt_of_lt_of_le r6.lt n11
     have d10x11 := hdis 7 8 (by omega) rfl rfl
     replace r2 := hkw.row r2 (by simp <;> omega)
     replace r3 := hkw.row r3 (by simp <;> omega)
     replace r4 := hkw.row r4 (by simp <;> omega)
     replace r6 := hkw.row r6 (by simp <;> omega)
     have b10 := Nat.le_trans sb.size n10
     have b11 := Nat.le_trans sb.size n11
     replace sb := sb.trans (hkw.below w.heap.size sb.size (by simp <;> omega))
     clear hkw hrw hnew hdis n10 n11
     generalize p 7 = g10 at *
     generalize p 8 = g11 at *
     have r10 := zr10
     clear zr10
     have r11 := zr11
     clear zr11
     (repeat ((fail_if_success with_reducible refine rg ?_); go_step))
     refine wp_region_qp ?_
     refine qw_move (by rfl) rfl rfl ?_
     simp only [Act.put, pu]
     refine qw_value (by rfl) (.bool true) (exec_neq_k .i64 _ _ _ _ rfl er 0 rfl rfl true (by rw [decide_eq_false he]; rfl)) ?_
     simp only [Act.put, pu]
     refine qw_move (by rfl) rfl rfl ?_
     simp only [Act.put, pu]
     refine qw_skip (by rfl) ?_
     simp only [Act.put, pu]
     refine qw_skip (by rfl) ?_
     simp only [Act.put, pu]
     refine qw_skip (by rfl) ?_
     simp only [Act.put, pu]
     refine qw_pick true (v := .bool true) (by rfl) rfl rfl rfl ?_
     simp only [Act.put, pu]
     refine qw_move (by rfl) rfl rfl ?_
     simp only [Act.put, pu]
     refine qw_skip (by rfl) ?_
     simp only [Act.put, pu]
     refine qw_skip (by rfl) ?_
     simp only [Act.put, pu]
     refine qw_skip (by rfl) ?_
     simp only [Act.put, pu]
     refine qw_skip (by rfl) ?_
     simp only [Act.put, pu]
     refine qw_pick true (v := .bool true) (by rfl) rfl rfl rfl ?_
     simp only [Act.put, pu]
     refine qw_nil ?_
     intro w7 hqb
     replace r3 := r3.belowAll hqb
     replace r4 := r4.belowAll hqb
     replace r6 := r6.belowAll hqb
     replace r10 := r10.belowAll hqb
     replace sb := below_on sb (Nat.le_refl _) hqb
     clear hqb
     (repeat ((fail_if_success with_reducible refine rg ?_); go_step))
     apply wp_region_mixp [(g4, 101, clC none 0 0)] [_, _, _] ⟨r4, trivial⟩ (by simp <;> omega)
     ·intro p
      refine mx_val (.agg (clC none 0 0)) (exec_build0 101 rfl _ built_cl) ?_
      simp only [Act.put, pu]
      refine mx_put 0 101 _ _ rfl rfl rfl (clC none 0 0) rfl (by exact size_cl) (by rfl) (cl_one _ _ _) ?_
      simp only [Act.put]
      refine mx_val (.bool false) (fun _ => rfl) ?_
      simp only [Act.put, pu]
      refine mx_end ?_
      intro w8 hkw hrw hnew hdis
      have zr4 : Row w8 (g4) (clC none 0 0) 101 := hrw 0 (101, clC none 0 0) rfl
      replace sb := sb.trans (hkw.below w.heap.size sb.size (by simp <;> omega))
      clear hkw hrw hnew hdis r4
      have r4 := zr4
      clear zr4
      go_wp2
      exact ret_row2d rfl _ rfl r4 _ Try.underlying101 (by exact size_cl) rfl _ rfl ⟨rfl, sb⟩
     ·rfl
    ·rfl
   ·kernel_rfl
  ·rfl
 ·rfl
set_option maxRecDepth 100000 in
set_option maxHeartbeats 2000000 in
theorem claim_rest (N F L K R : Nat) (er lz : Int) (RG : Array Value) (w : World) (he : er = 0) (hr : (!decide (R % 2 ^ 256 = 0 % 2 ^ 256)) = true)
  (hnew : ∀ w', Calls Try.prog 31 #[.agg (natC N)] w' fun e w2 => ∃ g, e = .returned (.tuple #[.pointer (some ⟨g, 0, none⟩), .int .i64 0]) ∧ w'.heap.size ≤ g ∧ Row w2 g RG 80 ∧ Below w'.heap.size w' w2)
  (hof : ∀ w', Calls Try.prog 33 #[.int .i64 1] w' fun e w2 => e = .returned (.agg (natC 1)) ∧ Below w'.heap.size w' w2)
  (hsu : ∀ w', Calls Try.prog 62 #[.agg (natC N), .agg (natC 1)] w' fun e w2 => e = .returned (.tuple #[.agg (natC L), .int .i64 lz]) ∧ Below w'.heap.size w' w2)
  (hdi : ∀ w', Calls Try.prog 91 #[.agg (natC L), .agg (natC F)] w' fun e w2 => e = .returned (.tuple #[.agg (natC K), .agg (natC R), .int .i64 er]) ∧ Below w'.heap.size w' w2) :
  Calls Try.prog 73 #[.agg (natC N), .agg (natC F)] w fun e w' => e = .returned (.tuple #[.agg (clC none 0 0), .bool false]) ∧ Below w.heap.size w w' := by
 go_enter Try.func73, Try.ntmps73
 (repeat ((fail_if_success with_reducible refine rg ?_); go_step))
 apply wp_region_mixp [] [_, _, _, _] trivial List.nodup_nil
 ·intro p
  refine mx_box 24 _ rfl _ rfl ?_
  simp only [Act.put, pu]
  refine mx_box 24 _ rfl _ rfl ?_
  simp only [Act.put, pu]
  refine mx_new 101 rfl _ zero_cl ?_
  simp only [Act.put, pu]
  refine mx_val (.bool false) (fun _ => rfl) ?_
  simp only [Act.put, pu]
  refine mx_end ?_
  intro w2 hkw hrw hnew hdis
  have n2 := hnew 0 rfl
  have n3 := hnew 1 rfl
  have n4 := hnew 2 rfl
  have zr2 : Row w2 (p 0) (natC N) 24 := hrw 1 (24, natC N) rfl
  have zr3 : Row w2 (p 1) (natC F) 24 := hrw 3 (24, natC F) rfl
  have zr4 : Row w2 (p 2) (clC none 0 0) 101 := hrw 5 (101, clC none 0 0) rfl
  have d2x3 := hdis 0 1 (by omega) rfl rfl
  have d2x4 := hdis 0 2 (by omega) rfl rfl
  have d3x4 := hdis 1 2 (by omega) rfl rfl
  have sb := hkw.below w.heap.size (Nat.le_refl _) (by simp)
  have b2 : w.heap.size ≤ p 0 := n2
  have b3 : w.heap.size ≤ p 1 := n3
  have b4 : w.heap.size ≤ p 2 := n4
  clear hkw hrw hnew hdis n2 n3 n4
  generalize p 0 = g2 at *
  generalize p 1 = g3 at *
  generalize p 2 = g4 at *
  have r2 := zr2
  clear zr2
  have r3 := zr3
  clear zr3
  have r4 := zr4
  clear zr4
  go_wp2_with (first
   | refine wpList_loadR rfl 24 _ rfl _ rfl r2 4 _ Try.underlying24 (by exact size_nat) ?_)
  refine (hnew _).mono ?_
  rintro _ wb ⟨g6, rfl, hg6, r6, bb⟩
  replace r2 := r2.belowAll bb
  replace r3 := r3.belowAll bb
  have d4x6 := Nat.lt_of_lt_of_le r4.lt hg6
  replace r4 := r4.belowAll bb
  have b6 : w.heap.size ≤ g6 := Nat.le_trans sb.size hg6
  replace sb := below_on sb (Nat.le_refl _) bb
  clear bb hg6 hnew
  dsimp only
  (repeat ((fail_if_success with_reducible refine rg ?_); go_step))
  apply wp_region_mixp [] [_, _] trivial List.nodup_nil
  ·intro p
   refine mx_move rfl rfl ?_
   simp only [Act.put, pu]
   refine mx_val (.bool false) (exec_neq_k .i64 _ _ _ _ rfl 0 0 rfl rfl false rfl) ?_
   simp only [Act.put, pu]
   refine mx_end ?_
   intro w4 hkw hrw hnew hdis
   replace r2 := hkw.row r2 (by simp <;> omega)
   replace r3 := hkw.row r3 (by simp <;> omega)
   replace r4 := hkw.row r4 (by simp <;> omega)
   replace r6 := hkw.row r6 (by simp <;> omega)
   replace sb := sb.trans (hkw.below w.heap.size sb.size (by simp <;> omega))
   clear hkw hrw hnew hdis
   (repeat ((fail_if_success with_reducible refine rg ?_); go_step))
   apply wp_region_mix (by kernel_rfl) [] [_, _, _, _, _, _, _, _, _] trivial List.nodup_nil
   ·intro p
    refine mx_load 24 _ rfl _ rfl r2 (by simp <;> omega) 4 _ Try.underlying24 size_nat ?_
    simp only [Act.put, pu]
    refine mx_call 33 _ _ rfl Try.func33 (by kernel_rfl) #[.int .i64 1] rfl _ hof ?_
    simp only [Act.put, pu]
    refine mx_call 62 _ _ rfl Try.func62 (by kernel_rfl) #[.agg (natC N), .agg (natC 1)] rfl _ hsu ?_
    simp only [Act.put, pu]
    refine mx_move rfl rfl ?_
    simp only [Act.put, pu]
    refine mx_ext rfl rfl rfl ?_
    simp only [Act.put, pu]
    refine mx_ext rfl rfl rfl ?_
    simp only [Act.put, pu]
    refine mx_new 24 rfl _ zero_nat ?_
    simp only [Act.put, pu]
    refine mx_put 13 24 _ _ rfl rfl rfl (natC L) rfl (by exact size_nat) (by simp only [natC_size]) (natC_one _) ?_
    simp only [Act.put]
    refine mx_asg rfl rfl ?_
    simp only [Act.put, pu]
    refine mx_end ?_
    intro w5 hkw hrw hnew hdis
    have n8 := hnew 6 rfl
    have zr8 : Row w5 (p 6) (natC L) 24 := hrw 13 (24, natC L) rfl
    replace r2 := hkw.row r2 (by simp <;> omega)
    replace r3 := hkw.row r3 (by simp <;> omega)
    replace r4 := hkw.row r4 (by simp <;> omega)
    replace r6 := hkw.row r6 (by simp <;> omega)
    replace sb := sb.trans (hkw.below w.heap.size sb.size (by simp <;> omega))
    clear hkw hrw hnew hdis n8
    generalize p 6 = g8 at *
    have r8 := zr8
    clear zr8
    (repeat ((fail_if_success with_reducible refine rg ?_); go_step))
    apply wp_region_mixp [] [_, _, _, _, _, _, _, _, _, _, _, _] trivial List.nodup_nil
    ·intro p
     refine mx_load 24 _ rfl _ rfl r8 (by simp <;> omega) 4 _ Try.underlying24 size_nat ?_
     simp only [Act.put, pu]
     refine mx_load 24 _ rfl _ rfl r3 (by simp <;> omega) 4 _ Try.underlying24 size_nat ?_
     simp only [Act.put, pu]
     refine mx_call 91 _ _ rfl Try.func91 (by kernel_rfl) #[.agg (natC L), .agg (natC F)] rfl _ hdi ?_
     simp only [Act.put, pu]
     refine mx_move rfl rfl ?_
     simp only [Act.put, pu]
     refine mx_ext rfl rfl rfl ?_
     simp only [Act.put, pu]
     refine mx_ext rfl rfl rfl ?_
     simp only [Act.put, pu]
     refine mx_ext rfl rfl rfl ?_
     simp only [Act.put, pu]
     refine mx_new 24 rfl _ zero_nat ?_
     simp only [Act.put, pu]
     refine mx_new 24 rfl _ zero_nat ?_
     simp only [Act.put, pu]
     refine mx_put 15 24 _ _ rfl rfl rfl (natC K) rfl (by exact size_nat) (by simp only [natC_size]) (natC_one _) ?_
     simp only [Act.put]
     refine mx_put 17 24 _ _ rfl rfl rfl (natC R) rfl (by exact size_nat) (by simp only [natC_size]) (natC_one _) ?_
     simp only [Act.put]
     refine mx_asg rfl rfl ?_
     simp only [Act.put, pu]
     refine mx_end ?_
     intro w6 hkw hrw hnew hdis
     have n10 := hnew 7 rfl
     have n11 := hnew 8 rfl
     have zr10 : Row w6 (p 7) (natC K) 24 := hrw 15 (24, natC K) rfl
     have zr11 : Row w6 (p 8) (natC R) 24 := hrw 17 (24, natC R) rfl
     have d2x10 := Nat.lt_of_lt_of_le r2.lt n10
     have d2x11 := Nat.lt_of_lt_of_le r2.lt n11
     have d3x10 := Nat.lt_of_lt_of_le r3.lt n10
     have d3x11 := Nat.lt_of_lt_of_le r3.lt n11
     have d4x10 := Nat.lt_of_lt_of_le r4.lt n10
     have d4x11 := Nat.lt_of_lt_of_le r4.lt n11
     have d6x10 := Nat.lt_of_lt_of_le r6.lt n10
     have d6x11 := Nat.lt_of_lt_of_le r6.lt n11
     have d10x11 := hdis 7 8 (by omega) rfl rfl
     replace r2 := hkw.row r2 (by simp <;> omega)
     replace r3 := hkw.row r3 (by simp <;> omega)
     replace r4 := hkw.row r4 (by simp <;> omega)
     replace r6 := hkw.row r6 (by simp <;> omega)
     have b10 := Nat.le_trans sb.size n10
     have b11 := Nat.le_trans sb.size n11
     replace sb := sb.trans (hkw.below w.heap.size sb.size (by simp <;> omega))
     clear hkw hrw hnew hdis n10 n11
     generalize p 7 = g10 at *
     generalize p 8 = g11 at *
     have r10 := zr10
     clear zr10
     have r11 := zr11
     clear zr11
     (repeat ((fail_if_success with_reducible refine rg ?_); go_step))
     refine wp_region_qp ?_
     refine qw_move (by rfl) rfl rfl ?_
     simp only [Act.put, pu]
     refine qw_value (by rfl) (.bool false) (exec_neq_k .i64 _ _ _ _ rfl er 0 rfl rfl false (by rw [decide_eq_true he]; rfl)) ?_
     simp only [Act.put, pu]
     refine qw_move (by rfl) rfl rfl ?_
     simp only [Act.put, pu]
     refine qw_load (by rfl) 24 _ rfl _ rfl r11 4 _ Try.underlying24 size_nat ?_
     simp only [Act.put, pu]
     refine qw_value (by rfl) (.agg (natC 0)) (exec_build0 24 rfl _ built_nat) ?_
     simp only [Act.put, pu]
     refine qw_value (by rfl) (.bool true) (fun w' => (exec_neq_nat _ _ _ rfl R 0 rfl rfl w').trans (by rw [hr])) ?_
     simp only [Act.put, pu]
     refine qw_pick false (v := .bool true) (by rfl) rfl rfl rfl ?_
     simp only [Act.put, pu]
     refine qw_move (by rfl) rfl rfl ?_
     simp only [Act.put, pu]
     refine qw_skip (by rfl) ?_
     simp only [Act.put, pu]
     refine qw_skip (by rfl) ?_
     simp only [Act.put, pu]
     refine qw_skip (by rfl) ?_
     simp only [Act.put, pu]
     refine qw_skip (by rfl) ?_
     simp only [Act.put, pu]
     refine qw_pick true (v := .bool true) (by rfl) rfl rfl rfl ?_
     simp only [Act.put, pu]
     refine qw_nil ?_
     intro w7 hqb
     replace r3 := r3.belowAll hqb
     replace r4 := r4.belowAll hqb
     replace r6 := r6.belowAll hqb
     replace r10 := r10.belowAll hqb
     replace sb := below_on sb (Nat.le_refl _) hqb
     clear hqb
     (repeat ((fail_if_success with_reducible refine rg ?_); go_step))
     apply wp_region_mixp [(g4, 101, clC none 0 0)] [_, _, _] ⟨r4, trivial⟩ (by simp <;> omega)
     ·intro p
      refine mx_val (.agg (clC none 0 0)) (exec_build0 101 rfl _ built_cl) ?_
      simp only [Act.put, pu]
      refine mx_put 0 101 _ _ rfl rfl rfl (clC none 0 0) rfl (by exact size_cl) (by rfl) (cl_one _ _ _) ?_
      simp only [Act.put]
      refine mx_val (.bool false) (fun _ => rfl) ?_
      simp only [Act.put, pu]
      refine mx_end ?_
      intro w8 hkw hrw hnew hdis
      have zr4 : Row w8 (g4) (clC none 0 0) 101 := hrw 0 (101, clC none 0 0) rfl
      replace sb := sb.trans (hkw.below w.heap.size sb.size (by simp <;> omega))
      clear hkw hrw hnew hdis r4
      have r4 := zr4
      clear zr4
      go_wp2
      exact ret_row2d rfl _ rfl r4 _ Try.underlying101 (by exact size_cl) rfl _ rfl ⟨rfl, sb⟩
     ·rfl
    ·rfl
   ·kernel_rfl
  ·rfl
 ·rfl
set_option maxRecDepth 100000 in
set_option maxHeartbeats 2000000 in
theorem claim_low (N F L K R : Nat) (er lz : Int) (RG : Array Value) (w : World) (he : er = 0) (hr : (!decide (R % 2 ^ 256 = 0 % 2 ^ 256)) = false)
  (hnew : ∀ w', Calls Try.prog 31 #[.agg (natC N)] w' fun e w2 => ∃ g, e = .returned (.tuple #[.pointer (some ⟨g, 0, none⟩), .int .i64 0]) ∧ w'.heap.size ≤ g ∧ Row w2 g RG 80 ∧ Below w'.heap.size w' w2)
  (hof : ∀ w', Calls Try.prog 33 #[.int .i64 1] w' fun e w2 => e = .returned (.agg (natC 1)) ∧ Below w'.heap.size w' w2)
  (hsu : ∀ w', Calls Try.prog 62 #[.agg (natC N), .agg (natC 1)] w' fun e w2 => e = .returned (.tuple #[.agg (natC L), .int .i64 lz]) ∧ Below w'.heap.size w' w2)
  (hdi : ∀ w', Calls Try.prog 91 #[.agg (natC L), .agg (natC F)] w' fun e w2 => e = .returned (.tuple #[.agg (natC K), .agg (natC R), .int .i64 er]) ∧ Below w'.heap.size w' w2)
  (hsq : ∀ w', Calls Try.prog 92 #[.agg (natC F), .agg (natC N)] w' fun e w2 => e = .returned (.bool false) ∧ Below w'.heap.size w' w2) :
  Calls Try.prog 73 #[.agg (natC N), .agg (natC F)] w fun e w' => e = .returned (.tuple #[.agg (clC none 0 0), .bool false]) ∧ Below w.heap.size w w' := by
 go_enter Try.func73, Try.ntmps73
 (repeat ((fail_if_success with_reducible refine rg ?_); go_step))
 apply wp_region_mixp [] [_, _, _, _] trivial List.nodup_nil
 ·intro p
  refine mx_box 24 _ rfl _ rfl ?_
  simp only [Act.put, pu]
  refine mx_box 24 _ rfl _ rfl ?_
  simp only [Act.put, pu]
  refine mx_new 101 rfl _ zero_cl ?_
  simp only [Act.put, pu]
  refine mx_val (.bool false) (fun _ => rfl) ?_
  simp only [Act.put, pu]
  refine mx_end ?_
  intro w2 hkw hrw hnew hdis
  have n2 := hnew 0 rfl
  have n3 := hnew 1 rfl
  have n4 := hnew 2 rfl
  have zr2 : Row w2 (p 0) (natC N) 24 := hrw 1 (24, natC N) rfl
  have zr3 : Row w2 (p 1) (natC F) 24 := hrw 3 (24, natC F) rfl
  have zr4 : Row w2 (p 2) (clC none 0 0) 101 := hrw 5 (101, clC none 0 0) rfl
  have d2x3 := hdis 0 1 (by omega) rfl rfl
  have d2x4 := hdis 0 2 (by omega) rfl rfl
  have d3x4 := hdis 1 2 (by omega) rfl rfl
  have sb := hkw.below w.heap.size (Nat.le_refl _) (by simp)
  have b2 : w.heap.size ≤ p 0 := n2
  have b3 : w.heap.size ≤ p 1 := n3
  have b4 : w.heap.size ≤ p 2 := n4
  clear hkw hrw hnew hdis n2 n3 n4
  generalize p 0 = g2 at *
  generalize p 1 = g3 at *
  generalize p 2 = g4 at *
  have r2 := zr2
  clear zr2
  have r3 := zr3
  clear zr3
  have r4 := zr4
  clear zr4
  go_wp2_with (first
   | refine wpList_loadR rfl 24 _ rfl _ rfl r2 4 _ Try.underlying24 (by exact size_nat) ?_)
  refine (hnew _).mono ?_
  rintro _ wb ⟨g6, rfl, hg6, r6, bb⟩
  replace r2 := r2.belowAll bb
  replace r3 := r3.belowAll bb
  have d4x6 := Nat.lt_of_lt_of_le r4.lt hg6
  replace r4 := r4.belowAll bb
  have b6 : w.heap.size ≤ g6 := Nat.le_trans sb.size hg6
  replace sb := below_on sb (Nat.le_refl _) bb
  clear bb hg6 hnew
  dsimp only
  (repeat ((fail_if_success with_reducible refine rg ?_); go_step))
  apply wp_region_mixp [] [_, _] trivial List.nodup_nil
  ·intro p
   refine mx_move rfl rfl ?_
   simp only [Act.put, pu]
   refine mx_val (.bool false) (exec_neq_k .i64 _ _ _ _ rfl 0 0 rfl rfl false rfl) ?_
   simp only [Act.put, pu]
   refine mx_end ?_
   intro w4 hkw hrw hnew hdis
   replace r2 := hkw.row r2 (by simp <;> omega)
   replace r3 := hkw.row r3 (by simp <;> omega)
   replace r4 := hkw.row r4 (by simp <;> omega)
   replace r6 := hkw.row r6 (by simp <;> omega)
   replace sb := sb.trans (hkw.below w.heap.size sb.size (by simp <;> omega))
   clear hkw hrw hnew hdis
   (repeat ((fail_if_success with_reducible refine rg ?_); go_step))
   apply wp_region_mix (by kernel_rfl) [] [_, _, _, _, _, _, _, _, _] trivial List.nodup_nil
   ·intro p
    refine mx_load 24 _ rfl _ rfl r2 (by simp <;> omega) 4 _ Try.underlying24 size_nat ?_
    simp only [Act.put, pu]
    refine mx_call 33 _ _ rfl Try.func33 (by kernel_rfl) #[.int .i64 1] rfl _ hof ?_
    simp only [Act.put, pu]
    refine mx_call 62 _ _ rfl Try.func62 (by kernel_rfl) #[.agg (natC N), .agg (natC 1)] rfl _ hsu ?_
    simp only [Act.put, pu]
    refine mx_move rfl rfl ?_
    simp only [Act.put, pu]
    refine mx_ext rfl rfl rfl ?_
    simp only [Act.put, pu]
    refine mx_ext rfl rfl rfl ?_
    simp only [Act.put, pu]
    refine mx_new 24 rfl _ zero_nat ?_
    simp only [Act.put, pu]
    refine mx_put 13 24 _ _ rfl rfl rfl (natC L) rfl (by exact size_nat) (by simp only [natC_size]) (natC_one _) ?_
    simp only [Act.put]
    refine mx_asg rfl rfl ?_
    simp only [Act.put, pu]
    refine mx_end ?_
    intro w5 hkw hrw hnew hdis
    have n8 := hnew 6 rfl
    have zr8 : Row w5 (p 6) (natC L) 24 := hrw 13 (24, natC L) rfl
    replace r2 := hkw.row r2 (by simp <;> omega)
    replace r3 := hkw.row r3 (by simp <;> omega)
    replace r4 := hkw.row r4 (by simp <;> omega)
    replace r6 := hkw.row r6 (by simp <;> omega)
    replace sb := sb.trans (hkw.below w.heap.size sb.size (by simp <;> omega))
    clear hkw hrw hnew hdis n8
    generalize p 6 = g8 at *
    have r8 := zr8
    clear zr8
    (repeat ((fail_if_success with_reducible refine rg ?_); go_step))
    apply wp_region_mixp [] [_, _, _, _, _, _, _, _, _, _, _, _] trivial List.nodup_nil
    ·intro p
     refine mx_load 24 _ rfl _ rfl r8 (by simp <;> omega) 4 _ Try.underlying24 size_nat ?_
     simp only [Act.put, pu]
     refine mx_load 24 _ rfl _ rfl r3 (by simp <;> omega) 4 _ Try.underlying24 size_nat ?_
     simp only [Act.put, pu]
     refine mx_call 91 _ _ rfl Try.func91 (by kernel_rfl) #[.agg (natC L), .agg (natC F)] rfl _ hdi ?_
     simp only [Act.put, pu]
     refine mx_move rfl rfl ?_
     simp only [Act.put, pu]
     refine mx_ext rfl rfl rfl ?_
     simp only [Act.put, pu]
     refine mx_ext rfl rfl rfl ?_
     simp only [Act.put, pu]
     refine mx_ext rfl rfl rfl ?_
     simp only [Act.put, pu]
     refine mx_new 24 rfl _ zero_nat ?_
     simp only [Act.put, pu]
     refine mx_new 24 rfl _ zero_nat ?_
     simp only [Act.put, pu]
     refine mx_put 15 24 _ _ rfl rfl rfl (natC K) rfl (by exact size_nat) (by simp only [natC_size]) (natC_one _) ?_
     simp only [Act.put]
     refine mx_put 17 24 _ _ rfl rfl rfl (natC R) rfl (by exact size_nat) (by simp only [natC_size]) (natC_one _) ?_
     simp only [Act.put]
     refine mx_asg rfl rfl ?_
     simp only [Act.put, pu]
     refine mx_end ?_
     intro w6 hkw hrw hnew hdis
     have n10 := hnew 7 rfl
     have n11 := hnew 8 rfl
     have zr10 : Row w6 (p 7) (natC K) 24 := hrw 15 (24, natC K) rfl
     have zr11 : Row w6 (p 8) (natC R) 24 := hrw 17 (24, natC R) rfl
     have d2x10 := Nat.lt_of_lt_of_le r2.lt n10
     have d2x11 := Nat.lt_of_lt_of_le r2.lt n11
     have d3x10 := Nat.lt_of_lt_of_le r3.lt n10
     have d3x11 := Nat.lt_of_lt_of_le r3.lt n11
     have d4x10 := Nat.lt_of_lt_of_le r4.lt n10
     have d4x11 := Nat.lt_of_lt_of_le r4.lt n11
     have d6x10 := Nat.lt_of_lt_of_le r6.lt n10
     have d6x11 := Nat.lt_of_lt_of_le r6.lt n11
     have d10x11 := hdis 7 8 (by omega) rfl rfl
     replace r2 := hkw.row r2 (by simp <;> omega)
     replace r3 := hkw.row r3 (by simp <;> omega)
     replace r4 := hkw.row r4 (by simp <;> omega)
     replace r6 := hkw.row r6 (by simp <;> omega)
     have b10 := Nat.le_trans sb.size n10
     have b11 := Nat.le_trans sb.size n11
     replace sb := sb.trans (hkw.below w.heap.size sb.size (by simp <;> omega))
     clear hkw hrw hnew hdis n10 n11
     generalize p 7 = g10 at *
     generalize p 8 = g11 at *
     have r10 := zr10
     clear zr10
     have r11 := zr11
     clear zr11
     (repeat ((fail_if_success with_reducible refine rg ?_); go_step))
     refine wp_region_qp ?_
     refine qw_move (by rfl) rfl rfl ?_
     simp only [Act.put, pu]
     refine qw_value (by rfl) (.bool false) (exec_neq_k .i64 _ _ _ _ rfl er 0 rfl rfl false (by rw [decide_eq_true he]; rfl)) ?_
     simp only [Act.put, pu]
     refine qw_move (by rfl) rfl rfl ?_
     simp only [Act.put, pu]
     refine qw_load (by rfl) 24 _ rfl _ rfl r11 4 _ Try.underlying24 size_nat ?_
     simp only [Act.put, pu]
     refine qw_value (by rfl) (.agg (natC 0)) (exec_build0 24 rfl _ built_nat) ?_
     simp only [Act.put, pu]
     refine qw_value (by rfl) (.bool false) (fun w' => (exec_neq_nat _ _ _ rfl R 0 rfl rfl w').trans (by rw [hr])) ?_
     simp only [Act.put, pu]
     refine qw_pick false (v := .bool false) (by rfl) rfl rfl rfl ?_
     simp only [Act.put, pu]
     refine qw_move (by rfl) rfl rfl ?_
     simp only [Act.put, pu]
     refine qw_load (by rfl) 24 _ rfl _ rfl r3 4 _ Try.underlying24 size_nat ?_
     simp only [Act.put, pu]
     refine qw_load (by rfl) 24 _ rfl _ rfl r2 4 _ Try.underlying24 size_nat ?_
     simp only [Act.put, pu]
     refine qw_call (by rfl) 92 _ _ rfl Try.func92 (by kernel_rfl) #[.agg (natC F), .agg (natC N)] rfl _ hsq ?_
     simp only [Act.put, pu]
     refine qw_value (by rfl) (.bool true) (exec_not _ _ rfl false rfl) ?_
     simp only [Act.put, pu]
     refine qw_pick false (v := .bool true) (by rfl) rfl rfl rfl ?_
     simp only [Act.put, pu]
     refine qw_nil ?_
     intro w7 hqb
     replace r3 := r3.belowAll hqb
     replace r4 := r4.belowAll hqb
     replace r6 := r6.belowAll hqb
     replace r10 := r10.belowAll hqb
     replace sb := below_on sb (Nat.le_refl _) hqb
     clear hqb
     (repeat ((fail_if_success with_reducible refine rg ?_); go_step))
     apply wp_region_mixp [(g4, 101, clC none 0 0)] [_, _, _] ⟨r4, trivial⟩ (by simp <;> omega)
     ·intro p
      refine mx_val (.agg (clC none 0 0)) (exec_build0 101 rfl _ built_cl) ?_
      simp only [Act.put, pu]
      refine mx_put 0 101 _ _ rfl rfl rfl (clC none 0 0) rfl (by exact size_cl) (by rfl) (cl_one _ _ _) ?_
      simp only [Act.put]
      refine mx_val (.bool false) (fun _ => rfl) ?_
      simp only [Act.put, pu]
      refine mx_end ?_
      intro w8 hkw hrw hnew hdis
      have zr4 : Row w8 (g4) (clC none 0 0) 101 := hrw 0 (101, clC none 0 0) rfl
      replace sb := sb.trans (hkw.below w.heap.size sb.size (by simp <;> omega))
      clear hkw hrw hnew hdis r4
      have r4 := zr4
      clear zr4
      go_wp2
      exact ret_row2d rfl _ rfl r4 _ Try.underlying101 (by exact size_cl) rfl _ rfl ⟨rfl, sb⟩
     ·rfl
    ·rfl
   ·kernel_rfl
  ·rfl
 ·rfl
set_option maxRecDepth 100000 in
set_option maxHeartbeats 2000000 in
theorem claim_yes (N F L K R : Nat) (er lz : Int) (RG : Array Value) (w : World) (he : er = 0) (hr : (!decide (R % 2 ^ 256 = 0 % 2 ^ 256)) = false)
  (hnew : ∀ w', Calls Try.prog 31 #[.agg (natC N)] w' fun e w2 => ∃ g, e = .returned (.tuple #[.pointer (some ⟨g, 0, none⟩), .int .i64 0]) ∧ w'.heap.size ≤ g ∧ Row w2 g RG 80 ∧ Below w'.heap.size w' w2)
  (hof : ∀ w', Calls Try.prog 33 #[.int .i64 1] w' fun e w2 => e = .returned (.agg (natC 1)) ∧ Below w'.heap.size w' w2)
  (hsu : ∀ w', Calls Try.prog 62 #[.agg (natC N), .agg (natC 1)] w' fun e w2 => e = .returned (.tuple #[.agg (natC L), .int .i64 lz]) ∧ Below w'.heap.size w' w2)
  (hdi : ∀ w', Calls Try.prog 91 #[.agg (natC L), .agg (natC F)] w' fun e w2 => e = .returned (.tuple #[.agg (natC K), .agg (natC R), .int .i64 er]) ∧ Below w'.heap.size w' w2)
  (hsq : ∀ w', Calls Try.prog 92 #[.agg (natC F), .agg (natC N)] w' fun e w2 => e = .returned (.bool true) ∧ Below w'.heap.size w' w2) :
  Calls Try.prog 73 #[.agg (natC N), .agg (natC F)] w fun e w' => (∃ g, e = .returned (.tuple #[.agg (clC (some ⟨g, 0, none⟩) F K), .bool true]) ∧ w.heap.size ≤ g ∧ Row w' g RG 80) ∧ Below w.heap.size w w' := by
 go_enter Try.func73, Try.ntmps73
 (repeat ((fail_if_success with_reducible refine rg ?_); go_step))
 apply wp_region_mixp [] [_, _, _, _] trivial List.nodup_nil
 ·intro p
  refine mx_box 24 _ rfl _ rfl ?_
  simp only [Act.put, pu]
  refine mx_box 24 _ rfl _ rfl ?_
  simp only [Act.put, pu]
  refine mx_new 101 rfl _ zero_cl ?_
  simp only [Act.put, pu]
  refine mx_val (.bool false) (fun _ => rfl) ?_
  simp only [Act.put, pu]
  refine mx_end ?_
  intro w2 hkw hrw hnew hdis
  have n2 := hnew 0 rfl
  have n3 := hnew 1 rfl
  have n4 := hnew 2 rfl
  have zr2 : Row w2 (p 0) (natC N) 24 := hrw 1 (24, natC N) rfl
  have zr3 : Row w2 (p 1) (natC F) 24 := hrw 3 (24, natC F) rfl
  have zr4 : Row w2 (p 2) (clC none 0 0) 101 := hrw 5 (101, clC none 0 0) rfl
  have d2x3 := hdis 0 1 (by omega) rfl rfl
  have d2x4 := hdis 0 2 (by omega) rfl rfl
  have d3x4 := hdis 1 2 (by omega) rfl rfl
  have sb := hkw.below w.heap.size (Nat.le_refl _) (by simp)
  have b2 : w.heap.size ≤ p 0 := n2
  have b3 : w.heap.size ≤ p 1 := n3
  have b4 : w.heap.size ≤ p 2 := n4
  clear hkw hrw hnew hdis n2 n3 n4
  generalize p 0 = g2 at *
  generalize p 1 = g3 at *
  generalize p 2 = g4 at *
  have r2 := zr2
  clear zr2
  have r3 := zr3
  clear zr3
  have r4 := zr4
  clear zr4
  go_wp2_with (first
   | refine wpList_loadR rfl 24 _ rfl _ rfl r2 4 _ Try.underlying24 (by exact size_nat) ?_)
  refine (hnew _).mono ?_
  rintro _ wb ⟨g6, rfl, hg6, r6, bb⟩
  replace r2 := r2.belowAll bb
  replace r3 := r3.belowAll bb
  have d4x6 := Nat.lt_of_lt_of_le r4.lt hg6
  replace r4 := r4.belowAll bb
  have b6 : w.heap.size ≤ g6 := Nat.le_trans sb.size hg6
  replace sb := below_on sb (Nat.le_refl _) bb
  clear bb hg6 hnew
  dsimp only
  (repeat ((fail_if_success with_reducible refine rg ?_); go_step))
  apply wp_region_mixp [] [_, _] trivial List.nodup_nil
  ·intro p
   refine mx_move rfl rfl ?_
   simp only [Act.put, pu]
   refine mx_val (.bool false) (exec_neq_k .i64 _ _ _ _ rfl 0 0 rfl rfl false rfl) ?_
   simp only [Act.put, pu]
   refine mx_end ?_
   intro w4 hkw hrw hnew hdis
   replace r2 := hkw.row r2 (by simp <;> omega)
   replace r3 := hkw.row r3 (by simp <;> omega)
   replace r4 := hkw.row r4 (by simp <;> omega)
   replace r6 := hkw.row r6 (by simp <;> omega)
   replace sb := sb.trans (hkw.below w.heap.size sb.size (by simp <;> omega))
   clear hkw hrw hnew hdis
   (repeat ((fail_if_success with_reducible refine rg ?_); go_step))
   apply wp_region_mix (by kernel_rfl) [] [_, _, _, _, _, _, _, _, _] trivial List.nodup_nil
   ·intro p
    refine mx_load 24 _ rfl _ rfl r2 (by simp <;> omega) 4 _ Try.underlying24 size_nat ?_
    simp only [Act.put, pu]
    refine mx_call 33 _ _ rfl Try.func33 (by kernel_rfl) #[.int .i64 1] rfl _ hof ?_
    simp only [Act.put, pu]
    refine mx_call 62 _ _ rfl Try.func62 (by kernel_rfl) #[.agg (natC N), .agg (natC 1)] rfl _ hsu ?_
    simp only [Act.put, pu]
    refine mx_move rfl rfl ?_
    simp only [Act.put, pu]
    refine mx_ext rfl rfl rfl ?_
    simp only [Act.put, pu]
    refine mx_ext rfl rfl rfl ?_
    simp only [Act.put, pu]
    refine mx_new 24 rfl _ zero_nat ?_
    simp only [Act.put, pu]
    refine mx_put 13 24 _ _ rfl rfl rfl (natC L) rfl (by exact size_nat) (by simp only [natC_size]) (natC_one _) ?_
    simp only [Act.put]
    refine mx_asg rfl rfl ?_
    simp only [Act.put, pu]
    refine mx_end ?_
    intro w5 hkw hrw hnew hdis
    have n8 := hnew 6 rfl
    have zr8 : Row w5 (p 6) (natC L) 24 := hrw 13 (24, natC L) rfl
    replace r2 := hkw.row r2 (by simp <;> omega)
    replace r3 := hkw.row r3 (by simp <;> omega)
    replace r4 := hkw.row r4 (by simp <;> omega)
    replace r6 := hkw.row r6 (by simp <;> omega)
    replace sb := sb.trans (hkw.below w.heap.size sb.size (by simp <;> omega))
    clear hkw hrw hnew hdis n8
    generalize p 6 = g8 at *
    have r8 := zr8
    clear zr8
    (repeat ((fail_if_success with_reducible refine rg ?_); go_step))
    apply wp_region_mixp [] [_, _, _, _, _, _, _, _, _, _, _, _] trivial List.nodup_nil
    ·intro p
     refine mx_load 24 _ rfl _ rfl r8 (by simp <;> omega) 4 _ Try.underlying24 size_nat ?_
     simp only [Act.put, pu]
     refine mx_load 24 _ rfl _ rfl r3 (by simp <;> omega) 4 _ Try.underlying24 size_nat ?_
     simp only [Act.put, pu]
     refine mx_call 91 _ _ rfl Try.func91 (by kernel_rfl) #[.agg (natC L), .agg (natC F)] rfl _ hdi ?_
     simp only [Act.put, pu]
     refine mx_move rfl rfl ?_
     simp only [Act.put, pu]
     refine mx_ext rfl rfl rfl ?_
     simp only [Act.put, pu]
     refine mx_ext rfl rfl rfl ?_
     simp only [Act.put, pu]
     refine mx_ext rfl rfl rfl ?_
     simp only [Act.put, pu]
     refine mx_new 24 rfl _ zero_nat ?_
     simp only [Act.put, pu]
     refine mx_new 24 rfl _ zero_nat ?_
     simp only [Act.put, pu]
     refine mx_put 15 24 _ _ rfl rfl rfl (natC K) rfl (by exact size_nat) (by simp only [natC_size]) (natC_one _) ?_
     simp only [Act.put]
     refine mx_put 17 24 _ _ rfl rfl rfl (natC R) rfl (by exact size_nat) (by simp only [natC_size]) (natC_one _) ?_
     simp only [Act.put]
     refine mx_asg rfl rfl ?_
     simp only [Act.put, pu]
     refine mx_end ?_
     intro w6 hkw hrw hnew hdis
     have n10 := hnew 7 rfl
     have n11 := hnew 8 rfl
     have zr10 : Row w6 (p 7) (natC K) 24 := hrw 15 (24, natC K) rfl
     have zr11 : Row w6 (p 8) (natC R) 24 := hrw 17 (24, natC R) rfl
     have d2x10 := Nat.lt_of_lt_of_le r2.lt n10
     have d2x11 := Nat.lt_of_lt_of_le r2.lt n11
     have d3x10 := Nat.lt_of_lt_of_le r3.lt n10
     have d3x11 := Nat.lt_of_lt_of_le r3.lt n11
     have d4x10 := Nat.lt_of_lt_of_le r4.lt n10
     have d4x11 := Nat.lt_of_lt_of_le r4.lt n11
     have d6x10 := Nat.lt_of_lt_of_le r6.lt n10
     have d6x11 := Nat.lt_of_lt_of_le r6.lt n11
     have d10x11 := hdis 7 8 (by omega) rfl rfl
     replace r2 := hkw.row r2 (by simp <;> omega)
     replace r3 := hkw.row r3 (by simp <;> omega)
     replace r4 := hkw.row r4 (by simp <;> omega)
     replace r6 := hkw.row r6 (by simp <;> omega)
     have b10 := Nat.le_trans sb.size n10
     have b11 := Nat.le_trans sb.size n11
     replace sb := sb.trans (hkw.below w.heap.size sb.size (by simp <;> omega))
     clear hkw hrw hnew hdis n10 n11
     generalize p 7 = g10 at *
     generalize p 8 = g11 at *
     have r10 := zr10
     clear zr10
     have r11 := zr11
     clear zr11
     (repeat ((fail_if_success with_reducible refine rg ?_); go_step))
     refine wp_region_qp ?_
     refine qw_move (by rfl) rfl rfl ?_
     simp only [Act.put, pu]
     refine qw_value (by rfl) (.bool false) (exec_neq_k .i64 _ _ _ _ rfl er 0 rfl rfl false (by rw [decide_eq_true he]; rfl)) ?_
     simp only [Act.put, pu]
     refine qw_move (by rfl) rfl rfl ?_
     simp only [Act.put, pu]
     refine qw_load (by rfl) 24 _ rfl _ rfl r11 4 _ Try.underlying24 size_nat ?_
     simp only [Act.put, pu]
     refine qw_value (by rfl) (.agg (natC 0)) (exec_build0 24 rfl _ built_nat) ?_
     simp only [Act.put, pu]
     refine qw_value (by rfl) (.bool false) (fun w' => (exec_neq_nat _ _ _ rfl R 0 rfl rfl w').trans (by rw [hr])) ?_
     simp only [Act.put, pu]
     refine qw_pick false (v := .bool false) (by rfl) rfl rfl rfl ?_
     simp only [Act.put, pu]
     refine qw_move (by rfl) rfl rfl ?_
     simp only [Act.put, pu]
     refine qw_load (by rfl) 24 _ rfl _ rfl r3 4 _ Try.underlying24 size_nat ?_
     simp only [Act.put, pu]
     refine qw_load (by rfl) 24 _ rfl _ rfl r2 4 _ Try.underlying24 size_nat ?_
     simp only [Act.put, pu]
     refine qw_call (by rfl) 92 _ _ rfl Try.func92 (by kernel_rfl) #[.agg (natC F), .agg (natC N)] rfl _ hsq ?_
     simp only [Act.put, pu]
     refine qw_value (by rfl) (.bool false) (exec_not _ _ rfl true rfl) ?_
     simp only [Act.put, pu]
     refine qw_pick false (v := .bool false) (by rfl) rfl rfl rfl ?_
     simp only [Act.put, pu]
     refine qw_nil ?_
     intro w7 hqb
     replace r3 := r3.belowAll hqb
     replace r4 := r4.belowAll hqb
     replace r6 := r6.belowAll hqb
     replace r10 := r10.belowAll hqb
     replace sb := below_on sb (Nat.le_refl _) hqb
     clear hqb
     (repeat ((fail_if_success with_reducible refine rg ?_); go_step))
     apply wp_region_mixp [(g4, 101, clC none 0 0)] [_, _, _, _, _, _] ⟨r4, trivial⟩ (by simp <;> omega)
     ·intro p
      refine mx_move rfl rfl ?_
      simp only [Act.put, pu]
      refine mx_load 24 _ rfl _ rfl r3 (by simp <;> omega) 4 _ Try.underlying24 size_nat ?_
      simp only [Act.put, pu]
      refine mx_load 24 _ rfl _ rfl r10 (by simp <;> omega) 4 _ Try.underlying24 size_nat ?_
      simp only [Act.put, pu]
      refine mx_val (.agg (clC (some ⟨g6, 0, none⟩) F K)) (exec_claim (some ⟨g6, 0, none⟩) F K rfl rfl rfl rfl) ?_
      simp only [Act.put, pu]
      refine mx_put 0 101 _ _ rfl rfl rfl (clC (some ⟨g6, 0, none⟩) F K) rfl (by exact size_cl) (by rfl) (cl_one _ _ _) ?_
      simp only [Act.put]
      refine mx_val (.bool true) (fun _ => rfl) ?_
      simp only [Act.put, pu]
      refine mx_end ?_
      intro w8 hkw hrw hnew hdis
      have zr4 : Row w8 (g4) (clC (some ⟨g6, 0, none⟩) F K) 101 := hrw 0 (101, clC (some ⟨g6, 0, none⟩) F K) rfl
      replace r6 := hkw.row r6 (by simp <;> omega)
      replace sb := sb.trans (hkw.below w.heap.size sb.size (by simp <;> omega))
      clear hkw hrw hnew hdis r4
      have r4 := zr4
      clear zr4
      go_wp2
      exact ret_row2d rfl _ rfl r4 _ Try.underlying101 (by exact size_cl) rfl _ rfl ⟨⟨g6, rfl, b6, r6⟩, sb⟩
     ·rfl
    ·rfl
   ·kernel_rfl
  ·rfl
 ·rfl
theorem claim_parts (N F : Nat) (hN : N < 2 ^ 256) (hF : F < 2 ^ 256) (h1 : 1 ≤ N) :
  (∀ w', Calls Try.prog 33 #[.int .i64 1] w' fun e w2 => e = .returned (.agg (natC 1)) ∧ Below w'.heap.size w' w2) ∧
  (∀ w', Calls Try.prog 62 #[.agg (natC N), .agg (natC 1)] w' fun e w2 => e = .returned (.tuple #[.agg (natC (N - 1)), .int .i64 (bN N 1 256 : Nat)]) ∧ Below w'.heap.size w' w2) ∧
  (∀ w', Calls Try.prog 91 #[.agg (natC (N - 1)), .agg (natC F)] w' fun e w2 => e = .returned (.tuple #[.agg (natC (divZ (N - 1) F)), .agg (natC (modZ (N - 1) F)), .int .i64 (errI F)]) ∧ Below w'.heap.size w' w2) :=
 ⟨fun w' => nof_any 1 w' (by decide), fun w' => natC_less1 N h1 ▸ nsub_any N 1 w' (by decide), fun w' => wdiv_any (N - 1) F w' (by omega) hF⟩
/-- No witness may be. -/
theorem claim_no_any (N F : Nat) (w : World) (hN : N < 2 ^ 256) (hF : F < 2 ^ 256) (h : mayN N F = false) :
  Calls Try.prog 73 #[.agg (natC N), .agg (natC F)] w fun e w' => e = .returned (.tuple #[.agg (clC none 0 0), .bool false]) ∧ Below w.heap.size w w' := by
 by_cases ho : N % 2 = 0
 ·exact claim_none N F w fun w' => new_even N w' ho
 by_cases h1 : N = 1
 ·subst h1; exact claim_none 1 F w fun w' => new_one w'
 obtain ⟨c1, c2, c3⟩ := claim_parts N F hN hF (by omega)
 have hnew := fun w' => new_any N w' (by omega) (by omega) hN
 by_cases hf0 : F = 0
 ·refine claim_err N F (N - 1) _ _ _ _ _ w ?_ hnew c1 c2 c3
  unfold errI; rw [if_pos hf0]; decide
 have he : errI F = 0 := if_neg hf0
 have em : modZ (N - 1) F = (N - 1) % F := if_neg hf0
 have hml : (N - 1) % F < 2 ^ 256 := Nat.lt_trans (Nat.mod_lt _ (by omega)) hF
 rw [em] at c3
 by_cases hr : (N - 1) % F = 0
 ·refine claim_low N F (N - 1) _ _ _ _ _ w he (by rw [hr]; exact neq_no 0) hnew c1 c2 c3 fun w' => ?_
  have hs := sqab_any F N w' hF hN
  rw [decide_eq_false (show ¬ N < F * F from fun hlt => by
   have hm : mayN N F = true := by
    unfold mayN
    rw [decide_eq_true (show N % 2 = 1 by omega), decide_eq_true h1, decide_eq_true hf0, decide_eq_true hr, decide_eq_true hlt]; rfl
   rw [h] at hm; cases hm)] at hs
  exact hs
 ·exact claim_rest N F (N - 1) _ _ _ _ _ w he (neq_yes _ 0 hml (Nat.two_pow_pos _) hr) hnew c1 c2 c3
theorem mayN_facts {N F : Nat} (h : mayN N F = true) : N % 2 = 1 ∧ N ≠ 1 ∧ F ≠ 0 ∧ (N - 1) % F = 0 ∧ N < F * F := by
 unfold mayN at h
 simpa only [Bool.and_eq_true, decide_eq_true_iff] using h
/-- A claim. -/
theorem claim_any (N F : Nat) (w : World) (hN : N < 2 ^ 256) (hF : F < 2 ^ 256) (h : mayN N F = true) :
  Calls Try.prog 73 #[.agg (natC N), .agg (natC F)] w fun e w' => (∃ g, e = .returned (.tuple #[.agg (clC (some ⟨g, 0, none⟩) F ((N - 1) / F)), .bool true]) ∧ w.heap.size ≤ g ∧ Row w' g (rgC N (miL N) (oneL N) (sqL N)) 80) ∧ Below w.heap.size w w' := by
 obtain ⟨h1, h2, h3, h4, h5⟩ := mayN_facts h
 obtain ⟨c1, c2, c3⟩ := claim_parts N F hN hF (by omega)
 rw [show divZ (N - 1) F = (N - 1) / F from if_neg h3, show modZ (N - 1) F = (N - 1) % F from if_neg h3] at c3
 refine claim_yes N F (N - 1) ((N - 1) / F) _ _ _ _ w (if_neg h3) (by rw [h4]; exact neq_no 0) (fun w' => new_any N w' h1 (by omega) hN) c1 c2 c3 fun w' => ?_
 have hs := sqab_any F N w' hF hN
 rw [decide_eq_true h5] at hs
 exact hs
set_option maxRecDepth 100000 in
set_option maxHeartbeats 2000000 in
theorem shown_no (F K A X Y : Nat) (z : Int) (g : Nat) (RG : Array Value) (w : World) (r0 : Row w g RG 80) (hy : (!decide (Y % 2 ^ 256 = 1 % 2 ^ 256)) = true)
  (ho1 : ∀ w', Calls Try.prog 33 #[.int .i64 1] w' fun e w2 => e = .returned (.agg (natC 1)) ∧ Below w'.heap.size w' w2)
  (hoz : ∀ w', Calls Try.prog 33 #[.int .i64 z] w' fun e w2 => e = .returned (.agg (natC A)) ∧ Below w'.heap.size w' w2)
  (hx1 : ∀ w', Row w' g RG 80 → Calls Try.prog 32 #[.pointer (some ⟨g, 0, none⟩), .agg (natC A), .agg (natC K)] w' fun e w2 => e = .returned (.agg (natC X)) ∧ Below w'.heap.size w' w2)
  (hx2 : ∀ w', Row w' g RG 80 → Calls Try.prog 32 #[.pointer (some ⟨g, 0, none⟩), .agg (natC X), .agg (natC F)] w' fun e w2 => e = .returned (.agg (natC Y)) ∧ Below w'.heap.size w' w2) :
  Calls Try.prog 74 #[.agg (clC (some ⟨g, 0, none⟩) F K), .int .i64 z] w fun e w' => e = .returned (.bool false) ∧ Below w.heap.size w w' := by
 go_enter Try.func74, Try.ntmps74
 (repeat ((fail_if_success with_reducible refine rg ?_); go_step))
 apply wp_region_mixp [] [_, _] trivial List.nodup_nil
 ·intro p
  refine mx_box 101 _ rfl _ rfl ?_
  simp only [Act.put, pu]
  refine mx_val (.bool false) (fun _ => rfl) ?_
  simp only [Act.put, pu]
  refine mx_end ?_
  intro w2 hkw hrw hnew hdis
  have n2 := hnew 0 rfl
  have zr2 : Row w2 (p 0) (clC (some ⟨g, 0, none⟩) F K) 101 := hrw 1 (101, clC (some ⟨g, 0, none⟩) F K) rfl
  have d0x2 := Nat.lt_of_lt_of_le r0.lt n2
  replace r0 := hkw.row r0 (by simp <;> omega)
  have sb := hkw.below w.heap.size (Nat.le_refl _) (by simp)
  have b2 : w.heap.size ≤ p 0 := n2
  clear hkw hrw hnew hdis n2
  generalize p 0 = g2 at *
  have r2 := zr2
  clear zr2
  (repeat ((fail_if_success with_reducible refine rg ?_); go_step))
  apply wp_region_mixp [] [_, _, _] trivial List.nodup_nil
  ·intro p
   refine mx_call 33 _ _ rfl Try.func33 (by kernel_rfl) #[.int .i64 1] rfl _ ho1 ?_
   simp only [Act.put, pu]
   refine mx_new 24 rfl _ zero_nat ?_
   simp only [Act.put, pu]
   refine mx_put 3 24 _ _ rfl rfl rfl (natC 1) rfl (by exact size_nat) (by simp only [natC_size]) (natC_one _) ?_
   simp only [Act.put]
   refine mx_end ?_
   intro w3 hkw hrw hnew hdis
   have n5 := hnew 1 rfl
   have zr5 : Row w3 (p 1) (natC 1) 24 := hrw 3 (24, natC 1) rfl
   replace r0 := hkw.row r0 (by simp <;> omega)
   replace r2 := hkw.row r2 (by simp <;> omega)
   replace sb := sb.trans (hkw.below w.heap.size sb.size (by simp <;> omega))
   clear hkw hrw hnew hdis n5
   generalize p 1 = g5 at *
   have r5 := zr5
   clear zr5
   (repeat ((fail_if_success with_reducible refine rg ?_); go_step))
   apply wp_region_mix (by kernel_rfl) [] [_, _, _, _, _, _, _, _, _] trivial List.nodup_nil
   ·intro p
    refine mx_val (.pointer (some ⟨g2, 0, none⟩)) (exec_field 101 _ 0 rfl g2 0 rfl _ Try.underlying101 _ rfl 0 Try.sizeOf54) ?_
    simp only [Act.put, pu]
    refine mx_loadc 54 _ rfl _ (0) rfl r2 (by simp <;> omega) (.pointer (some ⟨g, 0, none⟩)) rfl Try.isAgg54 ?_
    simp only [Act.put, pu]
    refine mx_move rfl rfl ?_
    simp only [Act.put, pu]
    refine mx_call 33 _ _ rfl Try.func33 (by kernel_rfl) #[.int .i64 z] rfl _ hoz ?_
    simp only [Act.put, pu]
    refine mx_val (.pointer (some ⟨g2, 5, none⟩)) (exec_field 101 _ 2 rfl g2 0 rfl _ Try.underlying101 _ rfl 3 Try.sizeOf24) ?_
    simp only [Act.put, pu]
    refine mx_loadm 24 _ rfl _ (5) rfl r2 (by simp <;> omega) (natC K) (cl_k _ F K) _ Try.underlying24 rfl size_nat ?_
    simp only [Act.put, pu]
    refine mx_callK 32 _ _ rfl Try.func32 (by kernel_rfl) #[.pointer (some ⟨g, 0, none⟩), .agg (natC A), .agg (natC K)] rfl _ (fun w' hk => hx1 w' (hk.row r0 (by simp))) ?_
    simp only [Act.put, pu]
    refine mx_new 24 rfl _ zero_nat ?_
    simp only [Act.put, pu]
    refine mx_put 15 24 _ _ rfl rfl rfl (natC X) rfl (by exact size_nat) (by simp only [natC_size]) (natC_one _) ?_
    simp only [Act.put]
    refine mx_end ?_
    intro w4 hkw hrw hnew hdis
    have n6 := hnew 7 rfl
    have zr6 : Row w4 (p 7) (natC X) 24 := hrw 15 (24, natC X) rfl
    replace r0 := hkw.row r0 (by simp <;> omega)
    replace r2 := hkw.row r2 (by simp <;> omega)
    replace r5 := hkw.row r5 (by simp <;> omega)
    replace sb := sb.trans (hkw.below w.heap.size sb.size (by simp <;> omega))
    clear hkw hrw hnew hdis n6
    generalize p 7 = g6 at *
    have r6 := zr6
    clear zr6
    (repeat ((fail_if_success with_reducible refine rg ?_); go_step))
    refine wp_region_qw (by kernel_rfl) (by kernel_rfl) ?_
    refine qw_value (by rfl) (.pointer (some ⟨g2, 0, none⟩)) (exec_field 101 _ 0 rfl g2 0 rfl _ Try.underlying101 _ rfl 0 Try.sizeOf54) ?_
    simp only [Act.put, pu]
    refine qw_loadc (by rfl) 54 _ rfl _ (0) rfl r2 (.pointer (some ⟨g, 0, none⟩)) rfl Try.isAgg54 ?_
    simp only [Act.put, pu]
    refine qw_load (by rfl) 24 _ rfl _ rfl r6 4 _ Try.underlying24 size_nat ?_
    simp only [Act.put, pu]
    refine qw_value (by rfl) (.pointer (some ⟨g2, 1, none⟩)) (exec_field 101 _ 1 rfl g2 0 rfl _ Try.underlying101 _ rfl 3 Try.sizeOf24) ?_
    simp only [Act.put, pu]
    refine qw_loadm (by rfl) 24 _ rfl _ (1) rfl r2 (natC F) (cl_f _ F K) _ Try.underlying24 rfl size_nat ?_
    simp only [Act.put, pu]
    refine qw_callK (by rfl) 32 _ _ rfl Try.func32 (by kernel_rfl) #[.pointer (some ⟨g, 0, none⟩), .agg (natC X), .agg (natC F)] rfl _ (fun w' hb => hx2 w' (r0.belowAll hb)) ?_
    simp only [Act.put, pu]
    refine qw_load (by rfl) 24 _ rfl _ rfl r5 4 _ Try.underlying24 size_nat ?_
    simp only [Act.put, pu]
    refine qw_value (by rfl) (.bool true) (fun w' => (exec_neq_nat _ _ _ rfl Y 1 rfl rfl w').trans (by rw [hy])) ?_
    simp only [Act.put, pu]
    refine qw_nil ?_
    intro w5 hqb
    replace sb := below_on sb (Nat.le_refl _) hqb
    clear hqb
    go_wp2
    go_ret
    exact ⟨rfl, sb⟩
   ·kernel_rfl
  ·rfl
 ·rfl
set_option maxRecDepth 100000 in
set_option maxHeartbeats 2000000 in
theorem shown_yes (N F K A X Y L G : Nat) (z : Int) (g : Nat) (RG : Array Value) (w : World) (r0 : Row w g RG 80) (lz : Int) (B : Bool) (hy : Y = 1) (hB : decide (G % 2 ^ 256 = 1 % 2 ^ 256) = B)
  (ho1 : ∀ w', Calls Try.prog 33 #[.int .i64 1] w' fun e w2 => e = .returned (.agg (natC 1)) ∧ Below w'.heap.size w' w2)
  (hoz : ∀ w', Calls Try.prog 33 #[.int .i64 z] w' fun e w2 => e = .returned (.agg (natC A)) ∧ Below w'.heap.size w' w2)
  (hx1 : ∀ w', Row w' g RG 80 → Calls Try.prog 32 #[.pointer (some ⟨g, 0, none⟩), .agg (natC A), .agg (natC K)] w' fun e w2 => e = .returned (.agg (natC X)) ∧ Below w'.heap.size w' w2)
  (hx2 : ∀ w', Row w' g RG 80 → Calls Try.prog 32 #[.pointer (some ⟨g, 0, none⟩), .agg (natC X), .agg (natC F)] w' fun e w2 => e = .returned (.agg (natC Y)) ∧ Below w'.heap.size w' w2)
  (hsu : ∀ w', Calls Try.prog 62 #[.agg (natC X), .agg (natC 1)] w' fun e w2 => e = .returned (.tuple #[.agg (natC L), .int .i64 lz]) ∧ Below w'.heap.size w' w2)
  (hM : ∀ w', Row w' g RG 80 → Calls Try.prog 94 #[.pointer (some ⟨g, 0, none⟩)] w' fun e w2 => e = .returned (.agg (natC N)) ∧ Below w'.heap.size w' w2)
  (hgc : ∀ w', Calls Try.prog 93 #[.agg (natC N), .agg (natC L)] w' fun e w2 => e = .returned (.agg (natC G)) ∧ Below w'.heap.size w' w2) :
  Calls Try.prog 74 #[.agg (clC (some ⟨g, 0, none⟩) F K), .int .i64 z] w fun e w' => e = .returned (.bool B) ∧ Below w.heap.size w w' := by
 go_enter Try.func74, Try.ntmps74
 (repeat ((fail_if_success with_reducible refine rg ?_); go_step))
 apply wp_region_mixp [] [_, _] trivial List.nodup_nil
 ·intro p
  refine mx_box 101 _ rfl _ rfl ?_
  simp only [Act.put, pu]
  refine mx_val (.bool false) (fun _ => rfl) ?_
  simp only [Act.put, pu]
  refine mx_end ?_
  intro w2 hkw hrw hnew hdis
  have n2 := hnew 0 rfl
  have zr2 : Row w2 (p 0) (clC (some ⟨g, 0, none⟩) F K) 101 := hrw 1 (101, clC (some ⟨g, 0, none⟩) F K) rfl
  have d0x2 := Nat.lt_of_lt_of_le r0.lt n2
  replace r0 := hkw.row r0 (by simp <;> omega)
  have sb := hkw.below w.heap.size (Nat.le_refl _) (by simp)
  have b2 : w.heap.size ≤ p 0 := n2
  clear hkw hrw hnew hdis n2
  generalize p 0 = g2 at *
  have r2 := zr2
  clear zr2
  (repeat ((fail_if_success with_reducible refine rg ?_); go_step))
  apply wp_region_mixp [] [_, _, _] trivial List.nodup_nil
  ·intro p
   refine mx_call 33 _ _ rfl Try.func33 (by kernel_rfl) #[.int .i64 1] rfl _ ho1 ?_
   simp only [Act.put, pu]
   refine mx_new 24 rfl _ zero_nat ?_
   simp only [Act.put, pu]
   refine mx_put 3 24 _ _ rfl rfl rfl (natC 1) rfl (by exact size_nat) (by simp only [natC_size]) (natC_one _) ?_
   simp only [Act.put]
   refine mx_end ?_
   intro w3 hkw hrw hnew hdis
   have n5 := hnew 1 rfl
   have zr5 : Row w3 (p 1) (natC 1) 24 := hrw 3 (24, natC 1) rfl
   replace r0 := hkw.row r0 (by simp <;> omega)
   replace r2 := hkw.row r2 (by simp <;> omega)
   replace sb := sb.trans (hkw.below w.heap.size sb.size (by simp <;> omega))
   clear hkw hrw hnew hdis n5
   generalize p 1 = g5 at *
   have r5 := zr5
   clear zr5
   (repeat ((fail_if_success with_reducible refine rg ?_); go_step))
   apply wp_region_mix (by kernel_rfl) [] [_, _, _, _, _, _, _, _, _] trivial List.nodup_nil
   ·intro p
    refine mx_val (.pointer (some ⟨g2, 0, none⟩)) (exec_field 101 _ 0 rfl g2 0 rfl _ Try.underlying101 _ rfl 0 Try.sizeOf54) ?_
    simp only [Act.put, pu]
    refine mx_loadc 54 _ rfl _ (0) rfl r2 (by simp <;> omega) (.pointer (some ⟨g, 0, none⟩)) rfl Try.isAgg54 ?_
    simp only [Act.put, pu]
    refine mx_move rfl rfl ?_
    simp only [Act.put, pu]
    refine mx_call 33 _ _ rfl Try.func33 (by kernel_rfl) #[.int .i64 z] rfl _ hoz ?_
    simp only [Act.put, pu]
    refine mx_val (.pointer (some ⟨g2, 5, none⟩)) (exec_field 101 _ 2 rfl g2 0 rfl _ Try.underlying101 _ rfl 3 Try.sizeOf24) ?_
    simp only [Act.put, pu]
    refine mx_loadm 24 _ rfl _ (5) rfl r2 (by simp <;> omega) (natC K) (cl_k _ F K) _ Try.underlying24 rfl size_nat ?_
    simp only [Act.put, pu]
    refine mx_callK 32 _ _ rfl Try.func32 (by kernel_rfl) #[.pointer (some ⟨g, 0, none⟩), .agg (natC A), .agg (natC K)] rfl _ (fun w' hk => hx1 w' (hk.row r0 (by simp))) ?_
    simp only [Act.put, pu]
    refine mx_new 24 rfl _ zero_nat ?_
    simp only [Act.put, pu]
    refine mx_put 15 24 _ _ rfl rfl rfl (natC X) rfl (by exact size_nat) (by simp only [natC_size]) (natC_one _) ?_
    simp only [Act.put]
    refine mx_end ?_
    intro w4 hkw hrw hnew hdis
    have n6 := hnew 7 rfl
    have zr6 : Row w4 (p 7) (natC X) 24 := hrw 15 (24, natC X) rfl
    replace r0 := hkw.row r0 (by simp <;> omega)
    replace r2 := hkw.row r2 (by simp <;> omega)
    replace r5 := hkw.row r5 (by simp <;> omega)
    replace sb := sb.trans (hkw.below w.heap.size sb.size (by simp <;> omega))
    clear hkw hrw hnew hdis n6
    generalize p 7 = g6 at *
    have r6 := zr6
    clear zr6
    (repeat ((fail_if_success with_reducible refine rg ?_); go_step))
    refine wp_region_qw (by kernel_rfl) (by kernel_rfl) ?_
    refine qw_value (by rfl) (.pointer (some ⟨g2, 0, none⟩)) (exec_field 101 _ 0 rfl g2 0 rfl _ Try.underlying101 _ rfl 0 Try.sizeOf54) ?_
    simp only [Act.put, pu]
    refine qw_loadc (by rfl) 54 _ rfl _ (0) rfl r2 (.pointer (some ⟨g, 0, none⟩)) rfl Try.isAgg54 ?_
    simp only [Act.put, pu]
    refine qw_load (by rfl) 24 _ rfl _ rfl r6 4 _ Try.underlying24 size_nat ?_
    simp only [Act.put, pu]
    refine qw_value (by rfl) (.pointer (some ⟨g2, 1, none⟩)) (exec_field 101 _ 1 rfl g2 0 rfl _ Try.underlying101 _ rfl 3 Try.sizeOf24) ?_
    simp only [Act.put, pu]
    refine qw_loadm (by rfl) 24 _ rfl _ (1) rfl r2 (natC F) (cl_f _ F K) _ Try.underlying24 rfl size_nat ?_
    simp only [Act.put, pu]
    refine qw_callK (by rfl) 32 _ _ rfl Try.func32 (by kernel_rfl) #[.pointer (some ⟨g, 0, none⟩), .agg (natC X), .agg (natC F)] rfl _ (fun w' hb => hx2 w' (r0.belowAll hb)) ?_
    simp only [Act.put, pu]
    refine qw_load (by rfl) 24 _ rfl _ rfl r5 4 _ Try.underlying24 size_nat ?_
    simp only [Act.put, pu]
    refine qw_value (by rfl) (.bool false) (fun w' => (exec_neq_nat _ _ _ rfl Y 1 rfl rfl w').trans (by rw [hy, neq_no])) ?_
    simp only [Act.put, pu]
    refine qw_nil ?_
    intro w5 hqb
    replace r0 := r0.belowAll hqb
    replace r2 := r2.belowAll hqb
    replace r5 := r5.belowAll hqb
    replace r6 := r6.belowAll hqb
    replace sb := below_on sb (Nat.le_refl _) hqb
    clear hqb
    (repeat ((fail_if_success with_reducible refine rg ?_); go_step))
    apply wp_region_mixp [] [_, _, _, _, _, _, _, _, _] trivial List.nodup_nil
    ·intro p
     refine mx_load 24 _ rfl _ rfl r6 (by simp <;> omega) 4 _ Try.underlying24 size_nat ?_
     simp only [Act.put, pu]
     refine mx_load 24 _ rfl _ rfl r5 (by simp <;> omega) 4 _ Try.underlying24 size_nat ?_
     simp only [Act.put, pu]
     refine mx_call 62 _ _ rfl Try.func62 (by kernel_rfl) #[.agg (natC X), .agg (natC 1)] rfl _ hsu ?_
     simp only [Act.put, pu]
     refine mx_move rfl rfl ?_
     simp only [Act.put, pu]
     refine mx_ext rfl rfl rfl ?_
     simp only [Act.put, pu]
     refine mx_ext rfl rfl rfl ?_
     simp only [Act.put, pu]
     refine mx_new 24 rfl _ zero_nat ?_
     simp only [Act.put, pu]
     refine mx_put 13 24 _ _ rfl rfl rfl (natC L) rfl (by exact size_nat) (by simp only [natC_size]) (natC_one _) ?_
     simp only [Act.put]
     refine mx_asg rfl rfl ?_
     simp only [Act.put, pu]
     refine mx_end ?_
     intro w6 hkw hrw hnew hdis
     have n7 := hnew 6 rfl
     have zr7 : Row w6 (p 6) (natC L) 24 := hrw 13 (24, natC L) rfl
     replace r0 := hkw.row r0 (by simp <;> omega)
     replace r2 := hkw.row r2 (by simp <;> omega)
     replace r5 := hkw.row r5 (by simp <;> omega)
     replace sb := sb.trans (hkw.below w.heap.size sb.size (by simp <;> omega))
     clear hkw hrw hnew hdis n7
     generalize p 6 = g7 at *
     have r7 := zr7
     clear zr7
     (repeat ((fail_if_success with_reducible refine rg ?_); go_step))
     refine wp_region_qw (by kernel_rfl) (by kernel_rfl) ?_
     refine qw_value (by rfl) (.pointer (some ⟨g2, 0, none⟩)) (exec_field 101 _ 0 rfl g2 0 rfl _ Try.underlying101 _ rfl 0 Try.sizeOf54) ?_
     simp only [Act.put, pu]
     refine qw_loadc (by rfl) 54 _ rfl _ (0) rfl r2 (.pointer (some ⟨g, 0, none⟩)) rfl Try.isAgg54 ?_
     simp only [Act.put, pu]
     refine qw_callK (by rfl) 94 _ _ rfl Try.func94 (by kernel_rfl) #[.pointer (some ⟨g, 0, none⟩)] rfl _ (fun w' hb => hM w' (r0.belowAll hb)) ?_
     simp only [Act.put, pu]
     refine qw_load (by rfl) 24 _ rfl _ rfl r7 4 _ Try.underlying24 size_nat ?_
     simp only [Act.put, pu]
     refine qw_call (by rfl) 93 _ _ rfl Try.func93 (by kernel_rfl) #[.agg (natC N), .agg (natC L)] rfl _ hgc ?_
     simp only [Act.put, pu]
     refine qw_load (by rfl) 24 _ rfl _ rfl r5 4 _ Try.underlying24 size_nat ?_
     simp only [Act.put, pu]
     refine qw_value (by rfl) (.bool B) (fun w' => (exec_eql_nat _ _ _ rfl G 1 rfl rfl w').trans (by rw [hB])) ?_
     simp only [Act.put, pu]
     refine qw_asg (by rfl) rfl rfl ?_
     simp only [Act.put, pu]
     refine qw_nil ?_
     intro w7 hqb
     replace sb := below_on sb (Nat.le_refl _) hqb
     clear hqb
     go_wp2
     go_ret
     exact ⟨rfl, sb⟩
    ·rfl
   ·kernel_rfl
  ·rfl
 ·rfl
/-- Whether a number shows a claim. -/
theorem shown_any (N F K a g : Nat) (w : World) (hN : N < 2 ^ 256) (ho : N % 2 = 1) (h2 : 2 ≤ N) (hF : F < 2 ^ 256) (hF0 : F ≠ 0) (hK : K < 2 ^ 256) (ha : a < 9223372036854775808) (r0 : Row w g (rgC N (miL N) (oneL N) (sqL N)) 80) :
  Calls Try.prog 74 #[.agg (clC (some ⟨g, 0, none⟩) F K), .int .i64 a] w fun e w' => e = .returned (.bool (decide ((a ^ K % N) ^ F % N = 1) && decide (Nat.gcd N (a ^ K % N - 1) = 1))) ∧ Below w.heap.size w w' := by
 have lm' : ∀ z, z % N < 2 ^ 256 := fun z => Nat.lt_trans (Nat.mod_lt _ (by omega)) hN
 have o1 := fun w' => nof_any 1 w' (by decide)
 have oz := fun w' => nof_any (a : Int) w' (by omega)
 rw [Int.toNat_natCast] at oz
 have hx1 := fun w' r => exp_any a K N g w' (by omega) hK hN ho h2 r
 have hx2 := fun w' r => exp_any (a ^ K % N) F N g w' (lm' _) hF hN ho h2 r
 by_cases hy : (a ^ K % N) ^ F % N = 1
 ·have hX : 1 ≤ a ^ K % N := by
   rcases Nat.eq_zero_or_pos (a ^ K % N) with h0 | h0
   ·rw [h0, Nat.zero_pow (by omega), Nat.zero_mod] at hy; cases hy
   ·exact h0
  have hG : Nat.gcd N (a ^ K % N - 1) < 2 ^ 256 := Nat.lt_of_le_of_lt (Nat.gcd_le_left _ (by omega)) hN
  rw [decide_eq_true hy, Bool.true_and]
  exact shown_yes N F K a (a ^ K % N) _ (a ^ K % N - 1) _ a g _ w r0 (bN (a ^ K % N) 1 256 : Nat) _ hy (eql_dec _ 1 hG (by decide)) o1 oz hx1 hx2
   (fun w' => natC_less1 _ hX ▸ nsub_any _ 1 w' (by decide)) (fun w' r => ringM_any N _ _ _ g w' (by omega) hN r) (fun w' => wgcd_any N _ w' hN (Nat.lt_of_le_of_lt (Nat.sub_le _ _) (lm' _)))
 ·rw [decide_eq_false hy, Bool.false_and]
  exact shown_no F K a (a ^ K % N) _ a g _ w r0 (neq_yes _ 1 (lm' _) (by decide) hy) o1 oz hx1 hx2
end Go.Proofs.Ytcgeimbfijpocaa
