/- The document's Div, AddMod, MulMod. -/
import Derived.Test.YteddgjoailpgaaaGO
import Derived.Test.YteddgjoailpgaaaGH
import Derived.Test.YteddgjoailpgaaaGI
import Derived.Test.YteddgjoailpgaaaGC
import Derived.Test.YteddgjoailpgaaaGE
namespace Go.Proofs.Yteddgjoailpgaaa
open Go.RowKit
set_option maxRecDepth 100000 in
set_option maxHeartbeats 1000000 in
theorem raddmod_core (A B M S R : Nat) (c : Nat) (e0 : Int) (w : World)
  (had : ∀ w', Calls Try.prog 42 #[.agg (natC A), .agg (natC B)] w' fun e w2 => e = .returned (.tuple #[.agg (natC S), .int .i64 c]) ∧ Below w'.heap.size w' w2)
  (hin : ∀ w', Calls Try.prog 44 #[.int .i64 c] w' fun e w2 => e = .returned (.agg (natC c)) ∧ Below w'.heap.size w' w2)
  (hre : ∀ w', Calls Try.prog 43 #[.agg (natC S), .agg (natC c), .agg (natC M)] w' fun e w2 => e = .returned (.tuple #[.agg (natC R), .int .i64 e0]) ∧ Below w'.heap.size w' w2) :
  Calls Try.prog 10 #[.agg (natC A), .agg (natC B), .agg (natC M)] w fun e w' => e = .returned (.tuple #[.agg (natC R), .int .i64 e0]) ∧ Below w.heap.size w w' := by
 go_enter Try.func10, Try.ntmps10
 (repeat ((fail_if_success with_reducible refine rg ?_); go_step))
 apply wp_region_mixp [] [_, _, _, _, _] trivial List.nodup_nil
 ·intro p
  refine mx_box 24 _ rfl _ rfl ?_
  simp only [Act.put, pu]
  refine mx_box 24 _ rfl _ rfl ?_
  simp only [Act.put, pu]
  refine mx_box 24 _ rfl _ rfl ?_
  simp only [Act.put, pu]
  refine mx_new 24 rfl _ zero_nat ?_
  simp only [Act.put, pu]
  refine mx_val (.int .i64 0) (fun _ => rfl) ?_
  simp only [Act.put, pu]
  refine mx_end ?_
  intro w2 hkw hrw hnew hdis
  have n3 := hnew 0 rfl
  have n4 := hnew 1 rfl
  have n5 := hnew 2 rfl
  have n6 := hnew 3 rfl
  have zr3 : Row w2 (p 0) (natC A) 24 := hrw 1 (24, natC A) rfl
  have zr4 : Row w2 (p 1) (natC B) 24 := hrw 3 (24, natC B) rfl
  have zr5 : Row w2 (p 2) (natC M) 24 := hrw 5 (24, natC M) rfl
  have zr6 : Row w2 (p 3) (natC 0) 24 := hrw 7 (24, natC 0) rfl
  have d3x4 := hdis 0 1 (by omega) rfl rfl
  have d3x5 := hdis 0 2 (by omega) rfl rfl
  have d3x6 := hdis 0 3 (by omega) rfl rfl
  have d4x5 := hdis 1 2 (by omega) rfl rfl
  have d4x6 := hdis 1 3 (by omega) rfl rfl
  have d5x6 := hdis 2 3 (by omega) rfl rfl
  have sb := hkw.below w.heap.size (Nat.le_refl _) (by simp)
  have b3 : w.heap.size ≤ p 0 := n3
  have b4 : w.heap.size ≤ p 1 := n4
  have b5 : w.heap.size ≤ p 2 := n5
  have b6 : w.heap.size ≤ p 3 := n6
  clear hkw hrw hnew hdis n3 n4 n5 n6
  generalize p 0 = g3 at *
  generalize p 1 = g4 at *
  generalize p 2 = g5 at *
  generalize p 3 = g6 at *
  have r3 := zr3
  clear zr3
  have r4 := zr4
  clear zr4
  have r5 := zr5
  clear zr5
  have r6 := zr6
  clear zr6
  (repeat ((fail_if_success with_reducible refine rg ?_); go_step))
  apply wp_region_mixp [] [_, _, _, _, _, _, _, _, _] trivial List.nodup_nil
  ·intro p
   refine mx_load 24 _ rfl _ rfl r3 (by simp <;> omega) 4 _ Try.underlying24 size_nat ?_
   simp only [Act.put, pu]
   refine mx_load 24 _ rfl _ rfl r4 (by simp <;> omega) 4 _ Try.underlying24 size_nat ?_
   simp only [Act.put, pu]
   refine mx_call 42 _ _ rfl Try.func42 (by kernel_rfl) #[.agg (natC A), .agg (natC B)] rfl _ had ?_
   simp only [Act.put, pu]
   refine mx_move rfl rfl ?_
   simp only [Act.put, pu]
   refine mx_ext rfl rfl rfl ?_
   simp only [Act.put, pu]
   refine mx_ext rfl rfl rfl ?_
   simp only [Act.put, pu]
   refine mx_new 24 rfl _ zero_nat ?_
   simp only [Act.put, pu]
   refine mx_put 13 24 _ _ rfl rfl rfl (natC S) rfl (by exact size_nat) (by simp only [natC_size]) (natC_one _) ?_
   simp only [Act.put]
   refine mx_asg rfl rfl ?_
   simp only [Act.put, pu]
   refine mx_end ?_
   intro w3 hkw hrw hnew hdis
   have n8 := hnew 6 rfl
   have zr8 : Row w3 (p 6) (natC S) 24 := hrw 13 (24, natC S) rfl
   have d5x8 := Nat.lt_of_lt_of_le r5.lt n8
   have d6x8 := Nat.lt_of_lt_of_le r6.lt n8
   replace r5 := hkw.row r5 (by simp <;> omega)
   replace r6 := hkw.row r6 (by simp <;> omega)
   have b8 := Nat.le_trans sb.size n8
   replace sb := sb.trans (hkw.below w.heap.size sb.size (by simp <;> omega))
   clear hkw hrw hnew hdis n8
   generalize p 6 = g8 at *
   have r8 := zr8
   clear zr8
   (repeat ((fail_if_success with_reducible refine rg ?_); go_step))
   apply wp_region_mix (by kernel_rfl) [(g6, 24, natC 0)] [_, _, _, _, _, _, _, _, _] ⟨r6, trivial⟩ (by simp <;> omega)
   ·intro p
    refine mx_load 24 _ rfl _ rfl r8 (by simp <;> omega) 4 _ Try.underlying24 size_nat ?_
    simp only [Act.put, pu]
    refine mx_move rfl rfl ?_
    simp only [Act.put, pu]
    refine mx_call 44 _ _ rfl Try.func44 (by kernel_rfl) #[.int .i64 c] rfl _ hin ?_
    simp only [Act.put, pu]
    refine mx_load 24 _ rfl _ rfl r5 (by simp <;> omega) 4 _ Try.underlying24 size_nat ?_
    simp only [Act.put, pu]
    refine mx_call 43 _ _ rfl Try.func43 (by kernel_rfl) #[.agg (natC S), .agg (natC c), .agg (natC M)] rfl _ hre ?_
    simp only [Act.put, pu]
    refine mx_ext rfl rfl rfl ?_
    simp only [Act.put, pu]
    refine mx_ext rfl rfl rfl ?_
    simp only [Act.put, pu]
    refine mx_put 0 24 _ _ rfl rfl rfl (natC R) rfl (by exact size_nat) (by simp only [natC_size]) (natC_one _) ?_
    simp only [Act.put]
    refine mx_asg rfl rfl ?_
    simp only [Act.put, pu]
    refine mx_end ?_
    intro w4 hkw hrw hnew hdis
    have zr6 : Row w4 (g6) (natC R) 24 := hrw 0 (24, natC R) rfl
    replace sb := sb.trans (hkw.below w.heap.size sb.size (by simp <;> omega))
    clear hkw hrw hnew hdis r6
    have r6 := zr6
    clear zr6
    go_wp2
    exact ret_row2 rfl _ rfl r6 4 _ Try.underlying24 (by exact size_nat) rfl _ rfl ⟨rfl, sb⟩
   ·kernel_rfl
  ·rfl
 ·rfl
theorem raddmod_any (A B M : Nat) (w : World) (hA : A < 2 ^ 256) (hB : B < 2 ^ 256) (hM : M < 2 ^ 256) :
  Calls Try.prog 10 #[.agg (natC A), .agg (natC B), .agg (natC M)] w fun e w' => e = .returned (.tuple #[.agg (natC (modZ (A + B) M)), .int .i64 (errI M)]) ∧ Below w.heap.size w w' := by
 have hc := cN_le A B 256
 have hs : cN A B 256 * 2 ^ 256 + (A + B) % 2 ^ 256 = A + B := by
  rw [cN_eq, Nat.mod_eq_of_lt hA, Nat.mod_eq_of_lt hB]
  split
  ·rw [Nat.mod_eq_sub_mod (by omega), Nat.mod_eq_of_lt (by omega)]; omega
  ·rw [Nat.mod_eq_of_lt (by omega)]; omega
 refine raddmod_core A B M ((A + B) % 2 ^ 256) _ (cN A B 256) _ w (fun w' => ?_) (fun w' => ?_) (fun w' => ?_)
 ·rw [natC_full]; exact radd_any A B w'
 ·exact rint_any (cN A B 256 : Nat) w' (by omega)
 ·have := rrem_any ((A + B) % 2 ^ 256) (cN A B 256) M w' (Nat.mod_lt _ (by decide)) (by omega) hM
  rw [hs] at this
  exact this
set_option maxRecDepth 100000 in
set_option maxHeartbeats 1000000 in
theorem rmulmod_core (A B M S T R : Nat) (e0 : Int) (w : World)
  (hmu : ∀ w', Calls Try.prog 47 #[.agg (natC A), .agg (natC B)] w' fun e w2 => e = .returned (.tuple #[.agg (natC S), .agg (natC T)]) ∧ Below w'.heap.size w' w2)
  (hre : ∀ w', Calls Try.prog 43 #[.agg (natC S), .agg (natC T), .agg (natC M)] w' fun e w2 => e = .returned (.tuple #[.agg (natC R), .int .i64 e0]) ∧ Below w'.heap.size w' w2) :
  Calls Try.prog 14 #[.agg (natC A), .agg (natC B), .agg (natC M)] w fun e w' => e = .returned (.tuple #[.agg (natC R), .int .i64 e0]) ∧ Below w.heap.size w w' := by
 go_enter Try.func14, Try.ntmps14
 (repeat ((fail_if_success with_reducible refine rg ?_); go_step))
 apply wp_region_mixp [] [_, _, _, _, _] trivial List.nodup_nil
 ·intro p
  refine mx_box 24 _ rfl _ rfl ?_
  simp only [Act.put, pu]
  refine mx_box 24 _ rfl _ rfl ?_
  simp only [Act.put, pu]
  refine mx_box 24 _ rfl _ rfl ?_
  simp only [Act.put, pu]
  refine mx_new 24 rfl _ zero_nat ?_
  simp only [Act.put, pu]
  refine mx_val (.int .i64 0) (fun _ => rfl) ?_
  simp only [Act.put, pu]
  refine mx_end ?_
  intro w2 hkw hrw hnew hdis
  have n3 := hnew 0 rfl
  have n4 := hnew 1 rfl
  have n5 := hnew 2 rfl
  have n6 := hnew 3 rfl
  have zr3 : Row w2 (p 0) (natC A) 24 := hrw 1 (24, natC A) rfl
  have zr4 : Row w2 (p 1) (natC B) 24 := hrw 3 (24, natC B) rfl
  have zr5 : Row w2 (p 2) (natC M) 24 := hrw 5 (24, natC M) rfl
  have zr6 : Row w2 (p 3) (natC 0) 24 := hrw 7 (24, natC 0) rfl
  have d3x4 := hdis 0 1 (by omega) rfl rfl
  have d3x5 := hdis 0 2 (by omega) rfl rfl
  have d3x6 := hdis 0 3 (by omega) rfl rfl
  have d4x5 := hdis 1 2 (by omega) rfl rfl
  have d4x6 := hdis 1 3 (by omega) rfl rfl
  have d5x6 := hdis 2 3 (by omega) rfl rfl
  have sb := hkw.below w.heap.size (Nat.le_refl _) (by simp)
  have b3 : w.heap.size ≤ p 0 := n3
  have b4 : w.heap.size ≤ p 1 := n4
  have b5 : w.heap.size ≤ p 2 := n5
  have b6 : w.heap.size ≤ p 3 := n6
  clear hkw hrw hnew hdis n3 n4 n5 n6
  generalize p 0 = g3 at *
  generalize p 1 = g4 at *
  generalize p 2 = g5 at *
  generalize p 3 = g6 at *
  have r3 := zr3
  clear zr3
  have r4 := zr4
  clear zr4
  have r5 := zr5
  clear zr5
  have r6 := zr6
  clear zr6
  (repeat ((fail_if_success with_reducible refine rg ?_); go_step))
  apply wp_region_mixp [] [_, _, _, _, _, _, _, _, _, _] trivial List.nodup_nil
  ·intro p
   refine mx_load 24 _ rfl _ rfl r3 (by simp <;> omega) 4 _ Try.underlying24 size_nat ?_
   simp only [Act.put, pu]
   refine mx_load 24 _ rfl _ rfl r4 (by simp <;> omega) 4 _ Try.underlying24 size_nat ?_
   simp only [Act.put, pu]
   refine mx_call 47 _ _ rfl Try.func47 (by kernel_rfl) #[.agg (natC A), .agg (natC B)] rfl _ hmu ?_
   simp only [Act.put, pu]
   refine mx_move rfl rfl ?_
   simp only [Act.put, pu]
   refine mx_ext rfl rfl rfl ?_
   simp only [Act.put, pu]
   refine mx_ext rfl rfl rfl ?_
   simp only [Act.put, pu]
   refine mx_new 24 rfl _ zero_nat ?_
   simp only [Act.put, pu]
   refine mx_new 24 rfl _ zero_nat ?_
   simp only [Act.put, pu]
   refine mx_put 13 24 _ _ rfl rfl rfl (natC S) rfl (by exact size_nat) (by simp only [natC_size]) (natC_one _) ?_
   simp only [Act.put]
   refine mx_put 15 24 _ _ rfl rfl rfl (natC T) rfl (by exact size_nat) (by simp only [natC_size]) (natC_one _) ?_
   simp only [Act.put]
   refine mx_end ?_
   intro w3 hkw hrw hnew hdis
   have n8 := hnew 6 rfl
   have n9 := hnew 7 rfl
   have zr8 : Row w3 (p 6) (natC S) 24 := hrw 13 (24, natC S) rfl
   have zr9 : Row w3 (p 7) (natC T) 24 := hrw 15 (24, natC T) rfl
   have d5x8 := Nat.lt_of_lt_of_le r5.lt n8
   have d5x9 := Nat.lt_of_lt_of_le r5.lt n9
   have d6x8 := Nat.lt_of_lt_of_le r6.lt n8
   have d6x9 := Nat.lt_of_lt_of_le r6.lt n9
   have d8x9 := hdis 6 7 (by omega) rfl rfl
   replace r5 := hkw.row r5 (by simp <;> omega)
   replace r6 := hkw.row r6 (by simp <;> omega)
   have b8 := Nat.le_trans sb.size n8
   have b9 := Nat.le_trans sb.size n9
   replace sb := sb.trans (hkw.below w.heap.size sb.size (by simp <;> omega))
   clear hkw hrw hnew hdis n8 n9
   generalize p 6 = g8 at *
   generalize p 7 = g9 at *
   have r8 := zr8
   clear zr8
   have r9 := zr9
   clear zr9
   (repeat ((fail_if_success with_reducible refine rg ?_); go_step))
   apply wp_region_mixp [(g6, 24, natC 0)] [_, _, _, _, _, _, _, _] ⟨r6, trivial⟩ (by simp <;> omega)
   ·intro p
    refine mx_load 24 _ rfl _ rfl r8 (by simp <;> omega) 4 _ Try.underlying24 size_nat ?_
    simp only [Act.put, pu]
    refine mx_load 24 _ rfl _ rfl r9 (by simp <;> omega) 4 _ Try.underlying24 size_nat ?_
    simp only [Act.put, pu]
    refine mx_load 24 _ rfl _ rfl r5 (by simp <;> omega) 4 _ Try.underlying24 size_nat ?_
    simp only [Act.put, pu]
    refine mx_call 43 _ _ rfl Try.func43 (by kernel_rfl) #[.agg (natC S), .agg (natC T), .agg (natC M)] rfl _ hre ?_
    simp only [Act.put, pu]
    refine mx_ext rfl rfl rfl ?_
    simp only [Act.put, pu]
    refine mx_ext rfl rfl rfl ?_
    simp only [Act.put, pu]
    refine mx_put 0 24 _ _ rfl rfl rfl (natC R) rfl (by exact size_nat) (by simp only [natC_size]) (natC_one _) ?_
    simp only [Act.put]
    refine mx_asg rfl rfl ?_
    simp only [Act.put, pu]
    refine mx_end ?_
    intro w4 hkw hrw hnew hdis
    have zr6 : Row w4 (g6) (natC R) 24 := hrw 0 (24, natC R) rfl
    replace sb := sb.trans (hkw.below w.heap.size sb.size (by simp <;> omega))
    clear hkw hrw hnew hdis r6
    have r6 := zr6
    clear zr6
    go_wp2
    exact ret_row2 rfl _ rfl r6 4 _ Try.underlying24 (by exact size_nat) rfl _ rfl ⟨rfl, sb⟩
   ·rfl
  ·rfl
 ·rfl
theorem rmulmod_any (A B M : Nat) (w : World) (hA : A < 2 ^ 256) (hB : B < 2 ^ 256) (hM : M < 2 ^ 256) :
  Calls Try.prog 14 #[.agg (natC A), .agg (natC B), .agg (natC M)] w fun e w' => e = .returned (.tuple #[.agg (natC (modZ (A * B) M)), .int .i64 (errI M)]) ∧ Below w.heap.size w w' := by
 have hs : A * B / 2 ^ 256 * 2 ^ 256 + A * B % 2 ^ 256 = A * B := by rw [Nat.mul_comm (A * B / 2 ^ 256)]; exact Nat.div_add_mod _ _
 have ht : A * B / 2 ^ 256 < 2 ^ 256 := by
  refine Nat.div_lt_of_lt_mul ?_
  rcases Nat.eq_zero_or_pos B with h0 | h0
  ·rw [h0, Nat.mul_zero]; exact Nat.mul_pos (by decide) (by decide)
  ·exact Nat.mul_lt_mul_of_lt_of_lt hA hB
 refine rmulmod_core A B M (A * B % 2 ^ 256) (A * B / 2 ^ 256) _ _ w (fun w' => ?_) (fun w' => ?_)
 ·rw [natC_full]; exact rmul_any A B w' hA hB
 ·have := rrem_any (A * B % 2 ^ 256) (A * B / 2 ^ 256) M w' (Nat.mod_lt _ (by decide)) ht hM
  rw [hs] at this
  exact this
end Go.Proofs.Yteddgjoailpgaaa
/- The document's SubMod, Gcd, Inv. -/
namespace Go.Proofs.Yteddgjoailpgaaa
open Go.RowKit
theorem exec_neq_i {P : Program} {o : Oper} {ρ : Operand → Value} (t : TypeId) (x y : Operand) (u : TypeId) (ho : o.op = .binOp .neq t x y u) (n m : Int) (hx : ρ x = .int .i64 n) (hy : ρ y = .int .i64 m) (w : World) :
  (execOp ρ o).run P w = .ok (.value (.bool (n != m))) w := by
 unfold execOp
 simp only [ho, hx, hy]
 simp [eqGuard, go_sem]
theorem exec_eql_i {P : Program} {o : Oper} {ρ : Operand → Value} (t : TypeId) (x y : Operand) (u : TypeId) (ho : o.op = .binOp .eql t x y u) (n m : Int) (hx : ρ x = .int .i64 n) (hy : ρ y = .int .i64 m) (w : World) :
  (execOp ρ o).run P w = .ok (.value (.bool (n == m))) w := by
 unfold execOp
 simp only [ho, hx, hy]
 simp [eqGuard, go_sem]
theorem exec_lss_i {P : Program} {o : Oper} {ρ : Operand → Value} (t : TypeId) (x y : Operand) (u : TypeId) (ho : o.op = .binOp .lss t x y u) (n m : Int) (hx : ρ x = .int .i64 n) (hy : ρ y = .int .i64 m) (w : World) :
  (execOp ρ o).run P w = .ok (.value (.bool (decide (n < m)))) w := by
 unfold execOp
 simp only [ho, hx, hy]
 simp [go_sem]
set_option maxRecDepth 100000 in
set_option maxHeartbeats 1000000 in
theorem rsubmod_zero (A B M : Nat) (w : World)
  (hre : ∀ w', Calls Try.prog 43 #[.agg (natC B), .agg (natC 0), .agg (natC M)] w' fun e w2 => e = .returned (.tuple #[.agg (natC 0), .int .i64 1]) ∧ Below w'.heap.size w' w2) :
  Calls Try.prog 12 #[.agg (natC A), .agg (natC B), .agg (natC M)] w fun e w' => e = .returned (.tuple #[.agg (natC 0), .int .i64 1]) ∧ Below w.heap.size w w' := by
 go_enter Try.func12, Try.ntmps12
 (repeat ((fail_if_success with_reducible refine rg ?_); go_step))
 apply wp_region_mixp [] [_, _, _, _, _] trivial List.nodup_nil
 ·intro p
  refine mx_box 24 _ rfl _ rfl ?_
  simp only [Act.put, pu]
  refine mx_box 24 _ rfl _ rfl ?_
  simp only [Act.put, pu]
  refine mx_box 24 _ rfl _ rfl ?_
  simp only [Act.put, pu]
  refine mx_new 24 rfl _ zero_nat ?_
  simp only [Act.put, pu]
  refine mx_val (.int .i64 0) (fun _ => rfl) ?_
  simp only [Act.put, pu]
  refine mx_end ?_
  intro w2 hkw hrw hnew hdis
  have n3 := hnew 0 rfl
  have n4 := hnew 1 rfl
  have n5 := hnew 2 rfl
  have n6 := hnew 3 rfl
  have zr3 : Row w2 (p 0) (natC A) 24 := hrw 1 (24, natC A) rfl
  have zr4 : Row w2 (p 1) (natC B) 24 := hrw 3 (24, natC B) rfl
  have zr5 : Row w2 (p 2) (natC M) 24 := hrw 5 (24, natC M) rfl
  have zr6 : Row w2 (p 3) (natC 0) 24 := hrw 7 (24, natC 0) rfl
  have d3x4 := hdis 0 1 (by omega) rfl rfl
  have d3x5 := hdis 0 2 (by omega) rfl rfl
  have d3x6 := hdis 0 3 (by omega) rfl rfl
  have d4x5 := hdis 1 2 (by omega) rfl rfl
  have d4x6 := hdis 1 3 (by omega) rfl rfl
  have d5x6 := hdis 2 3 (by omega) rfl rfl
  have sb := hkw.below w.heap.size (Nat.le_refl _) (by simp)
  have b3 : w.heap.size ≤ p 0 := n3
  have b4 : w.heap.size ≤ p 1 := n4
  have b5 : w.heap.size ≤ p 2 := n5
  have b6 : w.heap.size ≤ p 3 := n6
  clear hkw hrw hnew hdis n3 n4 n5 n6
  generalize p 0 = g3 at *
  generalize p 1 = g4 at *
  generalize p 2 = g5 at *
  generalize p 3 = g6 at *
  have r3 := zr3
  clear zr3
  have r4 := zr4
  clear zr4
  have r5 := zr5
  clear zr5
  have r6 := zr6
  clear zr6
  (repeat ((fail_if_success with_reducible refine rg ?_); go_step))
  apply wp_region_mixp [] [_, _, _, _, _, _, _, _, _, _] trivial List.nodup_nil
  ·intro p
   refine mx_load 24 _ rfl _ rfl r4 (by simp <;> omega) 4 _ Try.underlying24 size_nat ?_
   simp only [Act.put, pu]
   refine mx_val (.agg (natC 0)) (exec_build0 24 rfl _ built_nat) ?_
   simp only [Act.put, pu]
   refine mx_load 24 _ rfl _ rfl r5 (by simp <;> omega) 4 _ Try.underlying24 size_nat ?_
   simp only [Act.put, pu]
   refine mx_call 43 _ _ rfl Try.func43 (by kernel_rfl) #[.agg (natC B), .agg (natC 0), .agg (natC M)] rfl _ hre ?_
   simp only [Act.put, pu]
   refine mx_move rfl rfl ?_
   simp only [Act.put, pu]
   refine mx_ext rfl rfl rfl ?_
   simp only [Act.put, pu]
   refine mx_ext rfl rfl rfl ?_
   simp only [Act.put, pu]
   refine mx_new 24 rfl _ zero_nat ?_
   simp only [Act.put, pu]
   refine mx_put 15 24 _ _ rfl rfl rfl (natC 0) rfl (by exact size_nat) (by simp only [natC_size]) (natC_one _) ?_
   simp only [Act.put]
   refine mx_asg rfl rfl ?_
   simp only [Act.put, pu]
   refine mx_end ?_
   intro w3 hkw hrw hnew hdis
   have n8 := hnew 7 rfl
   have zr8 : Row w3 (p 7) (natC 0) 24 := hrw 15 (24, natC 0) rfl
   have d6x8 := Nat.lt_of_lt_of_le r6.lt n8
   replace r6 := hkw.row r6 (by simp <;> omega)
   have b8 := Nat.le_trans sb.size n8
   replace sb := sb.trans (hkw.below w.heap.size sb.size (by simp <;> omega))
   clear hkw hrw hnew hdis n8
   generalize p 7 = g8 at *
   have r8 := zr8
   clear zr8
   (repeat ((fail_if_success with_reducible refine rg ?_); go_step))
   apply wp_region_mixp [] [_, _] trivial List.nodup_nil
   ·intro p
    refine mx_move rfl rfl ?_
    simp only [Act.put, pu]
    refine mx_val (.bool true) (exec_neq_i _ _ _ _ rfl 1 0 rfl rfl) ?_
    simp only [Act.put, pu]
    refine mx_end ?_
    intro w4 hkw hrw hnew hdis
    replace r6 := hkw.row r6 (by simp <;> omega)
    replace sb := sb.trans (hkw.below w.heap.size sb.size (by simp <;> omega))
    clear hkw hrw hnew hdis
    (repeat ((fail_if_success with_reducible refine rg ?_); go_step))
    apply wp_region_mixp [(g6, 24, natC 0)] [_, _, _, _] ⟨r6, trivial⟩ (by simp <;> omega)
    ·intro p
     refine mx_val (.agg (natC 0)) (exec_build0 24 rfl _ built_nat) ?_
     simp only [Act.put, pu]
     refine mx_move rfl rfl ?_
     simp only [Act.put, pu]
     refine mx_put 0 24 _ _ rfl rfl rfl (natC 0) rfl (by exact size_nat) (by simp only [natC_size]) (natC_one _) ?_
     simp only [Act.put]
     refine mx_asg rfl rfl ?_
     simp only [Act.put, pu]
     refine mx_end ?_
     intro w5 hkw hrw hnew hdis
     have zr6 : Row w5 (g6) (natC 0) 24 := hrw 0 (24, natC 0) rfl
     replace sb := sb.trans (hkw.below w.heap.size sb.size (by simp <;> omega))
     clear hkw hrw hnew hdis r6
     have r6 := zr6
     clear zr6
     go_wp2
     exact ret_row2 rfl _ rfl r6 4 _ Try.underlying24 (by exact size_nat) rfl _ rfl ⟨rfl, sb⟩
    ·rfl
   ·rfl
  ·rfl
 ·rfl
set_option maxRecDepth 100000 in
set_option maxHeartbeats 1000000 in
theorem rsubmod_more (A B M X D R : Nat) (bo : Nat) (e0 : Int) (w : World)
  (hre : ∀ w', Calls Try.prog 43 #[.agg (natC B), .agg (natC 0), .agg (natC M)] w' fun e w2 => e = .returned (.tuple #[.agg (natC X), .int .i64 0]) ∧ Below w'.heap.size w' w2)
  (hsu : ∀ w', Calls Try.prog 45 #[.agg (natC M), .agg (natC X)] w' fun e w2 => e = .returned (.tuple #[.agg (natC D), .int .i64 bo]) ∧ Below w'.heap.size w' w2)
  (had : ∀ w', Calls Try.prog 10 #[.agg (natC A), .agg (natC D), .agg (natC M)] w' fun e w2 => e = .returned (.tuple #[.agg (natC R), .int .i64 e0]) ∧ Below w'.heap.size w' w2) :
  Calls Try.prog 12 #[.agg (natC A), .agg (natC B), .agg (natC M)] w fun e w' => e = .returned (.tuple #[.agg (natC R), .int .i64 e0]) ∧ Below w.heap.size w w' := by
 go_enter Try.func12, Try.ntmps12
 (repeat ((fail_if_success with_reducible refine rg ?_); go_step))
 apply wp_region_mixp [] [_, _, _, _, _] trivial List.nodup_nil
 ·intro p
  refine mx_box 24 _ rfl _ rfl ?_
  simp only [Act.put, pu]
  refine mx_box 24 _ rfl _ rfl ?_
  simp only [Act.put, pu]
  refine mx_box 24 _ rfl _ rfl ?_
  simp only [Act.put, pu]
  refine mx_new 24 rfl _ zero_nat ?_
  simp only [Act.put, pu]
  refine mx_val (.int .i64 0) (fun _ => rfl) ?_
  simp only [Act.put, pu]
  refine mx_end ?_
  intro w2 hkw hrw hnew hdis
  have n3 := hnew 0 rfl
  have n4 := hnew 1 rfl
  have n5 := hnew 2 rfl
  have n6 := hnew 3 rfl
  have zr3 : Row w2 (p 0) (natC A) 24 := hrw 1 (24, natC A) rfl
  have zr4 : Row w2 (p 1) (natC B) 24 := hrw 3 (24, natC B) rfl
  have zr5 : Row w2 (p 2) (natC M) 24 := hrw 5 (24, natC M) rfl
  have zr6 : Row w2 (p 3) (natC 0) 24 := hrw 7 (24, natC 0) rfl
  have d3x4 := hdis 0 1 (by omega) rfl rfl
  have d3x5 := hdis 0 2 (by omega) rfl rfl
  have d3x6 := hdis 0 3 (by omega) rfl rfl
  have d4x5 := hdis 1 2 (by omega) rfl rfl
  have d4x6 := hdis 1 3 (by omega) rfl rfl
  have d5x6 := hdis 2 3 (by omega) rfl rfl
  have sb := hkw.below w.heap.size (Nat.le_refl _) (by simp)
  have b3 : w.heap.size ≤ p 0 := n3
  have b4 : w.heap.size ≤ p 1 := n4
  have b5 : w.heap.size ≤ p 2 := n5
  have b6 : w.heap.size ≤ p 3 := n6
  clear hkw hrw hnew hdis n3 n4 n5 n6
  generalize p 0 = g3 at *
  generalize p 1 = g4 at *
  generalize p 2 = g5 at *
  generalize p 3 = g6 at *
  have r3 := zr3
  clear zr3
  have r4 := zr4
  clear zr4
  have r5 := zr5
  clear zr5
  have r6 := zr6
  clear zr6
  (repeat ((fail_if_success with_reducible refine rg ?_); go_step))
  apply wp_region_mixp [] [_, _, _, _, _, _, _, _, _, _] trivial List.nodup_nil
  ·intro p
   refine mx_load 24 _ rfl _ rfl r4 (by simp <;> omega) 4 _ Try.underlying24 size_nat ?_
   simp only [Act.put, pu]
   refine mx_val (.agg (natC 0)) (exec_build0 24 rfl _ built_nat) ?_
   simp only [Act.put, pu]
   refine mx_load 24 _ rfl _ rfl r5 (by simp <;> omega) 4 _ Try.underlying24 size_nat ?_
   simp only [Act.put, pu]
   refine mx_call 43 _ _ rfl Try.func43 (by kernel_rfl) #[.agg (natC B), .agg (natC 0), .agg (natC M)] rfl _ hre ?_
   simp only [Act.put, pu]
   refine mx_move rfl rfl ?_
   simp only [Act.put, pu]
   refine mx_ext rfl rfl rfl ?_
   simp only [Act.put, pu]
   refine mx_ext rfl rfl rfl ?_
   simp only [Act.put, pu]
   refine mx_new 24 rfl _ zero_nat ?_
   simp only [Act.put, pu]
   refine mx_put 15 24 _ _ rfl rfl rfl (natC X) rfl (by exact size_nat) (by simp only [natC_size]) (natC_one _) ?_
   simp only [Act.put]
   refine mx_asg rfl rfl ?_
   simp only [Act.put, pu]
   refine mx_end ?_
   intro w3 hkw hrw hnew hdis
   have n8 := hnew 7 rfl
   have zr8 : Row w3 (p 7) (natC X) 24 := hrw 15 (24, natC X) rfl
   have d3x8 := Nat.lt_of_lt_of_le r3.lt n8
   have d5x8 := Nat.lt_of_lt_of_le r5.lt n8
   have d6x8 := Nat.lt_of_lt_of_le r6.lt n8
   replace r3 := hkw.row r3 (by simp <;> omega)
   replace r5 := hkw.row r5 (by simp <;> omega)
   replace r6 := hkw.row r6 (by simp <;> omega)
   have b8 := Nat.le_trans sb.size n8
   replace sb := sb.trans (hkw.below w.heap.size sb.size (by simp <;> omega))
   clear hkw hrw hnew hdis n8
   generalize p 7 = g8 at *
   have r8 := zr8
   clear zr8
   (repeat ((fail_if_success with_reducible refine rg ?_); go_step))
   apply wp_region_mixp [] [_, _] trivial List.nodup_nil
   ·intro p
    refine mx_move rfl rfl ?_
    simp only [Act.put, pu]
    refine mx_val (.bool false) (exec_neq_i _ _ _ _ rfl 0 0 rfl rfl) ?_
    simp only [Act.put, pu]
    refine mx_end ?_
    intro w4 hkw hrw hnew hdis
    replace r3 := hkw.row r3 (by simp <;> omega)
    replace r5 := hkw.row r5 (by simp <;> omega)
    replace r6 := hkw.row r6 (by simp <;> omega)
    replace r8 := hkw.row r8 (by simp <;> omega)
    replace sb := sb.trans (hkw.below w.heap.size sb.size (by simp <;> omega))
    clear hkw hrw hnew hdis
    (repeat ((fail_if_success with_reducible refine rg ?_); go_step))
    apply wp_region_mixp [] [_, _, _, _, _, _, _, _, _] trivial List.nodup_nil
    ·intro p
     refine mx_load 24 _ rfl _ rfl r5 (by simp <;> omega) 4 _ Try.underlying24 size_nat ?_
     simp only [Act.put, pu]
     refine mx_load 24 _ rfl _ rfl r8 (by simp <;> omega) 4 _ Try.underlying24 size_nat ?_
     simp only [Act.put, pu]
     refine mx_call 45 _ _ rfl Try.func45 (by kernel_rfl) #[.agg (natC M), .agg (natC X)] rfl _ hsu ?_
     simp only [Act.put, pu]
     refine mx_move rfl rfl ?_
     simp only [Act.put, pu]
     refine mx_ext rfl rfl rfl ?_
     simp only [Act.put, pu]
     refine mx_ext rfl rfl rfl ?_
     simp only [Act.put, pu]
     refine mx_new 24 rfl _ zero_nat ?_
     simp only [Act.put, pu]
     refine mx_put 13 24 _ _ rfl rfl rfl (natC D) rfl (by exact size_nat) (by simp only [natC_size]) (natC_one _) ?_
     simp only [Act.put]
     refine mx_asg rfl rfl ?_
     simp only [Act.put, pu]
     refine mx_end ?_
     intro w5 hkw hrw hnew hdis
     have n10 := hnew 6 rfl
     have zr10 : Row w5 (p 6) (natC D) 24 := hrw 13 (24, natC D) rfl
     have d3x10 := Nat.lt_of_lt_of_le r3.lt n10
     have d5x10 := Nat.lt_of_lt_of_le r5.lt n10
     have d6x10 := Nat.lt_of_lt_of_le r6.lt n10
     replace r3 := hkw.row r3 (by simp <;> omega)
     replace r5 := hkw.row r5 (by simp <;> omega)
     replace r6 := hkw.row r6 (by simp <;> omega)
     have b10 := Nat.le_trans sb.size n10
     replace sb := sb.trans (hkw.below w.heap.size sb.size (by simp <;> omega))
     clear hkw hrw hnew hdis n10
     generalize p 6 = g10 at *
     have r10 := zr10
     clear zr10
     (repeat ((fail_if_success with_reducible refine rg ?_); go_step))
     apply wp_region_mixp [(g6, 24, natC 0)] [_, _, _, _, _, _, _, _] ⟨r6, trivial⟩ (by simp <;> omega)
     ·intro p
      refine mx_load 24 _ rfl _ rfl r3 (by simp <;> omega) 4 _ Try.underlying24 size_nat ?_
      simp only [Act.put, pu]
      refine mx_load 24 _ rfl _ rfl r10 (by simp <;> omega) 4 _ Try.underlying24 size_nat ?_
      simp only [Act.put, pu]
      refine mx_load 24 _ rfl _ rfl r5 (by simp <;> omega) 4 _ Try.underlying24 size_nat ?_
      simp only [Act.put, pu]
      refine mx_call 10 _ _ rfl Try.func10 (by kernel_rfl) #[.agg (natC A), .agg (natC D), .agg (natC M)] rfl _ had ?_
      simp only [Act.put, pu]
      refine mx_ext rfl rfl rfl ?_
      simp only [Act.put, pu]
      refine mx_ext rfl rfl rfl ?_
      simp only [Act.put, pu]
      refine mx_put 0 24 _ _ rfl rfl rfl (natC R) rfl (by exact size_nat) (by simp only [natC_size]) (natC_one _) ?_
      simp only [Act.put]
      refine mx_asg rfl rfl ?_
      simp only [Act.put, pu]
      refine mx_end ?_
      intro w6 hkw hrw hnew hdis
      have zr6 : Row w6 (g6) (natC R) 24 := hrw 0 (24, natC R) rfl
      replace sb := sb.trans (hkw.below w.heap.size sb.size (by simp <;> omega))
      clear hkw hrw hnew hdis r6
      have r6 := zr6
      clear zr6
      go_wp2
      exact ret_row2 rfl _ rfl r6 4 _ Try.underlying24 (by exact size_nat) rfl _ rfl ⟨rfl, sb⟩
     ·rfl
    ·rfl
   ·rfl
  ·rfl
 ·rfl
theorem rsubmod_any (A B M : Nat) (w : World) (hA : A < 2 ^ 256) (hB : B < 2 ^ 256) (hM : M < 2 ^ 256) :
  Calls Try.prog 12 #[.agg (natC A), .agg (natC B), .agg (natC M)] w fun e w' => e = .returned (.tuple #[.agg (natC (subZ A B M)), .int .i64 (errI M)]) ∧ Below w.heap.size w w' := by
 rcases Nat.eq_zero_or_pos M with h0 | h0
 ·unfold subZ errI
  rw [if_pos h0, if_pos h0]
  exact rsubmod_zero A B M w fun w' => rrem_zero B 0 M w' h0
 ·have hlt := Nat.mod_lt B h0
  refine rsubmod_more A B M (B % M) (M - B % M) _ (bN M (B % M) 256) _ w (fun w' => ?_) (fun w' => ?_) (fun w' => ?_)
  ·have := rrem_more B 0 M w' hB (by decide) h0 hM
   rw [Nat.mul_zero, Nat.add_zero] at this
   exact this
  ·have := rsub_any M (B % M) w' hM (by omega)
   rw [sub_far M (B % M) (by omega) hM] at this
   exact this
  ·have h1 : modZ (A + (M - B % M)) M = subZ A B M := by
    unfold modZ subZ
    rw [if_neg (by omega), if_neg (by omega), Nat.add_mod (A % M), Nat.mod_mod, ← Nat.add_mod]
   rw [← h1]
   exact raddmod_any A (M - B % M) M w' hA (by omega) hM
/-- What Euclid's way holds behind i steps. -/
def Eu (i x y : Nat) : Prop := i = 0 ∨ (y < x ∧ x * y * 2 ^ i < 2 * (2 ^ 256 * 2 ^ 256))
theorem eu_next (i x y : Nat) (hy : y < 2 ^ 256) (h0 : 0 < y) (h : Eu i x y) : Eu (i + 1) y (x % y) := by
 have hr := Nat.mod_lt x h0
 refine .inr ⟨hr, ?_⟩
 rcases h with rfl | ⟨h1, h2⟩
 ·have : y * (x % y) ≤ 2 ^ 256 * (2 ^ 256 - 1) := Nat.mul_le_mul (by omega) (by omega)
  omega
 ·have h3 : 1 ≤ x / y := (Nat.le_div_iff_mul_le h0).2 (by omega)
  have h4 := Nat.div_add_mod x y
  have h5 : y * 1 ≤ y * (x / y) := Nat.mul_le_mul_left _ h3
  have h6 : y * (x % y * 2) ≤ y * x := Nat.mul_le_mul_left _ (by omega)
  have h7 : y * (x % y) * 2 ^ (i + 1) ≤ x * y * 2 ^ i := by
   rw [Nat.pow_succ, Nat.mul_comm (2 ^ i) 2, ← Nat.mul_assoc, Nat.mul_assoc y, Nat.mul_comm x y]
   exact Nat.mul_le_mul_right _ h6
  omega
theorem eu_far (n m i x y : Nat) (hi : i = n + m) (h0 : 0 < i) (h : i = 0 ∨ (y < x ∧ x * y * 2 ^ i < 2 * (2 ^ n * 2 ^ m))) : y = 0 := by
 rcases h with h | ⟨h1, h2⟩
 ·omega
 ·rcases Nat.eq_zero_or_pos y with h3 | h3
  ·exact h3
  ·subst hi
   rw [← Nat.pow_add] at h2
   have h4 : 2 * 1 ≤ x * y := Nat.mul_le_mul (by omega) (by omega)
   have h5 : 2 * 2 ^ (n + m) ≤ x * y * 2 ^ (n + m) := Nat.mul_le_mul_right _ (by omega)
   omega
theorem eu_end (x y : Nat) (h : Eu 512 x y) : y = 0 := eu_far 256 256 512 x y rfl (by decide) h
/-- The rows that Gcd holds on to. -/
structure GcdH (wr w : World) (g4 g5 g6 x y : Nat) : Prop where
 z : Row wr g4 (natC 0) 24
 x : Row wr g5 (natC x) 24
 y : Row wr g6 (natC y) 24
 below : Below w.heap.size w wr
end Go.Proofs.Yteddgjoailpgaaa
