/- Rings that nobody made: what mont's functions answer of them; and Prod's errors. -/
import Derived.Test.YteddgjoailpgaabGT
namespace Go.Proofs.Yteddgjoailpgaab
open Go.RowKit
/-- A ring that nobody made: none, or one of noughts. -/
def Nob (w : World) (v : Option Addr) : Prop := v = none ∨ ∃ g, v = some ⟨g, 0, none⟩ ∧ Row w g (rgC 0 0 0 0) 68
theorem Nob.below {w w' : World} {v : Option Addr} (h : Nob w v) (hb : Below w.heap.size w w') : Nob w' v := h.imp id fun ⟨g, h1, h2⟩ => ⟨g, h1, h2.belowAll hb⟩
theorem Nob.on {w w' : World} {v : Option Addr} (h : Nob w v) (hk : Kept [] w w') : Nob w' v := h.imp id fun ⟨g, h1, h2⟩ => ⟨g, h1, hk.row h2 (by simp)⟩
set_option maxRecDepth 100000 in
set_option maxHeartbeats 1000000 in
theorem given_no (v : Option Addr) (w : World) (h : Nob w v) :
  Calls Try.prog 45 #[.pointer v] w fun e w' => e = .returned (.bool false) ∧ Below w.heap.size w w' := by
 obtain rfl | ⟨g0, rfl, r0⟩ := h
 ·go_enter Try.func45, Try.ntmps45
  (repeat ((fail_if_success with_reducible refine rg ?_); go_step))
  apply wp_region_mixp [] [_] trivial List.nodup_nil
  ·intro p
   refine mx_val (.bool false) (fun _ => rfl) ?_
   simp only [Act.put, pu]
   refine mx_end ?_
   intro w2 hkw hrw hnew hdis
   have sb := hkw.below w.heap.size (Nat.le_refl _) (by simp)
   clear hkw hrw hnew hdis
   (repeat ((fail_if_success with_reducible refine rg ?_); go_step))
   refine wp_region_qp ?_
   refine qw_move (by rfl) rfl rfl ?_
   simp only [Act.put, pu]
   refine qw_value (by rfl) (.bool false) (exec_neq_nilp 49 _ _ _ rfl none rfl rfl ptr_ring) ?_
   simp only [Act.put, pu]
   refine qw_move (by rfl) rfl rfl ?_
   simp only [Act.put, pu]
   refine qw_skip (by rfl) ?_
   simp only [Act.put, pu]
   refine qw_skip (by rfl) ?_
   simp only [Act.put, pu]
   refine qw_skip (by rfl) ?_
   simp only [Act.put, pu]
   refine qw_skip (by rfl) ?_
   simp only [Act.put, pu]
   refine qw_skip (by rfl) ?_
   simp only [Act.put, pu]
   refine qw_skip (by rfl) ?_
   simp only [Act.put, pu]
   refine qw_pick false (v := .bool false) (by rfl) rfl rfl rfl ?_
   simp only [Act.put, pu]
   refine qw_asg (by rfl) rfl rfl ?_
   simp only [Act.put, pu]
   refine qw_nil ?_
   intro w3 hqb
   replace sb := below_on sb (Nat.le_refl _) hqb
   clear hqb
   go_wp2
   go_ret
   exact ⟨rfl, sb⟩
  ·rfl
 ·go_enter Try.func45, Try.ntmps45
  (repeat ((fail_if_success with_reducible refine rg ?_); go_step))
  apply wp_region_mixp [] [_] trivial List.nodup_nil
  ·intro p
   refine mx_val (.bool false) (fun _ => rfl) ?_
   simp only [Act.put, pu]
   refine mx_end ?_
   intro w2 hkw hrw hnew hdis
   replace r0 := hkw.row r0 (by simp <;> omega)
   have sb := hkw.below w.heap.size (Nat.le_refl _) (by simp)
   clear hkw hrw hnew hdis
   (repeat ((fail_if_success with_reducible refine rg ?_); go_step))
   refine wp_region_qp ?_
   refine qw_move (by rfl) rfl rfl ?_
   simp only [Act.put, pu]
   refine qw_value (by rfl) (.bool true) (exec_neq_nilp 49 _ _ _ rfl (some ⟨g0, 0, none⟩) rfl rfl ptr_ring) ?_
   simp only [Act.put, pu]
   refine qw_move (by rfl) rfl rfl ?_
   simp only [Act.put, pu]
   refine qw_move (by rfl) rfl rfl ?_
   simp only [Act.put, pu]
   refine qw_value (by rfl) (.pointer (some ⟨g0, 0, none⟩)) (exec_nil _ rfl g0 0 rfl) ?_
   simp only [Act.put, pu]
   refine qw_value (by rfl) (.pointer (some ⟨g0, 0, none⟩)) (exec_field 68 _ 0 rfl g0 0 rfl _ Try.underlying68 _ rfl 3 Try.sizeOf24) ?_
   simp only [Act.put, pu]
   refine qw_loadm (by rfl) 24 _ rfl _ (0) rfl r0 (natC 0) (rg_m 0 0 0 0) _ Try.underlying24 rfl size_nat ?_
   simp only [Act.put, pu]
   refine qw_value (by rfl) (.agg (natC 0)) (exec_build0 24 rfl _ built_nat) ?_
   simp only [Act.put, pu]
   refine qw_value (by rfl) (.bool false) (fun w' => (exec_neq_nat _ _ _ rfl 0 0 rfl rfl w').trans (by rw [decide_eq_true rfl]; rfl)) ?_
   simp only [Act.put, pu]
   refine qw_pick true (v := .bool false) (by rfl) rfl rfl rfl ?_
   simp only [Act.put, pu]
   refine qw_asg (by rfl) rfl rfl ?_
   simp only [Act.put, pu]
   refine qw_nil ?_
   intro w3 hqb
   replace sb := below_on sb (Nat.le_refl _) hqb
   clear hqb
   go_wp2
   go_ret
   exact ⟨rfl, sb⟩
  ·rfl
set_option maxRecDepth 100000 in
set_option maxHeartbeats 1000000 in
theorem ringM_no (v : Option Addr) (w : World) (h : Nob w v) :
  Calls Try.prog 68 #[.pointer v] w fun e w' => e = .returned (.agg (natC 0)) ∧ Below w.heap.size w w' := by
 have hgi := fun w' (hb : Below w.heap.size w w') => given_no v w' (h.below hb)
 clear h
 go_enter Try.func68, Try.ntmps68
 (repeat ((fail_if_success with_reducible refine rg ?_); go_step))
 apply wp_region_mixp [] [_] trivial List.nodup_nil
 ·intro p
  refine mx_new 24 rfl _ zero_nat ?_
  simp only [Act.put, pu]
  refine mx_end ?_
  intro w2 hkw hrw hnew hdis
  have n2 := hnew 0 rfl
  have zr2 : Row w2 (p 0) (natC 0) 24 := hrw 1 (24, natC 0) rfl
  have sb := hkw.below w.heap.size (Nat.le_refl _) (by simp)
  have b2 : w.heap.size ≤ p 0 := n2
  clear hkw hrw hnew hdis n2
  generalize p 0 = g2 at *
  have r2 := zr2
  clear zr2
  (repeat ((fail_if_success with_reducible refine rg ?_); go_step))
  apply wp_region_mixp [] [_, _, _] trivial List.nodup_nil
  ·intro p
   refine mx_move rfl rfl ?_
   simp only [Act.put, pu]
   refine mx_callK 45 _ _ rfl Try.func45 (by kernel_rfl) #[.pointer v] rfl _ (fun w' hk => hgi w' (sb.trans (hk.below w.heap.size sb.size (by simp)))) ?_
   simp only [Act.put, pu]
   refine mx_val (.bool true) (exec_not _ _ rfl false rfl) ?_
   simp only [Act.put, pu]
   refine mx_end ?_
   intro w3 hkw hrw hnew hdis
   replace r2 := hkw.row r2 (by simp <;> omega)
   replace sb := sb.trans (hkw.below w.heap.size sb.size (by simp <;> omega))
   clear hkw hrw hnew hdis
   (repeat ((fail_if_success with_reducible refine rg ?_); go_step))
   apply wp_region_mixp [(g2, 24, natC 0)] [_, _] ⟨r2, trivial⟩ (by simp <;> omega)
   ·intro p
    refine mx_val (.agg (natC 0)) (exec_build0 24 rfl _ built_nat) ?_
    simp only [Act.put, pu]
    refine mx_put 0 24 _ _ rfl rfl rfl (natC 0) rfl (by exact size_nat) (by simp only [natC_size]) (natC_one _) ?_
    simp only [Act.put]
    refine mx_end ?_
    intro w4 hkw hrw hnew hdis
    have zr2 : Row w4 (g2) (natC 0) 24 := hrw 0 (24, natC 0) rfl
    replace sb := sb.trans (hkw.below w.heap.size sb.size (by simp <;> omega))
    clear hkw hrw hnew hdis r2
    have r2 := zr2
    clear zr2
    go_wp2
    exact ret_row rfl _ rfl r2 4 _ Try.underlying24 (by exact size_nat) rfl ⟨rfl, sb⟩
   ·rfl
  ·rfl
 ·rfl
set_option maxRecDepth 100000 in
set_option maxHeartbeats 1000000 in
theorem form_no (v : Option Addr) (A : Nat) (w : World) (h : Nob w v) :
  Calls Try.prog 47 #[.pointer v, .agg (natC A)] w fun e w' => e = .returned (.agg (natC 0)) ∧ Below w.heap.size w w' := by
 have hgi := fun w' (hb : Below w.heap.size w w') => given_no v w' (h.below hb)
 clear h
 go_enter Try.func47, Try.ntmps47
 (repeat ((fail_if_success with_reducible refine rg ?_); go_step))
 apply wp_region_mixp [] [_, _] trivial List.nodup_nil
 ·intro p
  refine mx_box 24 _ rfl _ rfl ?_
  simp only [Act.put, pu]
  refine mx_new 24 rfl _ zero_nat ?_
  simp only [Act.put, pu]
  refine mx_end ?_
  intro w2 hkw hrw hnew hdis
  have n3 := hnew 0 rfl
  have n4 := hnew 1 rfl
  have zr3 : Row w2 (p 0) (natC A) 24 := hrw 1 (24, natC A) rfl
  have zr4 : Row w2 (p 1) (natC 0) 24 := hrw 3 (24, natC 0) rfl
  have d3x4 := hdis 0 1 (by omega) rfl rfl
  have sb := hkw.below w.heap.size (Nat.le_refl _) (by simp)
  have b3 : w.heap.size ≤ p 0 := n3
  have b4 : w.heap.size ≤ p 1 := n4
  clear hkw hrw hnew hdis n3 n4
  generalize p 0 = g3 at *
  generalize p 1 = g4 at *
  have r3 := zr3
  clear zr3
  have r4 := zr4
  clear zr4
  (repeat ((fail_if_success with_reducible refine rg ?_); go_step))
  apply wp_region_mixp [] [_, _, _] trivial List.nodup_nil
  ·intro p
   refine mx_move rfl rfl ?_
   simp only [Act.put, pu]
   refine mx_callK 45 _ _ rfl Try.func45 (by kernel_rfl) #[.pointer v] rfl _ (fun w' hk => hgi w' (sb.trans (hk.below w.heap.size sb.size (by simp)))) ?_
   simp only [Act.put, pu]
   refine mx_val (.bool true) (exec_not _ _ rfl false rfl) ?_
   simp only [Act.put, pu]
   refine mx_end ?_
   intro w3 hkw hrw hnew hdis
   replace r4 := hkw.row r4 (by simp <;> omega)
   replace sb := sb.trans (hkw.below w.heap.size sb.size (by simp <;> omega))
   clear hkw hrw hnew hdis
   (repeat ((fail_if_success with_reducible refine rg ?_); go_step))
   apply wp_region_mixp [(g4, 24, natC 0)] [_, _] ⟨r4, trivial⟩ (by simp <;> omega)
   ·intro p
    refine mx_val (.agg (natC 0)) (exec_build0 24 rfl _ built_nat) ?_
    simp only [Act.put, pu]
    refine mx_put 0 24 _ _ rfl rfl rfl (natC 0) rfl (by exact size_nat) (by simp only [natC_size]) (natC_one _) ?_
    simp only [Act.put]
    refine mx_end ?_
    intro w4 hkw hrw hnew hdis
    have zr4 : Row w4 (g4) (natC 0) 24 := hrw 0 (24, natC 0) rfl
    replace sb := sb.trans (hkw.below w.heap.size sb.size (by simp <;> omega))
    clear hkw hrw hnew hdis r4
    have r4 := zr4
    clear zr4
    go_wp2
    exact ret_row rfl _ rfl r4 4 _ Try.underlying24 (by exact size_nat) rfl ⟨rfl, sb⟩
   ·rfl
  ·rfl
 ·rfl
set_option maxRecDepth 100000 in
set_option maxHeartbeats 1000000 in
theorem plain_no (v : Option Addr) (A : Nat) (w : World) (h : Nob w v) :
  Calls Try.prog 62 #[.pointer v, .agg (natC A)] w fun e w' => e = .returned (.agg (natC 0)) ∧ Below w.heap.size w w' := by
 have hgi := fun w' (hb : Below w.heap.size w w') => given_no v w' (h.below hb)
 clear h
 go_enter Try.func62, Try.ntmps62
 (repeat ((fail_if_success with_reducible refine rg ?_); go_step))
 apply wp_region_mixp [] [_, _] trivial List.nodup_nil
 ·intro p
  refine mx_box 24 _ rfl _ rfl ?_
  simp only [Act.put, pu]
  refine mx_new 24 rfl _ zero_nat ?_
  simp only [Act.put, pu]
  refine mx_end ?_
  intro w2 hkw hrw hnew hdis
  have n3 := hnew 0 rfl
  have n4 := hnew 1 rfl
  have zr3 : Row w2 (p 0) (natC A) 24 := hrw 1 (24, natC A) rfl
  have zr4 : Row w2 (p 1) (natC 0) 24 := hrw 3 (24, natC 0) rfl
  have d3x4 := hdis 0 1 (by omega) rfl rfl
  have sb := hkw.below w.heap.size (Nat.le_refl _) (by simp)
  have b3 : w.heap.size ≤ p 0 := n3
  have b4 : w.heap.size ≤ p 1 := n4
  clear hkw hrw hnew hdis n3 n4
  generalize p 0 = g3 at *
  generalize p 1 = g4 at *
  have r3 := zr3
  clear zr3
  have r4 := zr4
  clear zr4
  (repeat ((fail_if_success with_reducible refine rg ?_); go_step))
  apply wp_region_mixp [] [_, _, _] trivial List.nodup_nil
  ·intro p
   refine mx_move rfl rfl ?_
   simp only [Act.put, pu]
   refine mx_callK 45 _ _ rfl Try.func45 (by kernel_rfl) #[.pointer v] rfl _ (fun w' hk => hgi w' (sb.trans (hk.below w.heap.size sb.size (by simp)))) ?_
   simp only [Act.put, pu]
   refine mx_val (.bool true) (exec_not _ _ rfl false rfl) ?_
   simp only [Act.put, pu]
   refine mx_end ?_
   intro w3 hkw hrw hnew hdis
   replace r4 := hkw.row r4 (by simp <;> omega)
   replace sb := sb.trans (hkw.below w.heap.size sb.size (by simp <;> omega))
   clear hkw hrw hnew hdis
   (repeat ((fail_if_success with_reducible refine rg ?_); go_step))
   apply wp_region_mixp [(g4, 24, natC 0)] [_, _] ⟨r4, trivial⟩ (by simp <;> omega)
   ·intro p
    refine mx_val (.agg (natC 0)) (exec_build0 24 rfl _ built_nat) ?_
    simp only [Act.put, pu]
    refine mx_put 0 24 _ _ rfl rfl rfl (natC 0) rfl (by exact size_nat) (by simp only [natC_size]) (natC_one _) ?_
    simp only [Act.put]
    refine mx_end ?_
    intro w4 hkw hrw hnew hdis
    have zr4 : Row w4 (g4) (natC 0) 24 := hrw 0 (24, natC 0) rfl
    replace sb := sb.trans (hkw.below w.heap.size sb.size (by simp <;> omega))
    clear hkw hrw hnew hdis r4
    have r4 := zr4
    clear zr4
    go_wp2
    exact ret_row rfl _ rfl r4 4 _ Try.underlying24 (by exact size_nat) rfl ⟨rfl, sb⟩
   ·rfl
  ·rfl
 ·rfl
set_option maxRecDepth 100000 in
set_option maxHeartbeats 1000000 in
theorem mul_no (v : Option Addr) (A B : Nat) (w : World) (h : Nob w v) :
  Calls Try.prog 28 #[.pointer v, .agg (natC A), .agg (natC B)] w fun e w' => e = .returned (.agg (natC 0)) ∧ Below w.heap.size w w' := by
 have hgi := fun w' (hb : Below w.heap.size w w') => given_no v w' (h.below hb)
 clear h
 go_enter Try.func28, Try.ntmps28
 (repeat ((fail_if_success with_reducible refine rg ?_); go_step))
 apply wp_region_mixp [] [_, _, _] trivial List.nodup_nil
 ·intro p
  refine mx_box 24 _ rfl _ rfl ?_
  simp only [Act.put, pu]
  refine mx_box 24 _ rfl _ rfl ?_
  simp only [Act.put, pu]
  refine mx_new 24 rfl _ zero_nat ?_
  simp only [Act.put, pu]
  refine mx_end ?_
  intro w2 hkw hrw hnew hdis
  have n4 := hnew 0 rfl
  have n5 := hnew 1 rfl
  have n6 := hnew 2 rfl
  have zr4 : Row w2 (p 0) (natC A) 24 := hrw 1 (24, natC A) rfl
  have zr5 : Row w2 (p 1) (natC B) 24 := hrw 3 (24, natC B) rfl
  have zr6 : Row w2 (p 2) (natC 0) 24 := hrw 5 (24, natC 0) rfl
  have d4x5 := hdis 0 1 (by omega) rfl rfl
  have d4x6 := hdis 0 2 (by omega) rfl rfl
  have d5x6 := hdis 1 2 (by omega) rfl rfl
  have sb := hkw.below w.heap.size (Nat.le_refl _) (by simp)
  have b4 : w.heap.size ≤ p 0 := n4
  have b5 : w.heap.size ≤ p 1 := n5
  have b6 : w.heap.size ≤ p 2 := n6
  clear hkw hrw hnew hdis n4 n5 n6
  generalize p 0 = g4 at *
  generalize p 1 = g5 at *
  generalize p 2 = g6 at *
  have r4 := zr4
  clear zr4
  have r5 := zr5
  clear zr5
  have r6 := zr6
  clear zr6
  (repeat ((fail_if_success with_reducible refine rg ?_); go_step))
  apply wp_region_mixp [] [_, _, _] trivial List.nodup_nil
  ·intro p
   refine mx_move rfl rfl ?_
   simp only [Act.put, pu]
   refine mx_callK 45 _ _ rfl Try.func45 (by kernel_rfl) #[.pointer v] rfl _ (fun w' hk => hgi w' (sb.trans (hk.below w.heap.size sb.size (by simp)))) ?_
   simp only [Act.put, pu]
   refine mx_val (.bool true) (exec_not _ _ rfl false rfl) ?_
   simp only [Act.put, pu]
   refine mx_end ?_
   intro w3 hkw hrw hnew hdis
   replace r6 := hkw.row r6 (by simp <;> omega)
   replace sb := sb.trans (hkw.below w.heap.size sb.size (by simp <;> omega))
   clear hkw hrw hnew hdis
   (repeat ((fail_if_success with_reducible refine rg ?_); go_step))
   apply wp_region_mixp [(g6, 24, natC 0)] [_, _] ⟨r6, trivial⟩ (by simp <;> omega)
   ·intro p
    refine mx_val (.agg (natC 0)) (exec_build0 24 rfl _ built_nat) ?_
    simp only [Act.put, pu]
    refine mx_put 0 24 _ _ rfl rfl rfl (natC 0) rfl (by exact size_nat) (by simp only [natC_size]) (natC_one _) ?_
    simp only [Act.put]
    refine mx_end ?_
    intro w4 hkw hrw hnew hdis
    have zr6 : Row w4 (g6) (natC 0) 24 := hrw 0 (24, natC 0) rfl
    replace sb := sb.trans (hkw.below w.heap.size sb.size (by simp <;> omega))
    clear hkw hrw hnew hdis r6
    have r6 := zr6
    clear zr6
    go_wp2
    exact ret_row rfl _ rfl r6 4 _ Try.underlying24 (by exact size_nat) rfl ⟨rfl, sb⟩
   ·rfl
  ·rfl
 ·rfl
set_option maxRecDepth 100000 in
set_option maxHeartbeats 1000000 in
theorem in_no (v : Option Addr) (A : Nat) (w : World) (h : Nob w v) :
  Calls Try.prog 33 #[.pointer v, .agg (natC A)] w fun e w' => e = .returned (.bool false) ∧ Below w.heap.size w w' := by
 have hgi := fun w' (hb : Below w.heap.size w w') => given_no v w' (h.below hb)
 clear h
 go_enter Try.func33, Try.ntmps33
 (repeat ((fail_if_success with_reducible refine rg ?_); go_step))
 apply wp_region_mixp [] [_, _] trivial List.nodup_nil
 ·intro p
  refine mx_box 24 _ rfl _ rfl ?_
  simp only [Act.put, pu]
  refine mx_val (.bool false) (fun _ => rfl) ?_
  simp only [Act.put, pu]
  refine mx_end ?_
  intro w2 hkw hrw hnew hdis
  have n3 := hnew 0 rfl
  have zr3 : Row w2 (p 0) (natC A) 24 := hrw 1 (24, natC A) rfl
  have sb := hkw.below w.heap.size (Nat.le_refl _) (by simp)
  have b3 : w.heap.size ≤ p 0 := n3
  clear hkw hrw hnew hdis n3
  generalize p 0 = g3 at *
  have r3 := zr3
  clear zr3
  (repeat ((fail_if_success with_reducible refine rg ?_); go_step))
  refine wp_region_qw (by kernel_rfl) (by kernel_rfl) ?_
  refine qw_move (by rfl) rfl rfl ?_
  simp only [Act.put, pu]
  refine qw_callK (by rfl) 45 _ _ rfl Try.func45 (by kernel_rfl) #[.pointer v] rfl _ (fun w' hb => hgi w' (below_on sb (Nat.le_refl _) hb)) ?_
  simp only [Act.put, pu]
  refine qw_move (by rfl) rfl rfl ?_
  simp only [Act.put, pu]
  refine qw_skip (by rfl) ?_
  simp only [Act.put, pu]
  refine qw_skip (by rfl) ?_
  simp only [Act.put, pu]
  refine qw_skip (by rfl) ?_
  simp only [Act.put, pu]
  refine qw_skip (by rfl) ?_
  simp only [Act.put, pu]
  refine qw_skip (by rfl) ?_
  simp only [Act.put, pu]
  refine qw_skip (by rfl) ?_
  simp only [Act.put, pu]
  refine qw_skip (by rfl) ?_
  simp only [Act.put, pu]
  refine qw_pick false (v := .bool false) (by rfl) rfl rfl rfl ?_
  simp only [Act.put, pu]
  refine qw_asg (by rfl) rfl rfl ?_
  simp only [Act.put, pu]
  refine qw_nil ?_
  intro w3 hqb
  replace sb := below_on sb (Nat.le_refl _) hqb
  clear hqb
  go_wp2
  go_ret
  exact ⟨rfl, sb⟩
 ·rfl
set_option maxRecDepth 100000 in
set_option maxHeartbeats 1000000 in
theorem prod_no (v ab ae : Option Addr) (n m cb ce : Nat) (w : World) (h : Nob w v) :
  Calls Try.prog 43 #[.pointer v, .slice ab n cb, .slice ae m ce] w fun e w' => e = .returned (.tuple #[.agg (natC 0), .int .i64 1]) ∧ Below w.heap.size w w' := by
 have hgi := fun w' (hb : Below w.heap.size w w') => given_no v w' (h.below hb)
 clear h
 go_enter Try.func43, Try.ntmps43
 (repeat ((fail_if_success with_reducible refine rg ?_); go_step))
 apply wp_region_mixp [] [_, _] trivial List.nodup_nil
 ·intro p
  refine mx_new 24 rfl _ zero_nat ?_
  simp only [Act.put, pu]
  refine mx_val (.int .i64 0) (fun _ => rfl) ?_
  simp only [Act.put, pu]
  refine mx_end ?_
  intro w2 hkw hrw hnew hdis
  have n6 := hnew 0 rfl
  have zr6 : Row w2 (p 0) (natC 0) 24 := hrw 1 (24, natC 0) rfl
  have sb := hkw.below w.heap.size (Nat.le_refl _) (by simp)
  have b6 : w.heap.size ≤ p 0 := n6
  clear hkw hrw hnew hdis n6
  generalize p 0 = g6 at *
  have r6 := zr6
  clear zr6
  (repeat ((fail_if_success with_reducible refine rg ?_); go_step))
  refine wp_region_qp ?_
  refine qw_move (by rfl) rfl rfl ?_
  simp only [Act.put, pu]
  refine qw_callK (by rfl) 45 _ _ rfl Try.func45 (by kernel_rfl) #[.pointer v] rfl _ (fun w' hb => hgi w' (below_on sb (Nat.le_refl _) hb)) ?_
  simp only [Act.put, pu]
  refine qw_value (by rfl) (.bool true) (exec_not _ _ rfl false rfl) ?_
  simp only [Act.put, pu]
  refine qw_move (by rfl) rfl rfl ?_
  simp only [Act.put, pu]
  refine qw_skip (by rfl) ?_
  simp only [Act.put, pu]
  refine qw_skip (by rfl) ?_
  simp only [Act.put, pu]
  refine qw_skip (by rfl) ?_
  simp only [Act.put, pu]
  refine qw_skip (by rfl) ?_
  simp only [Act.put, pu]
  refine qw_skip (by rfl) ?_
  simp only [Act.put, pu]
  refine qw_pick true (v := .bool true) (by rfl) rfl rfl rfl ?_
  simp only [Act.put, pu]
  refine qw_move (by rfl) rfl rfl ?_
  simp only [Act.put, pu]
  refine qw_skip (by rfl) ?_
  simp only [Act.put, pu]
  refine qw_skip (by rfl) ?_
  simp only [Act.put, pu]
  refine qw_skip (by rfl) ?_
  simp only [Act.put, pu]
  refine qw_pick true (v := .bool true) (by rfl) rfl rfl rfl ?_
  simp only [Act.put, pu]
  refine qw_nil ?_
  intro w3 hqb
  replace r6 := r6.belowAll hqb
  replace sb := below_on sb (Nat.le_refl _) hqb
  clear hqb
  (repeat ((fail_if_success with_reducible refine rg ?_); go_step))
  apply wp_region_mixp [(g6, 24, natC 0)] [_, _, _] ⟨r6, trivial⟩ (by simp <;> omega)
  ·intro p
   refine mx_val (.agg (natC 0)) (exec_build0 24 rfl _ built_nat) ?_
   simp only [Act.put, pu]
   refine mx_put 0 24 _ _ rfl rfl rfl (natC 0) rfl (by exact size_nat) (by simp only [natC_size]) (natC_one _) ?_
   simp only [Act.put]
   refine mx_val (.int .i64 1) (fun _ => rfl) ?_
   simp only [Act.put, pu]
   refine mx_end ?_
   intro w4 hkw hrw hnew hdis
   have zr6 : Row w4 (g6) (natC 0) 24 := hrw 0 (24, natC 0) rfl
   replace sb := sb.trans (hkw.below w.heap.size sb.size (by simp <;> omega))
   clear hkw hrw hnew hdis r6
   have r6 := zr6
   clear zr6
   go_wp2
   exact ret_row2 rfl _ rfl r6 4 _ Try.underlying24 (by exact size_nat) rfl _ rfl ⟨rfl, sb⟩
  ·rfl
 ·rfl
set_option maxRecDepth 100000 in
set_option maxHeartbeats 1000000 in
theorem prod_len (v ab ae : Option Addr) (n m cb ce : Nat) (w : World) (hne : n ≠ m) (hgi : ∀ w', Below w.heap.size w w' → Calls Try.prog 45 #[.pointer v] w' fun e w2 => e = .returned (.bool true) ∧ Below w'.heap.size w' w2) :
  Calls Try.prog 43 #[.pointer v, .slice ab n cb, .slice ae m ce] w fun e w' => e = .returned (.tuple #[.agg (natC 0), .int .i64 1]) ∧ Below w.heap.size w w' := by
 go_enter Try.func43, Try.ntmps43
 (repeat ((fail_if_success with_reducible refine rg ?_); go_step))
 apply wp_region_mixp [] [_, _] trivial List.nodup_nil
 ·intro p
  refine mx_new 24 rfl _ zero_nat ?_
  simp only [Act.put, pu]
  refine mx_val (.int .i64 0) (fun _ => rfl) ?_
  simp only [Act.put, pu]
  refine mx_end ?_
  intro w2 hkw hrw hnew hdis
  have n6 := hnew 0 rfl
  have zr6 : Row w2 (p 0) (natC 0) 24 := hrw 1 (24, natC 0) rfl
  have sb := hkw.below w.heap.size (Nat.le_refl _) (by simp)
  have b6 : w.heap.size ≤ p 0 := n6
  clear hkw hrw hnew hdis n6
  generalize p 0 = g6 at *
  have r6 := zr6
  clear zr6
  (repeat ((fail_if_success with_reducible refine rg ?_); go_step))
  refine wp_region_qp ?_
  refine qw_move (by rfl) rfl rfl ?_
  simp only [Act.put, pu]
  refine qw_callK (by rfl) 45 _ _ rfl Try.func45 (by kernel_rfl) #[.pointer v] rfl _ (fun w' hb => hgi w' (below_on sb (Nat.le_refl _) hb)) ?_
  simp only [Act.put, pu]
  refine qw_value (by rfl) (.bool false) (exec_not _ _ rfl true rfl) ?_
  simp only [Act.put, pu]
  refine qw_move (by rfl) rfl rfl ?_
  simp only [Act.put, pu]
  refine qw_move (by rfl) rfl rfl ?_
  simp only [Act.put, pu]
  refine qw_value (by rfl) (.int .i64 n) (exec_len_s 37 _ rfl ab n cb rfl sl_nats) ?_
  simp only [Act.put, pu]
  refine qw_move (by rfl) rfl rfl ?_
  simp only [Act.put, pu]
  refine qw_value (by rfl) (.int .i64 m) (exec_len_s 37 _ rfl ae m ce rfl sl_nats) ?_
  simp only [Act.put, pu]
  refine qw_value (by rfl) (.bool true) (exec_neq_k .i64 _ _ _ _ rfl n m rfl rfl true (by simp; omega)) ?_
  simp only [Act.put, pu]
  refine qw_pick false (v := .bool true) (by rfl) rfl rfl rfl ?_
  simp only [Act.put, pu]
  refine qw_move (by rfl) rfl rfl ?_
  simp only [Act.put, pu]
  refine qw_skip (by rfl) ?_
  simp only [Act.put, pu]
  refine qw_skip (by rfl) ?_
  simp only [Act.put, pu]
  refine qw_skip (by rfl) ?_
  simp only [Act.put, pu]
  refine qw_pick true (v := .bool true) (by rfl) rfl rfl rfl ?_
  simp only [Act.put, pu]
  refine qw_nil ?_
  intro w3 hqb
  replace r6 := r6.belowAll hqb
  replace sb := below_on sb (Nat.le_refl _) hqb
  clear hqb
  (repeat ((fail_if_success with_reducible refine rg ?_); go_step))
  apply wp_region_mixp [(g6, 24, natC 0)] [_, _, _] ⟨r6, trivial⟩ (by simp <;> omega)
  ·intro p
   refine mx_val (.agg (natC 0)) (exec_build0 24 rfl _ built_nat) ?_
   simp only [Act.put, pu]
   refine mx_put 0 24 _ _ rfl rfl rfl (natC 0) rfl (by exact size_nat) (by simp only [natC_size]) (natC_one _) ?_
   simp only [Act.put]
   refine mx_val (.int .i64 1) (fun _ => rfl) ?_
   simp only [Act.put, pu]
   refine mx_end ?_
   intro w4 hkw hrw hnew hdis
   have zr6 : Row w4 (g6) (natC 0) 24 := hrw 0 (24, natC 0) rfl
   replace sb := sb.trans (hkw.below w.heap.size sb.size (by simp <;> omega))
   clear hkw hrw hnew hdis r6
   have r6 := zr6
   clear zr6
   go_wp2
   exact ret_row2 rfl _ rfl r6 4 _ Try.underlying24 (by exact size_nat) rfl _ rfl ⟨rfl, sb⟩
  ·rfl
 ·rfl
set_option maxRecDepth 100000 in
set_option maxHeartbeats 1000000 in
theorem prod_big (v ab ae : Option Addr) (n m cb ce : Nat) (w : World) (hne : n = m) (hn : 64 < n) (hgi : ∀ w', Below w.heap.size w w' → Calls Try.prog 45 #[.pointer v] w' fun e w2 => e = .returned (.bool true) ∧ Below w'.heap.size w' w2) :
  Calls Try.prog 43 #[.pointer v, .slice ab n cb, .slice ae m ce] w fun e w' => e = .returned (.tuple #[.agg (natC 0), .int .i64 1]) ∧ Below w.heap.size w w' := by
 go_enter Try.func43, Try.ntmps43
 (repeat ((fail_if_success with_reducible refine rg ?_); go_step))
 apply wp_region_mixp [] [_, _] trivial List.nodup_nil
 ·intro p
  refine mx_new 24 rfl _ zero_nat ?_
  simp only [Act.put, pu]
  refine mx_val (.int .i64 0) (fun _ => rfl) ?_
  simp only [Act.put, pu]
  refine mx_end ?_
  intro w2 hkw hrw hnew hdis
  have n6 := hnew 0 rfl
  have zr6 : Row w2 (p 0) (natC 0) 24 := hrw 1 (24, natC 0) rfl
  have sb := hkw.below w.heap.size (Nat.le_refl _) (by simp)
  have b6 : w.heap.size ≤ p 0 := n6
  clear hkw hrw hnew hdis n6
  generalize p 0 = g6 at *
  have r6 := zr6
  clear zr6
  (repeat ((fail_if_success with_reducible refine rg ?_); go_step))
  refine wp_region_qp ?_
  refine qw_move (by rfl) rfl rfl ?_
  simp only [Act.put, pu]
  refine qw_callK (by rfl) 45 _ _ rfl Try.func45 (by kernel_rfl) #[.pointer v] rfl _ (fun w' hb => hgi w' (below_on sb (Nat.le_refl _) hb)) ?_
  simp only [Act.put, pu]
  refine qw_value (by rfl) (.bool false) (exec_not _ _ rfl true rfl) ?_
  simp only [Act.put, pu]
  refine qw_move (by rfl) rfl rfl ?_
  simp only [Act.put, pu]
  refine qw_move (by rfl) rfl rfl ?_
  simp only [Act.put, pu]
  refine qw_value (by rfl) (.int .i64 n) (exec_len_s 37 _ rfl ab n cb rfl sl_nats) ?_
  simp only [Act.put, pu]
  refine qw_move (by rfl) rfl rfl ?_
  simp only [Act.put, pu]
  refine qw_value (by rfl) (.int .i64 m) (exec_len_s 37 _ rfl ae m ce rfl sl_nats) ?_
  simp only [Act.put, pu]
  refine qw_value (by rfl) (.bool false) (exec_neq_k .i64 _ _ _ _ rfl n m rfl rfl false (by simp; omega)) ?_
  simp only [Act.put, pu]
  refine qw_pick false (v := .bool false) (by rfl) rfl rfl rfl ?_
  simp only [Act.put, pu]
  refine qw_move (by rfl) rfl rfl ?_
  simp only [Act.put, pu]
  refine qw_move (by rfl) rfl rfl ?_
  simp only [Act.put, pu]
  refine qw_value (by rfl) (.int .i64 n) (exec_len_s 37 _ rfl ab n cb rfl sl_nats) ?_
  simp only [Act.put, pu]
  refine qw_value (by rfl) (.bool true) (exec_gt_i _ _ _ _ rfl n 64 rfl rfl true (by simp; omega)) ?_
  simp only [Act.put, pu]
  refine qw_pick false (v := .bool true) (by rfl) rfl rfl rfl ?_
  simp only [Act.put, pu]
  refine qw_nil ?_
  intro w3 hqb
  replace r6 := r6.belowAll hqb
  replace sb := below_on sb (Nat.le_refl _) hqb
  clear hqb
  (repeat ((fail_if_success with_reducible refine rg ?_); go_step))
  apply wp_region_mixp [(g6, 24, natC 0)] [_, _, _] ⟨r6, trivial⟩ (by simp <;> omega)
  ·intro p
   refine mx_val (.agg (natC 0)) (exec_build0 24 rfl _ built_nat) ?_
   simp only [Act.put, pu]
   refine mx_put 0 24 _ _ rfl rfl rfl (natC 0) rfl (by exact size_nat) (by simp only [natC_size]) (natC_one _) ?_
   simp only [Act.put]
   refine mx_val (.int .i64 1) (fun _ => rfl) ?_
   simp only [Act.put, pu]
   refine mx_end ?_
   intro w4 hkw hrw hnew hdis
   have zr6 : Row w4 (g6) (natC 0) 24 := hrw 0 (24, natC 0) rfl
   replace sb := sb.trans (hkw.below w.heap.size sb.size (by simp <;> omega))
   clear hkw hrw hnew hdis r6
   have r6 := zr6
   clear zr6
   go_wp2
   exact ret_row2 rfl _ rfl r6 4 _ Try.underlying24 (by exact size_nat) rfl _ rfl ⟨rfl, sb⟩
  ·rfl
 ·rfl
set_option maxRecDepth 100000 in
set_option maxHeartbeats 1000000 in
theorem exp_no (v : Option Addr) (A E : Nat) (w : World) (h : Nob w v) :
  Calls Try.prog 23 #[.pointer v, .agg (natC A), .agg (natC E)] w fun e w' => e = .returned (.agg (natC 0)) ∧ Below w.heap.size w w' := by
 obtain ⟨ie, hie, hz, hsz, _⟩ := info_nat'
 have hpr := fun (x y : Nat) w' (hb : Below w.heap.size w w') => prod_no v (some ⟨x, 0, none⟩) (some ⟨y, 0, none⟩) 1 1 1 1 w' (h.below hb)
 have hs1 : ¬ 1 * ie.size > 2 ^ 24 := by rw [hsz]; decide
 have hs2 : ¬ 1 * ie.size = 0 := by rw [hsz]; decide
 have hlA := lit_one A ie.size hsz
 have hlE := lit_one E ie.size hsz
 clear h
 go_enter Try.func23, Try.ntmps23
 (repeat ((fail_if_success with_reducible refine rg ?_); go_step))
 apply wp_region_mixp [] [_, _, _] trivial List.nodup_nil
 ·intro p
  refine mx_box 24 _ rfl _ rfl ?_
  simp only [Act.put, pu]
  refine mx_box 24 _ rfl _ rfl ?_
  simp only [Act.put, pu]
  refine mx_new 24 rfl _ zero_nat ?_
  simp only [Act.put, pu]
  refine mx_end ?_
  intro w2 hkw hrw hnew hdis
  have n4 := hnew 0 rfl
  have n5 := hnew 1 rfl
  have n6 := hnew 2 rfl
  have zr4 : Row w2 (p 0) (natC A) 24 := hrw 1 (24, natC A) rfl
  have zr5 : Row w2 (p 1) (natC E) 24 := hrw 3 (24, natC E) rfl
  have zr6 : Row w2 (p 2) (natC 0) 24 := hrw 5 (24, natC 0) rfl
  have d4x5 := hdis 0 1 (by omega) rfl rfl
  have d4x6 := hdis 0 2 (by omega) rfl rfl
  have d5x6 := hdis 1 2 (by omega) rfl rfl
  have sb := hkw.below w.heap.size (Nat.le_refl _) (by simp)
  have b4 : w.heap.size ≤ p 0 := n4
  have b5 : w.heap.size ≤ p 1 := n5
  have b6 : w.heap.size ≤ p 2 := n6
  clear hkw hrw hnew hdis n4 n5 n6
  generalize p 0 = g4 at *
  generalize p 1 = g5 at *
  generalize p 2 = g6 at *
  have r4 := zr4
  clear zr4
  have r5 := zr5
  clear zr5
  have r6 := zr6
  clear zr6
  (repeat ((fail_if_success with_reducible refine rg ?_); go_step))
  apply wp_region_mixp [] [_, _, _, _, _, _, _, _, _, _, _, _] trivial List.nodup_nil
  ·intro p
   refine mx_move rfl rfl ?_
   simp only [Act.put, pu]
   refine mx_load 24 _ rfl _ rfl r4 (by simp <;> omega) 4 _ Try.underlying24 size_nat ?_
   simp only [Act.put, pu]
   refine mx_litv 37 24 1 _ rfl (natC A) ie _ Try.underlying37 hie hz hs1 hs2 [(0, .agg (natC A))] rfl hlA ?_
   simp only [Act.put, pu]
   refine mx_load 24 _ rfl _ rfl r5 (by simp <;> omega) 4 _ Try.underlying24 size_nat ?_
   simp only [Act.put, pu]
   refine mx_litv 37 24 1 _ rfl (natC E) ie _ Try.underlying37 hie hz hs1 hs2 [(0, .agg (natC E))] rfl hlE ?_
   simp only [Act.put, pu]
   refine mx_callR 43 _ _ rfl Try.func43 (by kernel_rfl) #[.pointer v, .slice (some ⟨p 2, 0, none⟩) 1 1, .slice (some ⟨p 4, 0, none⟩) 1 1] rfl (.tuple #[.agg (natC 0), .int .i64 1]) [5, 9] (fun w' hk _ => hpr (p 2) (p 4) w' (sb.trans (hk.below w.heap.size sb.size (by simp)))) ?_
   simp only [Act.put, pu]
   refine mx_move rfl rfl ?_
   simp only [Act.put, pu]
   refine mx_ext rfl rfl rfl ?_
   simp only [Act.put, pu]
   refine mx_ext rfl rfl rfl ?_
   simp only [Act.put, pu]
   refine mx_new 24 rfl _ zero_nat ?_
   simp only [Act.put, pu]
   refine mx_put 19 24 _ _ rfl rfl rfl (natC 0) rfl (by exact size_nat) (by simp only [natC_size]) (natC_one _) ?_
   simp only [Act.put]
   refine mx_asg rfl rfl ?_
   simp only [Act.put, pu]
   refine mx_end ?_
   intro w3 hkw hrw hnew _
   have r7 : Row w3 (p 9) (natC 0) 24 := hrw 19 (24, natC 0) rfl
   have n7 := hnew 9 rfl
   have d67 := Nat.lt_of_lt_of_le r6.lt n7
   replace r6 := hkw.row r6 (by simp)
   replace sb := sb.trans (hkw.below w.heap.size sb.size (by simp))
   clear hkw hrw hnew n7 hpr hlA hlE r4 r5
   generalize p 9 = g7 at *
   (repeat ((fail_if_success with_reducible refine rg ?_); go_step))
   apply wp_region_mixp [(g6, 24, natC 0)] [_, _] ⟨r6, trivial⟩ (by simp <;> omega)
   ·intro p
    refine mx_load 24 _ rfl _ rfl r7 (by simp <;> omega) 4 _ Try.underlying24 size_nat ?_
    simp only [Act.put, pu]
    refine mx_put 0 24 _ _ rfl rfl rfl (natC 0) rfl (by exact size_nat) (by simp only [natC_size]) (natC_one _) ?_
    simp only [Act.put]
    refine mx_end ?_
    intro w4 hkw hrw hnew hdis
    have zr6 : Row w4 (g6) (natC 0) 24 := hrw 0 (24, natC 0) rfl
    replace sb := sb.trans (hkw.below w.heap.size sb.size (by simp <;> omega))
    clear hkw hrw hnew hdis r6
    have r6 := zr6
    clear zr6
    go_wp2
    exact ret_row rfl _ rfl r6 4 _ Try.underlying24 (by exact size_nat) rfl ⟨rfl, sb⟩
   ·rfl
  ·rfl
 ·rfl
end Go.Proofs.Yteddgjoailpgaab
