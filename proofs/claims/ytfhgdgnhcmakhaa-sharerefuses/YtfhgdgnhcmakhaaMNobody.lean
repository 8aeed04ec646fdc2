/- Rings that nobody made: what mont's functions answer of them; and Prod's errors. -/
import Derived.Test.YtfhgdgnhcmakhaaGT
namespace Go.Proofs.Ytfhgdgnhcmakhaa
open Go.RowKit
/-- A ring that nobody made: none, or one of noughts. -/
def Nob (w : World) (v : Option Addr) : Prop := v = none ∨ ∃ g, v = some ⟨g, 0, none⟩ ∧ Row w g (rgC 0 0 0 0) 87
theorem Nob.below {w w' : World} {v : Option Addr} (h : Nob w v) (hb : Below w.heap.size w w') : Nob w' v := h.imp id fun ⟨g, h1, h2⟩ => ⟨g, h1, h2.belowAll hb⟩
theorem Nob.on {w w' : World} {v : Option Addr} (h : Nob w v) (hk : Kept [] w w') : Nob w' v := h.imp id fun ⟨g, h1, h2⟩ => ⟨g, h1, hk.row h2 (by simp)⟩
set_option maxRecDepth 100000 in
set_option maxHeartbeats 1000000 in
theorem given_no (v : Option Addr) (w : World) (h : Nob w v) :
  Calls Try.prog 65 #[.pointer v] w fun e w' => e = .returned (.bool false) ∧ Below w.heap.size w w' := by
 obtain rfl | ⟨g0, rfl, r0⟩ := h
 ·go_enter Try.func65, Try.ntmps65
  (repeat ((fail_if_success with_reducible refine rg ?_); go_step))
  apply wp_region_mixp [] [_] trivial List.nodup_nil
  ·intro p
   refine mx_val (.bool false) (fun _ => rfl) ?_
   simp only [Act.put, pu]
   refine mx_end ?_
   intro w2 hkw hrw hnew hdis
   have sb := hkw.below w.heap.size (Nat.le_refl _) (by simp)
   clear hkw hrw hnew hdis
   (repeat ((fail_if_success with_reducible refine rg ?_); go_step))
   refine wp_region_qp ?_
   refine qw_move (by rfl) rfl rfl ?_
   simp only [Act.put, pu]
   refine qw_value (by rfl) (.bool false) (exec_neq_nilp 53 _ _ _ rfl none rfl rfl ptr_ring) ?_
   refine qw_move (by rfl) rfl rfl ?_
   simp only [Act.put, pu]
   refine qw_skip (by rfl) ?_
   simp only [Act.put, pu]
   refine qw_skip (by rfl) ?_
   simp only [Act.put, pu]
   refine qw_skip (by rfl) ?_
   simp only [Act.put, pu]
   refine qw_skip (by rfl) ?_
   simp only [Act.put, pu]
   refine qw_skip (by rfl) ?_
   simp only [Act.put, pu]
   refine qw_skip (by rfl) ?_
   simp only [Act.put, pu]
   refine qw_pick false (v := .bool false) (by rfl) rfl rfl rfl ?_
   refine qw_asg (by rfl) rfl rfl ?_
   simp only [Act.put, pu]
   refine qw_nil ?_
   intro w3 hqb
   replace sb := below_on sb (Nat.le_refl _) hqb
   clear hqb
   go_wp2
   go_ret
   exact ⟨rfl, sb⟩
  ·rfl
 ·go_enter Try.func65, Try.ntmps65
  (repeat ((fail_if_success with_reducible refine rg ?_); go_step))
  apply wp_region_mixp [] [_] trivial List.nodup_nil
  ·intro p
   refine mx_val (.bool false) (fun _ => rfl) ?_
   simp only [Act.put, pu]
   refine mx_end ?_
   intro w2 hkw hrw hnew hdis
   replace r0 := hkw.row r0 (by simp <;> omega)
   have sb := hkw.below w.heap.size (Nat.le_refl _) (by simp)
   clear hkw hrw hnew hdis
   (repeat ((fail_if_success with_reducible refine rg ?_); go_step))
   refine wp_region_qp ?_
   refine qw_move (by rfl) rfl rfl ?_
   simp only [Act.put, pu]
   refine qw_value (by rfl) (.bool true) (exec_neq_nilp 53 _ _ _ rfl (some ⟨g0, 0, none⟩) rfl rfl ptr_ring) ?_
   refine qw_move (by rfl) rfl rfl ?_
   refine qw_move (by rfl) rfl rfl ?_
   simp only [Act.put, pu]
   refine qw_value (by rfl) (.pointer (some ⟨g0, 0, none⟩)) (exec_nil _ rfl g0 0 rfl) ?_
   simp only [Act.put, pu]
   refine qw_value (by rfl) (.pointer (some ⟨g0, 0, none⟩)) (exec_field 87 _ 0 rfl g0 0 rfl _ Try.underlying87 _ rfl 3 Try.sizeOf31) ?_
   simp only [Act.put, pu]
   refine qw_loadm (by rfl) 31 _ rfl _ (0) rfl r0 (natC 0) (rg_m 0 0 0 0) _ Try.underlying31 rfl size_nat ?_
   simp only [Act.put, pu]
   refine qw_value (by rfl) (.agg (natC 0)) (exec_build0 31 rfl _ built_nat) ?_
   simp only [Act.put, pu]
   refine qw_value (by rfl) (.bool false) (fun w' => (exec_neq_nat _ _ _ rfl 0 0 rfl rfl w').trans (by rw [decide_eq_true rfl]; rfl)) ?_
   simp only [Act.put, pu]
   refine qw_pick true (v := .bool false) (by rfl) rfl rfl rfl ?_
   refine qw_asg (by rfl) rfl rfl ?_
   simp only [Act.put, pu]
   refine qw_nil ?_
   intro w3 hqb
   replace sb := below_on sb (Nat.le_refl _) hqb
   clear hqb
   go_wp2
   go_ret
   exact ⟨rfl, sb⟩
  ·rfl
set_option maxRecDepth 100000 in
set_option maxHeartbeats 1000000 in
theorem mul_no (v : Option Addr) (A B : Nat) (w : World) (h : Nob w v) :
  Calls Try.prog 80 #[.pointer v, .agg (natC A), .agg (natC B)] w fun e w' => e = .returned (.agg (natC 0)) ∧ Below w.heap.size w w' := by
 have hgi := fun w' (hb : Below w.heap.size w w') => given_no v w' (h.below hb)
 clear h
 go_enter Try.func80, Try.ntmps80
 (repeat ((fail_if_success with_reducible refine rg ?_); go_step))
 apply wp_region_mixp [] [_, _, _] trivial List.nodup_nil
 ·intro p
  refine mx_box 31 _ rfl _ rfl ?_
  simp only [Act.put, pu]
  refine mx_box 31 _ rfl _ rfl ?_
  simp only [Act.put, pu]
  refine mx_new 31 rfl _ zero_nat ?_
  simp only [Act.put, pu]
  refine mx_end ?_
  intro w2 hkw hrw hnew hdis
  have n4 := hnew 0 rfl
  have n5 := hnew 1 rfl
  have n6 := hnew 2 rfl
  have zr4 : Row w2 (p 0) (natC A) 31 := hrw 1 (31, natC A) rfl
  have zr5 : Row w2 (p 1) (natC B) 31 := hrw 3 (31, natC B) rfl
  have zr6 : Row w2 (p 2) (natC 0) 31 := hrw 5 (31, natC 0) rfl
  have d4x5 := hdis 0 1 (by omega) rfl rfl
  have d4x6 := hdis 0 2 (by omega) rfl rfl
  have d5x6 := hdis 1 2 (by omega) rfl rfl
  have sb := hkw.below w.heap.size (Nat.le_refl _) (by simp)
  have b4 : w.heap.size ≤ p 0 := n4
  have b5 : w.heap.size ≤ p 1 := n5
  have b6 : w.heap.size ≤ p 2 := n6
  clear hkw hrw hnew hdis n4 n5 n6
  generalize p 0 = g4 at *
  generalize p 1 = g5 at *
  generalize p 2 = g6 at *
  have r4 := zr4
  clear zr4
  have r5 := zr5
  clear zr5
  have r6 := zr6
  clear zr6
  (repeat ((fail_if_success with_reducible refine rg ?_); go_step))
  apply wp_region_mixp [] [_, _, _] trivial List.nodup_nil
  ·intro p
   refine mx_move rfl rfl ?_
   simp only [Act.put, pu]
   refine mx_callK 65 _ _ rfl Try.func65 (by kernel_rfl) #[.pointer v] rfl _ (fun w' hk => hgi w' (sb.trans (hk.below w.heap.size sb.size (by simp)))) ?_
   simp only [Act.put, pu]
   refine mx_val (.bool true) (exec_not _ _ rfl false rfl) ?_
   simp only [Act.put, pu]
   refine mx_end ?_
   intro w3 hkw hrw hnew hdis
   replace r6 := hkw.row r6 (by simp <;> omega)
   replace sb := sb.trans (hkw.below w.heap.size sb.size (by simp <;> omega))
   clear hkw hrw hnew hdis
   (repeat ((fail_if_success with_reducible refine rg ?_); go_step))
   apply wp_region_mixp [(g6, 31, natC 0)] [_, _] ⟨r6, trivial⟩ (by simp <;> omega)
   ·intro p
    refine mx_val (.agg (natC 0)) (exec_build0 31 rfl _ built_nat) ?_
    simp only [Act.put, pu]
    refine mx_put 0 31 _ _ rfl rfl rfl (natC 0) rfl (by exact size_nat) (by simp only [natC_size]) (natC_one _) ?_
    simp only [Act.put]
    refine mx_end ?_
    intro w4 hkw hrw hnew hdis
    have zr6 : Row w4 (g6) (natC 0) 31 := hrw 0 (31, natC 0) rfl
    replace sb := sb.trans (hkw.below w.heap.size sb.size (by simp <;> omega))
    clear hkw hrw hnew hdis r6
    have r6 := zr6
    clear zr6
    go_wp2
    exact ret_row rfl _ rfl r6 4 _ Try.underlying31 (by exact size_nat) rfl ⟨rfl, sb⟩
   ·rfl
  ·rfl
 ·rfl
end Go.Proofs.Ytfhgdgnhcmakhaa
