import Derived.Test.YtgdalihjpemjiaaGreatGT
set_option maxRecDepth 100000
set_option maxHeartbeats 2000000
namespace Go.Proofs.YtgdalihjpemjiaaGreat
set_option linter.unusedVariables false
open Go.RowKit
def Nob (w : World) (v : Option Addr) : Prop := v = none ∨ ∃ g, v = some ⟨g, 0, none⟩ ∧ Row w g (rgC 0 0 0 0) 125
theorem Nob.below {w w' : World} {v : Option Addr} (h : Nob w v) (hb : Below w.heap.size w w') : Nob w' v := h.imp id fun ⟨g, h1, h2⟩ => ⟨g, h1, h2.belowAll hb⟩
theorem Nob.on {w w' : World} {v : Option Addr} (h : Nob w v) (hk : Kept [] w w') : Nob w' v := h.imp id fun ⟨g, h1, h2⟩ => ⟨g, h1, hk.row h2 (by simp)⟩
theorem given_no (v : Option Addr) (w : World) (h : Nob w v) :
  Calls Tryz.prog 107 #[.pointer v] w fun e w' => e = .returned (.bool false) ∧ Below w.heap.size w w' := by
 obtain rfl | ⟨g0, rfl, r0⟩ := h
 ·go_enter Tryz.func107, Tryz.ntmps107
  iterate 2 go_step
  apply wp_region_mixp [] [_] trivial List.nodup_nil
  ·intro p
   refine mx_val (.bool false) (fun _ => rfl) ?_
   simp only [pv]
   refine mx_end ?_
   intro w2 hkw hrw hnew hdis
   have sb := k_b hkw
   clear hkw hrw hnew hdis
   iterate 3 go_step
   refine wp_region_qp ?_
   refine q_m ?_
   simp only [pv]
   refine q_v (.bool false) (exec_neq_nilp 71 _ _ _ rfl none rfl rfl ptr_ring) ?_
   refine q_m ?_
   simp only [pv]
   refine qw_skip (by rfl) ?_
   simp only [pv]
   refine qw_skip (by rfl) ?_
   simp only [pv]
   refine qw_skip (by rfl) ?_
   simp only [pv]
   refine qw_skip (by rfl) ?_
   simp only [pv]
   refine qw_skip (by rfl) ?_
   simp only [pv]
   refine qw_skip (by rfl) ?_
   simp only [pv]
   refine qw_pick false (v := .bool false) (by rfl) rfl rfl rfl ?_
   refine q_a ?_
   simp only [pv]
   refine qw_nil ?_
   intro w3 hqb
   replace sb := b_o sb hqb
   clear hqb
   go_wp2
   go_ret
   exact ⟨rfl, sb⟩
  ·rfl
 ·go_enter Tryz.func107, Tryz.ntmps107
  iterate 2 go_step
  apply wp_region_mixp [] [_] trivial List.nodup_nil
  ·intro p
   refine mx_val (.bool false) (fun _ => rfl) ?_
   simp only [pv]
   refine mx_end ?_
   intro w2 hkw hrw hnew hdis
   replace r0 := hkw.ro r0
   have sb := k_b hkw
   clear hkw hrw hnew hdis
   iterate 3 go_step
   refine wp_region_qp ?_
   refine q_m ?_
   simp only [pv]
   refine q_v (.bool true) (exec_neq_nilp 71 _ _ _ rfl (some ⟨g0, 0, none⟩) rfl rfl ptr_ring) ?_
   refine q_m ?_
   refine q_m ?_
   simp only [pv]
   refine q_v (.pointer (some ⟨g0, 0, none⟩)) (exec_nil _ rfl g0 0 rfl) ?_
   simp only [pv]
   refine q_v (.pointer (some ⟨g0, 0, none⟩)) (exec_field 125 _ 0 rfl g0 0 rfl _ Tryz.underlying125 _ rfl 3 Tryz.sizeOf40) ?_
   simp only [pv]
   refine qw_loadm (by rfl) 40 _ rfl _ (0) rfl r0 (natC 0) (rg_m 0 0 0 0) _ Tryz.underlying40 rfl size_nat ?_
   simp only [pv]
   refine q_v (.agg (natC 0)) (exec_build0 40 rfl _ built_nat) ?_
   simp only [pv]
   refine q_v (.bool false) (fun w' => (exec_neq_nat _ _ _ rfl 0 0 rfl rfl w').trans (by rw [decide_eq_true rfl]; rfl)) ?_
   simp only [pv]
   refine qw_pick true (v := .bool false) (by rfl) rfl rfl rfl ?_
   refine q_a ?_
   simp only [pv]
   refine qw_nil ?_
   intro w3 hqb
   replace sb := b_o sb hqb
   clear hqb
   go_wp2
   go_ret
   exact ⟨rfl, sb⟩
  ·rfl
theorem mul_no (v : Option Addr) (A B : Nat) (w : World) (h : Nob w v) :
  Calls Tryz.prog 129 #[.pointer v, .agg (natC A), .agg (natC B)] w fun e w' => e = .returned (.agg (natC 0)) ∧ Below w.heap.size w w' := by
 have hgi := fun w' (hb : Below w.heap.size w w') => given_no v w' (h.below hb)
 clear h
 go_enter Tryz.func129, Tryz.ntmps129
 iterate 2 go_step
 apply wp_region_mixp [] [_, _, _] trivial List.nodup_nil
 ·intro p
  refine mx_box 40 _ rfl _ rfl ?_
  simp only [pv]
  refine mx_box 40 _ rfl _ rfl ?_
  simp only [pv]
  refine m_n ?_
  simp only [pv]
  refine mx_end ?_
  intro w2 hkw hrw hnew hdis
  have n4 := hnew 0 rfl
  have n5 := hnew 1 rfl
  have n6 := hnew 2 rfl
  have zr4 : Row w2 (p 0) (natC A) 40 := hrw 1 (40, natC A) rfl
  have zr5 : Row w2 (p 1) (natC B) 40 := hrw 3 (40, natC B) rfl
  have zr6 : Row w2 (p 2) (natC 0) 40 := hrw 5 (40, natC 0) rfl
  have sb := k_b hkw
  have b6 : w.heap.size ≤ p 2 := n6
  clear hkw hrw hnew hdis n4 n5 n6
  generalize p 0 = g4 at *
  generalize p 1 = g5 at *
  generalize p 2 = g6 at *
  clear zr4
  clear zr5
  have r6 := zr6
  clear zr6
  iterate 4 go_step
  apply wp_region_mixp [] [_, _, _] trivial List.nodup_nil
  ·intro p
   refine m_m ?_
   simp only [pv]
   refine mx_callK 107 _ _ rfl Tryz.func107 (by kernel_rfl) #[.pointer v] rfl _ (fun w' hk => hgi w' (sb.trans (hk.below w.heap.size sb.size (by simp)))) ?_
   simp only [pv]
   refine mx_val (.bool true) (exec_not _ _ rfl false rfl) ?_
   simp only [pv]
   refine mx_end ?_
   intro w3 hkw hrw hnew hdis
   replace r6 := hkw.ro r6
   replace sb := kk sb hkw
   clear hkw hrw hnew hdis
   iterate 4 go_step
   apply wp_region_mixp [(g6, 40, natC 0)] [_, _] ⟨r6, trivial⟩ (by simp <;> omega)
   ·intro p
    refine mx_val (.agg (natC 0)) (exec_build0 40 rfl _ built_nat) ?_
    simp only [pv]
    refine m_p 0 0 ?_
    simp only [Act.put]
    refine mx_end ?_
    intro w4 hkw hrw hnew hdis
    have zr6 : Row w4 (g6) (natC 0) 40 := hrw 0 (40, natC 0) rfl
    replace sb := kk sb hkw
    clear hkw hrw hnew hdis r6
    have r6 := zr6
    clear zr6
    go_wp2
    exact ret_row rfl _ rfl r6 4 _ Tryz.underlying40 (by exact size_nat) rfl ⟨rfl, sb⟩
   ·rfl
  ·rfl
 ·rfl
theorem in_no (v : Option Addr) (A : Nat) (w : World) (h : Nob w v) :
  Calls Tryz.prog 76 #[.pointer v, .agg (natC A)] w fun e w' => e = .returned (.bool false) ∧ Below w.heap.size w w' := by
 have hgi := fun w' (hb : Below w.heap.size w w') => given_no v w' (h.below hb)
 clear h
 go_enter Tryz.func76, Tryz.ntmps76
 repeat ((fail_if_success with_reducible apply rg); go_step)
 apply wp_region_mixp [] [_, _] trivial List.nodup_nil
 ·intro p
  refine mx_box 40 _ rfl _ rfl ?_
  simp only [pv]
  refine mx_val (.bool false) (fun _ => rfl) ?_
  simp only [pv]
  refine mx_end ?_
  intro w2 hkw hrw hnew hdis
  have n3 := hnew 0 rfl
  have zr3 : Row w2 (p 0) (natC A) 40 := hrw 1 (40, natC A) rfl
  have sb := k_b hkw
  have b3 : w.heap.size ≤ p 0 := n3
  clear hkw hrw hnew hdis n3
  generalize p 0 = g3 at *
  have r3 := zr3
  clear zr3
  repeat ((fail_if_success with_reducible apply rg); go_step)
  refine wp_region_qw (by kernel_rfl) (by kernel_rfl) ?_
  refine q_m ?_
  simp only [pv]
  refine qw_callK (by rfl) 107 _ _ rfl Tryz.func107 (by kernel_rfl) #[.pointer v] rfl _ (fun w' hb => hgi w' (below_on sb (Nat.le_refl _) hb)) ?_
  refine q_m ?_
  simp only [pv]
  refine qw_skip (by rfl) ?_
  simp only [pv]
  refine qw_skip (by rfl) ?_
  simp only [pv]
  refine qw_skip (by rfl) ?_
  simp only [pv]
  refine qw_skip (by rfl) ?_
  simp only [pv]
  refine qw_skip (by rfl) ?_
  simp only [pv]
  refine qw_skip (by rfl) ?_
  simp only [pv]
  refine qw_skip (by rfl) ?_
  simp only [pv]
  refine qw_pick false (v := .bool false) (by rfl) rfl rfl rfl ?_
  refine q_a ?_
  simp only [pv]
  refine qw_nil ?_
  intro w3 hqb
  replace sb := b_o sb hqb
  clear hqb
  go_wp2
  go_ret
  exact ⟨rfl, sb⟩
 ·rfl
theorem prod_no (v ab ae : Option Addr) (n m cb ce : Nat) (w : World) (h : Nob w v) :
  Calls Tryz.prog 90 #[.pointer v, .slice ab n cb, .slice ae m ce] w fun e w' => e = .returned (.tuple #[.agg (natC 0), .int .i64 1]) ∧ Below w.heap.size w w' := by
 have hgi := fun w' (hb : Below w.heap.size w w') => given_no v w' (h.below hb)
 clear h
 go_enter Tryz.func90, Tryz.ntmps90
 repeat ((fail_if_success with_reducible apply rg); go_step)
 apply wp_region_mixp [] [_, _] trivial List.nodup_nil
 ·intro p
  refine m_n ?_
  simp only [pv]
  refine mx_val (.int .i64 0) (fun _ => rfl) ?_
  simp only [pv]
  refine mx_end ?_
  intro w2 hkw hrw hnew hdis
  have n6 := hnew 0 rfl
  have zr6 : Row w2 (p 0) (natC 0) 40 := hrw 1 (40, natC 0) rfl
  have sb := k_b hkw
  have b6 : w.heap.size ≤ p 0 := n6
  clear hkw hrw hnew hdis n6
  generalize p 0 = g6 at *
  have r6 := zr6
  clear zr6
  repeat ((fail_if_success with_reducible apply rg); go_step)
  refine wp_region_qp ?_
  refine q_m ?_
  simp only [pv]
  refine qw_callK (by rfl) 107 _ _ rfl Tryz.func107 (by kernel_rfl) #[.pointer v] rfl _ (fun w' hb => hgi w' (below_on sb (Nat.le_refl _) hb)) ?_
  simp only [pv]
  refine q_v (.bool true) (exec_not _ _ rfl false rfl) ?_
  refine q_m ?_
  simp only [pv]
  refine qw_skip (by rfl) ?_
  simp only [pv]
  refine qw_skip (by rfl) ?_
  simp only [pv]
  refine qw_skip (by rfl) ?_
  simp only [pv]
  refine qw_skip (by rfl) ?_
  simp only [pv]
  refine qw_skip (by rfl) ?_
  simp only [pv]
  refine qw_pick true (v := .bool true) (by rfl) rfl rfl rfl ?_
  refine q_m ?_
  simp only [pv]
  refine qw_skip (by rfl) ?_
  simp only [pv]
  refine qw_skip (by rfl) ?_
  simp only [pv]
  refine qw_skip (by rfl) ?_
  simp only [pv]
  refine qw_pick true (v := .bool true) (by rfl) rfl rfl rfl ?_
  simp only [pv]
  refine qw_nil ?_
  intro w3 hqb
  replace r6 := r6.belowAll hqb
  replace sb := b_o sb hqb
  clear hqb
  repeat ((fail_if_success with_reducible apply rg); go_step)
  apply wp_region_mixp [(g6, 40, natC 0)] [_, _, _] ⟨r6, trivial⟩ (by simp <;> omega)
  ·intro p
   refine mx_val (.agg (natC 0)) (exec_build0 40 rfl _ built_nat) ?_
   simp only [pv]
   refine m_p 0 0 ?_
   simp only [Act.put]
   refine mx_val (.int .i64 1) (fun _ => rfl) ?_
   simp only [pv]
   refine mx_end ?_
   intro w4 hkw hrw hnew hdis
   have zr6 : Row w4 (g6) (natC 0) 40 := hrw 0 (40, natC 0) rfl
   replace sb := kk sb hkw
   clear hkw hrw hnew hdis r6
   have r6 := zr6
   clear zr6
   go_wp2
   exact ret_row2 rfl _ rfl r6 4 _ Tryz.underlying40 (by exact size_nat) rfl _ rfl ⟨rfl, sb⟩
  ·rfl
 ·rfl
end Go.Proofs.YtgdalihjpemjiaaGreat
