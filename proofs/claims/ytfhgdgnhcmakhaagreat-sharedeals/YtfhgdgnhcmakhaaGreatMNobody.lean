import Derived.Test.YtfhgdgnhcmakhaaGreatGT
set_option maxRecDepth 100000
set_option maxHeartbeats 2000000
namespace Go.Proofs.YtfhgdgnhcmakhaaGreat
open Go.RowKit
def Nob (w : World) (v : Option Addr) : Prop := v = none ∨ ∃ g, v = some ⟨g, 0, none⟩ ∧ Row w g (rgC 0 0 0 0) 117
theorem Nob.below {w w' : World} {v : Option Addr} (h : Nob w v) (hb : Below w.heap.size w w') : Nob w' v := h.imp id fun ⟨g, h1, h2⟩ => ⟨g, h1, h2.belowAll hb⟩
theorem Nob.on {w w' : World} {v : Option Addr} (h : Nob w v) (hk : Kept [] w w') : Nob w' v := h.imp id fun ⟨g, h1, h2⟩ => ⟨g, h1, hk.row h2 (by simp)⟩
theorem given_no (v : Option Addr) (w : World) (h : Nob w v) :
  Calls Tryz.prog 102 #[.pointer v] w fun e w' => e = .returned (.bool false) ∧ Below w.heap.size w w' := by
 obtain rfl | ⟨g0, rfl, r0⟩ := h
 ·go_enter Tryz.func102, Tryz.ntmps102
  iterate 2 go_step
  apply wp_region_mixp [] [_] trivial List.nodup_nil
  ·intro p
   refine mx_val (.bool false) (fun _ => rfl) ?_
   simp only [pv]
   refine mx_end ?_
   intro w2 hkw hrw hnew hdis
   have sb := hkw.below w.heap.size (Nat.le_refl _) (by simp)
   clear hkw hrw hnew hdis
   iterate 3 go_step
   refine wp_region_qp ?_
   refine qw_move (by rfl) rfl rfl ?_
   simp only [pv]
   refine qw_value (by rfl) (.bool false) (exec_neq_nilp 84 _ _ _ rfl none rfl rfl ptr_ring) ?_
   refine qw_move (by rfl) rfl rfl ?_
   simp only [pv]
   refine qw_skip (by rfl) ?_
   simp only [pv]
   refine qw_skip (by rfl) ?_
   simp only [pv]
   refine qw_skip (by rfl) ?_
   simp only [pv]
   refine qw_skip (by rfl) ?_
   simp only [pv]
   refine qw_skip (by rfl) ?_
   simp only [pv]
   refine qw_skip (by rfl) ?_
   simp only [pv]
   refine qw_pick false (v := .bool false) (by rfl) rfl rfl rfl ?_
   refine qw_asg (by rfl) rfl rfl ?_
   simp only [pv]
   refine qw_nil ?_
   intro w3 hqb
   replace sb := below_on sb (Nat.le_refl _) hqb
   clear hqb
   go_wp2
   go_ret
   exact ⟨rfl, sb⟩
  ·rfl
 ·go_enter Tryz.func102, Tryz.ntmps102
  iterate 2 go_step
  apply wp_region_mixp [] [_] trivial List.nodup_nil
  ·intro p
   refine mx_val (.bool false) (fun _ => rfl) ?_
   simp only [pv]
   refine mx_end ?_
   intro w2 hkw hrw hnew hdis
   replace r0 := hkw.ro r0
   have sb := hkw.below w.heap.size (Nat.le_refl _) (by simp)
   clear hkw hrw hnew hdis
   iterate 3 go_step
   refine wp_region_qp ?_
   refine qw_move (by rfl) rfl rfl ?_
   simp only [pv]
   refine qw_value (by rfl) (.bool true) (exec_neq_nilp 84 _ _ _ rfl (some ⟨g0, 0, none⟩) rfl rfl ptr_ring) ?_
   refine qw_move (by rfl) rfl rfl ?_
   refine qw_move (by rfl) rfl rfl ?_
   simp only [pv]
   refine qw_value (by rfl) (.pointer (some ⟨g0, 0, none⟩)) (exec_nil _ rfl g0 0 rfl) ?_
   simp only [pv]
   refine qw_value (by rfl) (.pointer (some ⟨g0, 0, none⟩)) (exec_field 117 _ 0 rfl g0 0 rfl _ Tryz.underlying117 _ rfl 3 Tryz.sizeOf38) ?_
   simp only [pv]
   refine qw_loadm (by rfl) 38 _ rfl _ (0) rfl r0 (natC 0) (rg_m 0 0 0 0) _ Tryz.underlying38 rfl size_nat ?_
   simp only [pv]
   refine qw_value (by rfl) (.agg (natC 0)) (exec_build0 38 rfl _ built_nat) ?_
   simp only [pv]
   refine qw_value (by rfl) (.bool false) (fun w' => (exec_neq_nat _ _ _ rfl 0 0 rfl rfl w').trans (by rw [decide_eq_true rfl]; rfl)) ?_
   simp only [pv]
   refine qw_pick true (v := .bool false) (by rfl) rfl rfl rfl ?_
   refine qw_asg (by rfl) rfl rfl ?_
   simp only [pv]
   refine qw_nil ?_
   intro w3 hqb
   replace sb := below_on sb (Nat.le_refl _) hqb
   clear hqb
   go_wp2
   go_ret
   exact ⟨rfl, sb⟩
  ·rfl
theorem mul_no (v : Option Addr) (A B : Nat) (w : World) (h : Nob w v) :
  Calls Tryz.prog 89 #[.pointer v, .agg (natC A), .agg (natC B)] w fun e w' => e = .returned (.agg (natC 0)) ∧ Below w.heap.size w w' := by
 have hgi := fun w' (hb : Below w.heap.size w w') => given_no v w' (h.below hb)
 clear h
 go_enter Tryz.func89, Tryz.ntmps89
 iterate 2 go_step
 apply wp_region_mixp [] [_, _, _] trivial List.nodup_nil
 ·intro p
  refine mx_box 38 _ rfl _ rfl ?_
  simp only [pv]
  refine mx_box 38 _ rfl _ rfl ?_
  simp only [pv]
  refine mx_new 38 rfl _ zero_nat ?_
  simp only [pv]
  refine mx_end ?_
  intro w2 hkw hrw hnew hdis
  have n4 := hnew 0 rfl
  have n5 := hnew 1 rfl
  have n6 := hnew 2 rfl
  have zr4 : Row w2 (p 0) (natC A) 38 := hrw 1 (38, natC A) rfl
  have zr5 : Row w2 (p 1) (natC B) 38 := hrw 3 (38, natC B) rfl
  have zr6 : Row w2 (p 2) (natC 0) 38 := hrw 5 (38, natC 0) rfl
  have d4x5 := hdis 0 1 (by omega) rfl rfl
  have d4x6 := hdis 0 2 (by omega) rfl rfl
  have d5x6 := hdis 1 2 (by omega) rfl rfl
  have sb := hkw.below w.heap.size (Nat.le_refl _) (by simp)
  have b4 : w.heap.size ≤ p 0 := n4
  have b5 : w.heap.size ≤ p 1 := n5
  have b6 : w.heap.size ≤ p 2 := n6
  clear hkw hrw hnew hdis n4 n5 n6
  generalize p 0 = g4 at *
  generalize p 1 = g5 at *
  generalize p 2 = g6 at *
  have r4 := zr4
  clear zr4
  have r5 := zr5
  clear zr5
  have r6 := zr6
  clear zr6
  iterate 4 go_step
  apply wp_region_mixp [] [_, _, _] trivial List.nodup_nil
  ·intro p
   refine mx_move rfl rfl ?_
   simp only [pv]
   refine mx_callK 102 _ _ rfl Tryz.func102 (by kernel_rfl) #[.pointer v] rfl _ (fun w' hk => hgi w' (sb.trans (hk.below w.heap.size sb.size (by simp)))) ?_
   simp only [pv]
   refine mx_val (.bool true) (exec_not _ _ rfl false rfl) ?_
   simp only [pv]
   refine mx_end ?_
   intro w3 hkw hrw hnew hdis
   replace r6 := hkw.ro r6
   replace sb := kk sb hkw
   clear hkw hrw hnew hdis
   iterate 4 go_step
   apply wp_region_mixp [(g6, 38, natC 0)] [_, _] ⟨r6, trivial⟩ (by simp <;> omega)
   ·intro p
    refine mx_val (.agg (natC 0)) (exec_build0 38 rfl _ built_nat) ?_
    simp only [pv]
    refine mx_put 0 38 _ _ rfl rfl rfl (natC 0) rfl (by exact size_nat) (by simp only [natC_size]) (natC_one _) ?_
    simp only [Act.put]
    refine mx_end ?_
    intro w4 hkw hrw hnew hdis
    have zr6 : Row w4 (g6) (natC 0) 38 := hrw 0 (38, natC 0) rfl
    replace sb := kk sb hkw
    clear hkw hrw hnew hdis r6
    have r6 := zr6
    clear zr6
    go_wp2
    exact ret_row rfl _ rfl r6 4 _ Tryz.underlying38 (by exact size_nat) rfl ⟨rfl, sb⟩
   ·rfl
  ·rfl
 ·rfl
end Go.Proofs.YtfhgdgnhcmakhaaGreat
