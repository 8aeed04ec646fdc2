import Derived.Test.YtgdalihjpemjiaaGreatGL
set_option maxRecDepth 100000
set_option maxHeartbeats 2000000
namespace Go.Proofs.YtgdalihjpemjiaaGreat
set_option linter.unusedVariables false
open Go.RowKit
theorem exec_rem_u {P : Program} {o : Oper} {ρ : Operand → Value} (t : TypeId) (x y : Operand) (u : TypeId) (ho : o.op = .binOp .rem t x y u) (n m : Nat) (hx : ρ x = .int .u64 n) (hy : ρ y = .int .u64 m) (hm : 0 < m) (w : World) :
  (execOp ρ o).run P w = .ok (.value (.int .u64 ((n % m : Nat) : Int))) w := by
 have h0 : ¬ (m = 0) := by omega
 unfold execOp
 simp only [ho, hx, hy]
 simp [go_sem]
 rw [if_neg h0, Int.tmod_eq_emod_of_nonneg (by omega)]
theorem exec_neg_u {P : Program} {o : Oper} {ρ : Operand → Value} (t : TypeId) (x : Operand) (ho : o.op = .unOp .neg t x) (n m : Nat) (hx : ρ x = .int .u64 n) (hm : IntKind.u64.wrap (-(n : Int)) = (m : Int)) (w : World) :
  (execOp ρ o).run P w = .ok (.value (.int .u64 m)) w := by
 unfold execOp
 simp only [ho, hx]
 simp [go_sem]
 exact hm
theorem exec_ring {o : Oper} {ρ : Operand → Value} {x0 x1 x2 x3 : Operand} (M mi one sq : Nat) (ho : o.op = .build 125 #[(0, x0), (1, x1), (2, x2), (3, x3)]) (h0 : ρ x0 = .agg (natC M)) (h1 : ρ x1 = .int .u64 mi) (h2 : ρ x2 = .agg (natC one)) (h3 : ρ x3 = .agg (natC sq)) (w : World) :
  (execOp ρ o).run Tryz.prog w = .ok (.value (.agg (rgC M mi one sq))) w := by
 unfold execOp
 simp only [ho, List.map_toArray, List.map_cons, List.map_nil, h0, h1, h2, h3, Sem.run_bind]
 rw [run_build w 125 _ (rgC M mi one sq) (by kernel_rfl)]
 rfl
def miL (M : Nat) : Nat := 18446744073709551616 - nwI (lm M 0) 5
def oneL (M : Nat) : Nat := 2 ^ 256 % M
def sqL (M : Nat) : Nat := oneL M * oneL M % M
theorem lm_odd (M : Nat) : lm M 0 % 2 = M % 2 := by unfold lm; rw [Nat.mul_zero, Nat.pow_zero, Nat.div_one]; omega
theorem mi_facts (M : Nat) (h : M % 2 = 1) : IntKind.u64.wrap (-(nwI (lm M 0) 5 : Int)) = (miL M : Int) ∧ miL M < 18446744073709551616 ∧ miL M * M % 18446744073709551616 = 18446744073709551615 := by
 have hd := nwI_dvd (lm M 0) (by rw [lm_odd]; exact h) 5 (Nat.le_refl _)
 have hl := nwI_lt (lm M 0) 5 (lm_lt M 0)
 obtain ⟨h1, h2, h3⟩ := minus_is M _ hd hl
 exact ⟨h2, h1, h3⟩
theorem new_core (M mi one sq iv : Nat) (w : World) (h : M % 2 = 1) (h2 : 2 ≤ M) (hM : M < 2 ^ 256) (hmi : IntKind.u64.wrap (-(iv : Int)) = (mi : Int))
  (hin : ∀ w', Calls Tryz.prog 89 #[.int .u64 (lm M 0 : Nat)] w' fun e w2 => e = .returned (.int .u64 iv) ∧ Below w'.heap.size w' w2)
  (hre : ∀ w', Calls Tryz.prog 87 #[.agg (natC 0), .agg (natC 1), .agg (natC M)] w' fun e w2 => e = .returned (.tuple #[.agg (natC one), .int .i64 0]) ∧ Below w'.heap.size w' w2)
  (hmu : ∀ w', Calls Tryz.prog 88 #[.agg (natC one), .agg (natC one), .agg (natC M)] w' fun e w2 => e = .returned (.tuple #[.agg (natC sq), .int .i64 0]) ∧ Below w'.heap.size w' w2) :
  Calls Tryz.prog 54 #[.agg (natC M)] w fun e w' => ∃ g, e = .returned (.tuple #[.pointer (some ⟨g, 0, none⟩), .int .i64 0]) ∧ w.heap.size ≤ g ∧ Row w' g (rgC M mi one sq) 125 ∧ Below w.heap.size w w' := by
 have hof : ∀ w', Calls Tryz.prog 45 #[.int .i64 1] w' fun e w2 => e = .returned (.agg (natC 1)) ∧ Below w'.heap.size w' w2 := fun w' => nof_any 1 w' (by decide)
 have HV : Hid (lm M 0 % 2 = 1) := by show _ = _; rw [lm_odd]; exact h
 have HW : Hid (decide (M % 2 ^ 256 = 1 % 2 ^ 256) = false) := by
  show _ = _
  rw [Nat.mod_eq_of_lt hM]
  exact decide_eq_false (by simp; omega)
 have HM : Hid (IntKind.u64.wrap (-(iv : Int)) = (mi : Int)) := hmi
 clear h h2 hM hmi
 go_enter Tryz.func54, Tryz.ntmps54
 iterate 2 go_step
 apply wp_region_mixp [] [_, _, _] trivial List.nodup_nil
 ·intro p
  refine mx_box 40 _ rfl _ rfl ?_
  simp only [pv]
  refine mx_val (.pointer none) (fun _ => rfl) ?_
  simp only [pv]
  refine mx_val (.int .i64 0) (fun _ => rfl) ?_
  simp only [pv]
  refine mx_end ?_
  intro w2 hkw hrw hnew hdis
  have n1 := hnew 0 rfl
  have zr1 : Row w2 (p 0) (natC M) 40 := hrw 1 (40, natC M) rfl
  have sb := k_b hkw
  clear hkw hrw hnew hdis n1
  generalize p 0 = g1 at *
  have r1 := zr1
  clear zr1
  iterate 4 go_step
  refine wp_region_qw (by kernel_rfl) (by kernel_rfl) ?_
  refine q_v (.pointer (some ⟨g1, 0, none⟩)) (exec_index 40 _ _ rfl g1 rfl 0 4 rfl (by omega) _ Tryz.underlying40 Tryz.sizeOf38) ?_
  simp only [pv]
  refine qw_loadc (by rfl) 38 _ rfl _ (0) rfl r1 (.int .u64 (lm M 0 : Nat)) (natC_get M 0 (by omega)) Tryz.isAgg38 ?_
  simp only [pv]
  refine q_v (.int .u64 ((lm M 0 % 2 : Nat) : Int)) (exec_rem_u _ _ _ _ rfl (lm M 0) 2 rfl rfl (by omega)) ?_
  simp only [pv]
  refine q_v (.bool false) (exec_eql_k .u64 _ _ _ _ rfl _ 0 rfl rfl false (by rw [HV.out]; rfl)) ?_
  refine q_m ?_
  simp only [pv]
  refine qw_load (by rfl) 40 _ rfl _ rfl r1 4 _ Tryz.underlying40 size_nat ?_
  simp only [pv]
  refine qw_call (by rfl) 45 _ _ rfl Tryz.func45 (by kernel_rfl) #[.int .i64 1] rfl _ hof ?_
  simp only [pv]
  refine q_v (.bool false) (fun w' => (exec_eql_nat _ _ _ rfl M 1 rfl rfl w').trans (by rw [HW.out])) ?_
  simp only [pv]
  refine qw_pick false (v := .bool false) (by rfl) rfl rfl rfl ?_
  simp only [pv]
  refine qw_nil ?_
  intro w3 hqb
  replace r1 := r1.belowAll hqb
  replace sb := b_o sb hqb
  clear hqb
  iterate 7 go_step
  apply wp_region_mix (by kernel_rfl) [] [_, _, _, _, _, _, _, _, _, _] trivial List.nodup_nil
  ·intro p
   refine mx_val (.agg (natC 0)) (exec_build0 40 rfl _ built_nat) ?_
   simp only [pv]
   refine mx_call 45 _ _ rfl Tryz.func45 (by kernel_rfl) #[.int .i64 1] rfl _ hof ?_
   simp only [pv]
   refine m_l r1 ?_
   simp only [pv]
   refine mx_call 87 _ _ rfl Tryz.func87 (by kernel_rfl) #[.agg (natC 0), .agg (natC 1), .agg (natC M)] rfl _ hre ?_
   refine m_m ?_
   refine m_e ?_
   refine m_e ?_
   simp only [pv]
   refine m_n ?_
   simp only [pv]
   refine m_p 15 one ?_
   simp only [Act.put]
   refine m_a ?_
   simp only [pv]
   refine mx_end ?_
   intro w4 hkw hrw hnew hdis
   have n4 := hnew 7 rfl
   have zr4 : Row w4 (p 7) (natC one) 40 := hrw 15 (40, natC one) rfl
   replace r1 := hkw.ro r1
   replace sb := kk sb hkw
   clear hkw hrw hnew hdis n4
   generalize p 7 = g4 at *
   have r4 := zr4
   clear zr4
   iterate 3 go_step
   apply wp_region_mixp [] [_, _, _, _, _, _, _, _, _, _] trivial List.nodup_nil
   ·intro p
    refine m_l r4 ?_
    simp only [pv]
    refine m_l r4 ?_
    simp only [pv]
    refine m_l r1 ?_
    simp only [pv]
    refine mx_call 88 _ _ rfl Tryz.func88 (by kernel_rfl) #[.agg (natC one), .agg (natC one), .agg (natC M)] rfl _ hmu ?_
    refine m_m ?_
    refine m_e ?_
    refine m_e ?_
    simp only [pv]
    refine m_n ?_
    simp only [pv]
    refine m_p 15 sq ?_
    simp only [Act.put]
    refine m_a ?_
    simp only [pv]
    refine mx_end ?_
    intro w5 hkw hrw hnew hdis
    have n6 := hnew 7 rfl
    have zr6 : Row w5 (p 7) (natC sq) 40 := hrw 15 (40, natC sq) rfl
    replace r1 := hkw.ro r1
    replace r4 := hkw.ro r4
    replace sb := kk sb hkw
    clear hkw hrw hnew hdis n6
    generalize p 7 = g6 at *
    have r6 := zr6
    clear zr6
    iterate 3 go_step
    apply wp_region_mix (by kernel_rfl) [] [_, _, _, _, _, _, _, _, _, _, _] trivial List.nodup_nil
    ·intro p
     refine m_l r1 ?_
     simp only [pv]
     refine mx_val (.pointer (some ⟨g1, 0, none⟩)) (exec_index 40 _ _ rfl (g1) rfl (0) 4 rfl (by omega) _ Tryz.underlying40 Tryz.sizeOf38) ?_
     simp only [pv]
     refine mx_loadc 38 _ rfl _ (0) rfl r1 (by simp <;> omega) (.int .u64 (lm M 0 : Nat)) (natC_get M 0 (by omega)) Tryz.isAgg38 ?_
     simp only [pv]
     refine mx_call 89 _ _ rfl Tryz.func89 (by kernel_rfl) #[.int .u64 (lm M 0 : Nat)] rfl _ hin ?_
     simp only [pv]
     refine mx_val (.int .u64 mi) (exec_neg_u _ _ rfl iv mi rfl HM.out) ?_
     simp only [pv]
     refine m_l r4 ?_
     simp only [pv]
     refine m_l r6 ?_
     simp only [pv]
     refine mx_val (.agg (rgC M mi one sq)) (exec_ring M mi one sq rfl rfl rfl rfl rfl) ?_
     simp only [pv]
     refine mx_box 125 _ rfl _ rfl ?_
     simp only [pv]
     refine mx_asgP 8 (fun g => .pointer (some ⟨g, 0, none⟩)) (.inl rfl) (by omega) rfl ?_
     simp only [pv]
     refine mx_val (.int .i64 0) (fun _ => rfl) ?_
     simp only [pv]
     refine mx_end ?_
     intro w6 hkw hrw hnew hdis
     have n39 := hnew 8 rfl
     have zr39 : Row w6 (p 8) (rgC M mi one sq) 125 := hrw 17 (125, rgC M mi one sq) rfl
     have b39 := Nat.le_trans sb.size n39
     replace sb := kk sb hkw
     clear hkw hrw hnew hdis n39
     generalize p 8 = g39 at *
     have r39 := zr39
     clear zr39
     go_wp2
     go_ret2
     exact ⟨g39, rfl, b39, r39, sb⟩
    ·kernel_rfl
   ·rfl
  ·kernel_rfl
 ·rfl
theorem new_any (M : Nat) (w : World) (h : M % 2 = 1) (h2 : 2 ≤ M) (hM : M < 2 ^ 256) :
  Calls Tryz.prog 54 #[.agg (natC M)] w fun e w' => ∃ g, e = .returned (.tuple #[.pointer (some ⟨g, 0, none⟩), .int .i64 0]) ∧ w.heap.size ≤ g ∧ Row w' g (rgC M (miL M) (oneL M) (sqL M)) 125 ∧ Below w.heap.size w w' := by
 refine new_core M _ _ _ (nwI (lm M 0) 5) w h h2 hM (mi_facts M h).1 (inverse_any (lm M 0)) (fun w' => ?_) (fun w' => ?_)
 ·have := wrem_any 0 1 M w' (by decide) (by decide) hM
  rw [show modZ (1 * 2 ^ 256 + 0) M = oneL M by unfold modZ oneL; rw [if_neg (by omega)], show errI M = 0 by unfold errI; rw [if_neg (by omega)]] at this
  exact this
 ·have hl : oneL M < 2 ^ 256 := Nat.lt_trans (Nat.mod_lt _ (by omega)) hM
  have := wmulmod_any (oneL M) (oneL M) M w' hl hl hM
  rw [show modZ (oneL M * oneL M) M = sqL M by unfold modZ sqL; rw [if_neg (by omega)], show errI M = 0 by unfold errI; rw [if_neg (by omega)]] at this
  exact this
end Go.Proofs.YtgdalihjpemjiaaGreat
