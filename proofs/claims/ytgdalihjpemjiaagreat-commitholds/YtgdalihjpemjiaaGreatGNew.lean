import Derived.Test.YtgdalihjpemjiaaGreatPX
import Derived.Test.YtgdalihjpemjiaaGreatGTypes
import Derived.Test.YtgdalihjpemjiaaGreatGT
set_option maxRecDepth 100000
set_option maxHeartbeats 2000000
namespace Go.Proofs.YtgdalihjpemjiaaGreat
set_option linter.unusedVariables false
open Go.RowKit
theorem madeOf_any (n c : Nat) (ab : Option Addr) (G : Nat) (N : Nat → Nat) (A : Nat → Int) (gb ob : Nat) (bcs : Array Value) (tb : TypeId) (w : World) (h2 : 2 ≤ n) (hn : n < 9223372036854775808) (hL : LinksAt w ab n N A gb ob bcs tb) :
  Calls Tryz.prog 52 #[.agg (paC ab n c G)] w fun e w' => e = .returned (.agg (mdC (N (n - 1)) (N (n - 2)) G)) ∧ Below w.heap.size w w' := by
 obtain h0 | ⟨rfl, rB, hat⟩ := hL.at'
 ·omega
 clear hL
 have lB := rB.lt
 have h1 := hat (n - 1) (by omega)
 have hq := hat (n - 2) (by omega)
 clear hat
 generalize N (n - 1) = P at *
 generalize A (n - 1) = zp at *
 generalize N (n - 2) = Q1 at *
 generalize A (n - 2) = zq at *
 go_enter Tryz.func52, Tryz.ntmps52
 iterate 2 go_step
 apply wp_region_mixp [] [_, _] trivial List.nodup_nil
 ·intro p
  refine mx_box 56 _ rfl _ rfl ?_
  simp only [pv]
  refine mx_new 70 rfl _ zero_md ?_
  simp only [pv]
  refine mx_end ?_
  intro w2 hkw hrw hnew hdis
  have n1 := hnew 0 rfl
  have n2 := hnew 1 rfl
  have zr1 : Row w2 (p 0) (paC (some ⟨gb, ob, none⟩) n c G) 56 := hrw 1 (56, paC (some ⟨gb, ob, none⟩) n c G) rfl
  have zr2 : Row w2 (p 1) (mdC 0 0 0) 70 := hrw 3 (70, mdC 0 0 0) rfl
  have d1x2 := hdis 0 1 (by omega) rfl rfl
  have sb := k_b hkw
  have b2 : w.heap.size ≤ p 1 := n2
  clear hkw hrw hnew hdis n1 n2
  generalize p 0 = g1 at *
  generalize p 1 = g2 at *
  have r1 := zr1
  clear zr1
  have r2 := zr2
  clear zr2
  replace rB := rB.belowAll sb
  iterate 3 go_step
  refine wp_region_qp ?_
  refine q_v (.pointer (some ⟨g1, 0, none⟩)) (exec_field 56 _ 0 rfl g1 0 rfl _ Tryz.underlying56 _ rfl 0 Tryz.sizeOf54) ?_
  simp only [pv]
  refine qw_loadc (by rfl) 54 _ rfl _ (0) rfl r1 (.slice (some ⟨gb, ob, none⟩) n c) rfl Tryz.isAgg54 ?_
  simp only [pv]
  refine q_v (.int .i64 n) (exec_len_s 54 _ rfl (some ⟨gb, ob, none⟩) n c rfl sl_link) ?_
  simp only [pv]
  refine q_v (.int .i64 ((n - 1 : Nat) : Int)) (exec_sub_in _ _ _ _ rfl n 1 rfl rfl (by omega) hn) ?_
  refine q_a ?_
  simp only [pv]
  refine qw_nil ?_
  intro w3 hqb
  replace r1 := r1.belowAll hqb
  replace r2 := r2.belowAll hqb
  replace rB := rB.belowAll hqb
  replace sb := b_o sb hqb
  clear hqb
  iterate 3 go_step
  apply wp_region_mix (by kernel_rfl) [(g2, 70, mdC 0 0 0)] [_, _, _, _, _, _, _, _, _, _, _, _, _, _, _, _, _] ⟨r2, trivial⟩ (by simp <;> omega)
  ·intro p
   refine mx_val (.pointer (some ⟨g1, 0, none⟩)) (exec_field 56 _ 0 rfl g1 0 rfl _ Tryz.underlying56 _ rfl 0 Tryz.sizeOf54) ?_
   simp only [pv]
   refine mx_loadc 54 _ rfl _ (0) rfl r1 (by simp <;> omega) (.slice (some ⟨gb, ob, none⟩) n c) rfl Tryz.isAgg54 ?_
   refine m_m ?_
   simp only [pv]
   refine mx_val (.pointer (some ⟨gb, ob + (n - 1) * 5, none⟩)) (exec_index_s 54 _ _ rfl gb ob n c rfl (n - 1) rfl (by omega) _ Tryz.underlying54 5 Tryz.sizeOf98) ?_
   simp only [pv]
   refine mx_val (.pointer (some ⟨gb, ob + (n - 1) * 5, none⟩)) (exec_field 98 _ 0 rfl gb (ob + (n - 1) * 5) rfl _ Tryz.underlying98 _ rfl 3 Tryz.sizeOf40) ?_
   simp only [pv]
   refine mx_loadmR 40 _ rfl _ ((ob + (n - 1) * 5)) rfl rB (by simp <;> omega) (natC P) (lk_part h1) _ Tryz.underlying40 rfl size_nat ?_
   simp only [pv]
   refine mx_val (.pointer (some ⟨g1, 0, none⟩)) (exec_field 56 _ 0 rfl g1 0 rfl _ Tryz.underlying56 _ rfl 0 Tryz.sizeOf54) ?_
   simp only [pv]
   refine mx_loadc 54 _ rfl _ (0) rfl r1 (by simp <;> omega) (.slice (some ⟨gb, ob, none⟩) n c) rfl Tryz.isAgg54 ?_
   refine m_m ?_
   simp only [pv]
   refine mx_val (.int .i64 ((n - 2 : Nat) : Int)) (fun w' => (exec_sub_in _ _ _ _ rfl (n - 1) 1 rfl rfl (by omega) (by omega) w').trans (by rw [show n - 1 - 1 = n - 2 by omega])) ?_
   simp only [pv]
   refine mx_val (.pointer (some ⟨gb, ob + (n - 2) * 5, none⟩)) (exec_index_s 54 _ _ rfl gb ob n c rfl (n - 2) rfl (by omega) _ Tryz.underlying54 5 Tryz.sizeOf98) ?_
   simp only [pv]
   refine mx_val (.pointer (some ⟨gb, ob + (n - 2) * 5, none⟩)) (exec_field 98 _ 0 rfl gb (ob + (n - 2) * 5) rfl _ Tryz.underlying98 _ rfl 3 Tryz.sizeOf40) ?_
   simp only [pv]
   refine mx_loadmR 40 _ rfl _ ((ob + (n - 2) * 5)) rfl rB (by simp <;> omega) (natC Q1) (lk_part hq) _ Tryz.underlying40 rfl size_nat ?_
   simp only [pv]
   refine mx_val (.pointer (some ⟨g1, 1, none⟩)) (exec_field 56 _ 1 rfl g1 0 rfl _ Tryz.underlying56 _ rfl 3 Tryz.sizeOf40) ?_
   simp only [pv]
   refine mx_loadm 40 _ rfl _ (1) rfl r1 (by simp <;> omega) (natC G) (pa_g _ _ _ _) _ Tryz.underlying40 rfl size_nat ?_
   simp only [pv]
   refine mx_val (.agg (mdC P Q1 G)) (exec_buildv _ _ rfl [(0, .agg (natC P)), (1, .agg (natC Q1)), (2, .agg (natC G))] rfl _ (built_md P Q1 G)) ?_
   simp only [pv]
   refine mx_put 0 70 _ _ rfl rfl rfl (mdC P Q1 G) rfl (by exact size_md) (by rfl) (md_one _ _ _) ?_
   simp only [Act.put]
   refine mx_end ?_
   intro w4 hkw hrw hnew hdis
   have zr2 : Row w4 (g2) (mdC P Q1 G) 70 := hrw 0 (70, mdC P Q1 G) rfl
   replace sb := kk sb hkw
   clear hkw hrw hnew hdis r2
   have r2 := zr2
   clear zr2
   go_wp2
   exact ret_rowd rfl _ rfl r2 _ Tryz.underlying70 (by exact size_md) rfl ⟨rfl, sb⟩
  ·kernel_rfl
 ·rfl
def inB (P Q G : Nat) : Bool := decide (512 ≤ Q) && (decide (1 < G) && decide (G < P))
theorem len10 (Q : Nat) : decide ((10 : Int) ≤ (bitLen Q : Int)) = decide (512 ≤ Q) := by
 apply decide_eq_decide.2
 constructor
 ·intro h
  by_cases h2 : Q < 2 ^ 9
  ·have := bitLen_to Q 9 h2; omega
  ·have : (2 : Nat) ^ 9 = 512 := rfl
   omega
 ·intro h
  have h3 : ¬ bitLen Q ≤ 9 := fun h4 => by
   have := lt_bitLen Q 9 h4
   have : (2 : Nat) ^ 9 = 512 := rfl
   omega
  omega
theorem cmp_neg (X Y : Nat) : decide (cmpI X Y < (0 : Int)) = decide (X < Y) := by
 unfold cmpI
 split
 ·rw [decide_eq_true (by omega), decide_eq_true (by assumption)]
 ·split
  ·rw [decide_eq_false (by omega), decide_eq_false (by omega)]
  ·rw [decide_eq_false (by omega), decide_eq_false (by omega)]
theorem inb1 (P Q1 G : Nat) (w : World) (hP : P < 2 ^ 256) (hQ : Q1 < 2 ^ 256) (hG : G < 2 ^ 256) (h1 : decide ((10 : Int) ≤ (bitLen Q1 : Int)) = false) :
  Calls Tryz.prog 53 #[.agg (mdC P Q1 G)] w fun e w' => e = .returned (.bool false) ∧ Below w.heap.size w w' := by
 have hle := fun w' => nlen_any Q1 w' hQ
 have hof := fun w' => nof_any 1 w' (by decide)
 rw [show (1 : Int).toNat = 1 from rfl] at hof
 generalize (bitLen Q1 : Nat) = BL at *
 generalize cmpI G 1 = C1 at *
 generalize cmpI G P = C2 at *
 go_enter Tryz.func53, Tryz.ntmps53
 iterate 2 go_step
 apply wp_region_mixp [] [_, _] trivial List.nodup_nil
 ·intro p
  refine mx_box 70 _ rfl _ rfl ?_
  simp only [pv]
  refine mx_val (.bool false) (fun _ => rfl) ?_
  simp only [pv]
  refine mx_end ?_
  intro w2 hkw hrw hnew hdis
  have n1 := hnew 0 rfl
  have zr1 : Row w2 (p 0) (mdC P Q1 G) 70 := hrw 1 (70, mdC P Q1 G) rfl
  have sb := k_b hkw
  clear hkw hrw hnew hdis n1
  generalize p 0 = g1 at *
  have r1 := zr1
  clear zr1
  iterate 3 go_step
  refine wp_region_qw (by kernel_rfl) (by kernel_rfl) ?_
  refine q_v (.pointer (some ⟨g1, 4, none⟩)) (exec_field 70 _ 1 rfl g1 0 rfl _ Tryz.underlying70 _ rfl 3 Tryz.sizeOf40) ?_
  simp only [pv]
  refine qw_loadm (by rfl) 40 _ rfl _ (4) rfl r1 (natC Q1) (md_q P Q1 G) _ Tryz.underlying40 rfl size_nat ?_
  simp only [pv]
  refine qw_call (by rfl) 85 _ _ rfl Tryz.func85 (by kernel_rfl) #[.agg (natC Q1)] rfl _ hle ?_
  simp only [pv]
  refine q_v (.bool false) (exec_geq_i _ _ _ _ rfl BL 10 rfl rfl false h1) ?_
  refine q_m ?_
  simp only [pv]
  refine qw_skip (by rfl) ?_
  simp only [pv]
  refine qw_skip (by rfl) ?_
  simp only [pv]
  refine qw_skip (by rfl) ?_
  simp only [pv]
  refine qw_skip (by rfl) ?_
  simp only [pv]
  refine qw_skip (by rfl) ?_
  simp only [pv]
  refine qw_pick false (v := .bool false) (by rfl) rfl rfl rfl ?_
  refine q_m ?_
  simp only [pv]
  refine qw_skip (by rfl) ?_
  simp only [pv]
  refine qw_skip (by rfl) ?_
  simp only [pv]
  refine qw_skip (by rfl) ?_
  simp only [pv]
  refine qw_skip (by rfl) ?_
  simp only [pv]
  refine qw_skip (by rfl) ?_
  simp only [pv]
  refine qw_skip (by rfl) ?_
  simp only [pv]
  refine qw_pick false (v := .bool false) (by rfl) rfl rfl rfl ?_
  refine q_a ?_
  simp only [pv]
  refine qw_nil ?_
  intro w3 hqb
  replace sb := b_o sb hqb
  clear hqb
  go_wp2
  go_ret
  exact ⟨rfl, sb⟩
 ·rfl
theorem inb2 (P Q1 G : Nat) (w : World) (hP : P < 2 ^ 256) (hQ : Q1 < 2 ^ 256) (hG : G < 2 ^ 256) (h1 : decide ((10 : Int) ≤ (bitLen Q1 : Int)) = true) (h2 : decide ((0 : Int) < cmpI G 1) = false) :
  Calls Tryz.prog 53 #[.agg (mdC P Q1 G)] w fun e w' => e = .returned (.bool false) ∧ Below w.heap.size w w' := by
 have hle := fun w' => nlen_any Q1 w' hQ
 have hof := fun w' => nof_any 1 w' (by decide)
 rw [show (1 : Int).toNat = 1 from rfl] at hof
 have hc1 := fun w' => ncmp_any G 1 w' hG (by decide)
 generalize (bitLen Q1 : Nat) = BL at *
 generalize cmpI G 1 = C1 at *
 generalize cmpI G P = C2 at *
 go_enter Tryz.func53, Tryz.ntmps53
 iterate 2 go_step
 apply wp_region_mixp [] [_, _] trivial List.nodup_nil
 ·intro p
  refine mx_box 70 _ rfl _ rfl ?_
  simp only [pv]
  refine mx_val (.bool false) (fun _ => rfl) ?_
  simp only [pv]
  refine mx_end ?_
  intro w2 hkw hrw hnew hdis
  have n1 := hnew 0 rfl
  have zr1 : Row w2 (p 0) (mdC P Q1 G) 70 := hrw 1 (70, mdC P Q1 G) rfl
  have sb := k_b hkw
  clear hkw hrw hnew hdis n1
  generalize p 0 = g1 at *
  have r1 := zr1
  clear zr1
  iterate 3 go_step
  refine wp_region_qw (by kernel_rfl) (by kernel_rfl) ?_
  refine q_v (.pointer (some ⟨g1, 4, none⟩)) (exec_field 70 _ 1 rfl g1 0 rfl _ Tryz.underlying70 _ rfl 3 Tryz.sizeOf40) ?_
  simp only [pv]
  refine qw_loadm (by rfl) 40 _ rfl _ (4) rfl r1 (natC Q1) (md_q P Q1 G) _ Tryz.underlying40 rfl size_nat ?_
  simp only [pv]
  refine qw_call (by rfl) 85 _ _ rfl Tryz.func85 (by kernel_rfl) #[.agg (natC Q1)] rfl _ hle ?_
  simp only [pv]
  refine q_v (.bool true) (exec_geq_i _ _ _ _ rfl BL 10 rfl rfl true h1) ?_
  refine q_m ?_
  simp only [pv]
  refine q_v (.pointer (some ⟨g1, 8, none⟩)) (exec_field 70 _ 2 rfl g1 0 rfl _ Tryz.underlying70 _ rfl 3 Tryz.sizeOf40) ?_
  simp only [pv]
  refine qw_loadm (by rfl) 40 _ rfl _ (8) rfl r1 (natC G) (md_g P Q1 G) _ Tryz.underlying40 rfl size_nat ?_
  simp only [pv]
  refine qw_call (by rfl) 45 _ _ rfl Tryz.func45 (by kernel_rfl) #[.int .i64 1] rfl _ hof ?_
  simp only [pv]
  refine qw_call (by rfl) 86 _ _ rfl Tryz.func86 (by kernel_rfl) #[.agg (natC G), .agg (natC 1)] rfl _ hc1 ?_
  simp only [pv]
  refine q_v (.bool false) (exec_gt_i _ _ _ _ rfl C1 0 rfl rfl false h2) ?_
  simp only [pv]
  refine qw_pick true (v := .bool false) (by rfl) rfl rfl rfl ?_
  refine q_m ?_
  simp only [pv]
  refine qw_skip (by rfl) ?_
  simp only [pv]
  refine qw_skip (by rfl) ?_
  simp only [pv]
  refine qw_skip (by rfl) ?_
  simp only [pv]
  refine qw_skip (by rfl) ?_
  simp only [pv]
  refine qw_skip (by rfl) ?_
  simp only [pv]
  refine qw_skip (by rfl) ?_
  simp only [pv]
  refine qw_pick false (v := .bool false) (by rfl) rfl rfl rfl ?_
  refine q_a ?_
  simp only [pv]
  refine qw_nil ?_
  intro w3 hqb
  replace sb := b_o sb hqb
  clear hqb
  go_wp2
  go_ret
  exact ⟨rfl, sb⟩
 ·rfl
theorem inb3 (P Q1 G : Nat) (w : World) (hP : P < 2 ^ 256) (hQ : Q1 < 2 ^ 256) (hG : G < 2 ^ 256) (h1 : decide ((10 : Int) ≤ (bitLen Q1 : Int)) = true) (h2 : decide ((0 : Int) < cmpI G 1) = true) (B3 : Bool) (h3 : decide (cmpI G P < (0 : Int)) = B3) :
  Calls Tryz.prog 53 #[.agg (mdC P Q1 G)] w fun e w' => e = .returned (.bool B3) ∧ Below w.heap.size w w' := by
 have hle := fun w' => nlen_any Q1 w' hQ
 have hof := fun w' => nof_any 1 w' (by decide)
 rw [show (1 : Int).toNat = 1 from rfl] at hof
 have hc1 := fun w' => ncmp_any G 1 w' hG (by decide)
 have hc2 := fun w' => ncmp_any G P w' hG hP
 generalize (bitLen Q1 : Nat) = BL at *
 generalize cmpI G 1 = C1 at *
 generalize cmpI G P = C2 at *
 go_enter Tryz.func53, Tryz.ntmps53
 iterate 2 go_step
 apply wp_region_mixp [] [_, _] trivial List.nodup_nil
 ·intro p
  refine mx_box 70 _ rfl _ rfl ?_
  simp only [pv]
  refine mx_val (.bool false) (fun _ => rfl) ?_
  simp only [pv]
  refine mx_end ?_
  intro w2 hkw hrw hnew hdis
  have n1 := hnew 0 rfl
  have zr1 : Row w2 (p 0) (mdC P Q1 G) 70 := hrw 1 (70, mdC P Q1 G) rfl
  have sb := k_b hkw
  clear hkw hrw hnew hdis n1
  generalize p 0 = g1 at *
  have r1 := zr1
  clear zr1
  iterate 3 go_step
  refine wp_region_qw (by kernel_rfl) (by kernel_rfl) ?_
  refine q_v (.pointer (some ⟨g1, 4, none⟩)) (exec_field 70 _ 1 rfl g1 0 rfl _ Tryz.underlying70 _ rfl 3 Tryz.sizeOf40) ?_
  simp only [pv]
  refine qw_loadm (by rfl) 40 _ rfl _ (4) rfl r1 (natC Q1) (md_q P Q1 G) _ Tryz.underlying40 rfl size_nat ?_
  simp only [pv]
  refine qw_call (by rfl) 85 _ _ rfl Tryz.func85 (by kernel_rfl) #[.agg (natC Q1)] rfl _ hle ?_
  simp only [pv]
  refine q_v (.bool true) (exec_geq_i _ _ _ _ rfl BL 10 rfl rfl true h1) ?_
  refine q_m ?_
  simp only [pv]
  refine q_v (.pointer (some ⟨g1, 8, none⟩)) (exec_field 70 _ 2 rfl g1 0 rfl _ Tryz.underlying70 _ rfl 3 Tryz.sizeOf40) ?_
  simp only [pv]
  refine qw_loadm (by rfl) 40 _ rfl _ (8) rfl r1 (natC G) (md_g P Q1 G) _ Tryz.underlying40 rfl size_nat ?_
  simp only [pv]
  refine qw_call (by rfl) 45 _ _ rfl Tryz.func45 (by kernel_rfl) #[.int .i64 1] rfl _ hof ?_
  simp only [pv]
  refine qw_call (by rfl) 86 _ _ rfl Tryz.func86 (by kernel_rfl) #[.agg (natC G), .agg (natC 1)] rfl _ hc1 ?_
  simp only [pv]
  refine q_v (.bool true) (exec_gt_i _ _ _ _ rfl C1 0 rfl rfl true h2) ?_
  simp only [pv]
  refine qw_pick true (v := .bool true) (by rfl) rfl rfl rfl ?_
  refine q_m ?_
  simp only [pv]
  refine q_v (.pointer (some ⟨g1, 8, none⟩)) (exec_field 70 _ 2 rfl g1 0 rfl _ Tryz.underlying70 _ rfl 3 Tryz.sizeOf40) ?_
  simp only [pv]
  refine qw_loadm (by rfl) 40 _ rfl _ (8) rfl r1 (natC G) (md_g P Q1 G) _ Tryz.underlying40 rfl size_nat ?_
  simp only [pv]
  refine q_v (.pointer (some ⟨g1, 0, none⟩)) (exec_field 70 _ 0 rfl g1 0 rfl _ Tryz.underlying70 _ rfl 3 Tryz.sizeOf40) ?_
  simp only [pv]
  refine qw_loadm (by rfl) 40 _ rfl _ (0) rfl r1 (natC P) (md_p P Q1 G) _ Tryz.underlying40 rfl size_nat ?_
  simp only [pv]
  refine qw_call (by rfl) 86 _ _ rfl Tryz.func86 (by kernel_rfl) #[.agg (natC G), .agg (natC P)] rfl _ hc2 ?_
  simp only [pv]
  refine q_v (.bool B3) (exec_lt_b _ _ _ _ rfl C2 0 rfl rfl B3 h3) ?_
  simp only [pv]
  refine qw_pick true (v := .bool B3) (by rfl) rfl rfl rfl ?_
  refine q_a ?_
  simp only [pv]
  refine qw_nil ?_
  intro w3 hqb
  replace sb := b_o sb hqb
  clear hqb
  go_wp2
  go_ret
  exact ⟨rfl, sb⟩
 ·rfl
theorem inBounds_any (P Q G : Nat) (w : World) (hP : P < 2 ^ 256) (hQ : Q < 2 ^ 256) (hG : G < 2 ^ 256) :
  Calls Tryz.prog 53 #[.agg (mdC P Q G)] w fun e w' => e = .returned (.bool (inB P Q G)) ∧ Below w.heap.size w w' := by
 unfold inB
 rw [← len10, ← cmp_pos G 1, ← cmp_neg G P]
 cases h1 : decide ((10 : Int) ≤ (bitLen Q : Int)) with
 | false => exact inb1 P Q G w hP hQ hG h1
 | true =>
  cases h2 : decide ((0 : Int) < cmpI G 1) with
  | false => exact inb2 P Q G w hP hQ hG h1 h2
  | true => exact inb3 P Q G w hP hQ hG h1 h2 _ rfl
structure GrpAt (w : World) (g gr gf P Q G : Nat) : Prop where
 row : Row w g (gpC P Q G (some ⟨gr, 0, none⟩) (some ⟨gf, 0, none⟩)) 73
 ring : Row w gr (rgC P (miL P) (oneL P) (sqL P)) 125
 fld : Row w gf (rgC Q (miL Q) (oneL Q) (sqL Q)) 125
theorem GrpAt.below {w w' : World} {g gr gf P Q G : Nat} (h : GrpAt w g gr gf P Q G) (hb : Below w.heap.size w w') : GrpAt w' g gr gf P Q G := ⟨h.row.belowAll hb, h.ring.belowAll hb, h.fld.belowAll hb⟩
theorem isP_odd {q : Nat} (h : IsP q) (h2 : 2 < q) : q % 2 = 1 := by
 by_cases e : q % 2 = 0
 ·rcases h.2 2 (Nat.dvd_of_mod_eq_zero e) with h | h <;> omega
 ·omega
theorem grN_eq (n : Nat) (N : Nat → Nat) (A : Nat → Int) (G : Nat) : grN n N A G = (decide (2 ≤ n) && (chN n N A && (inB (N (n - 1)) (N (n - 2)) G && decide (G ^ N (n - 2) % N (n - 1) = 1)))) := by
 unfold grN inB
 have e : decide (1 < G) = (decide (G ≠ 0) && decide (G ≠ 1)) := by
  rw [← Bool.decide_and]
  exact decide_eq_decide.2 (by omega)
 rw [e]
 simp only [Bool.and_assoc]
theorem new_yes (n c : Nat) (ab : Option Addr) (G : Nat) (N : Nat → Nat) (A : Nat → Int) (gb ob : Nat) (bcs : Array Value) (tb : TypeId) (w : World) (hn : n < 9223372036854775808) (h2 : 2 ≤ n) (hG : G < 2 ^ 256) (hL : LinksAt w ab n N A gb ob bcs tb) (hc0 : chN n N A = true) (hib0 : inB (N (n - 1)) (N (n - 2)) G = true) (hp0 : G ^ N (n - 2) % N (n - 1) = 1) :
  Calls Tryz.prog 23 #[.agg (paC ab n c G)] w fun e w' => ∃ g gr gf, e = .returned (.tuple #[.pointer (some ⟨g, 0, none⟩), .int .i64 0]) ∧ GrpAt w' g gr gf (N (n - 1)) (N (n - 2)) G ∧ Below w.heap.size w w' := by
 have hP := hL.lt (n - 1) (by omega)
 have hQ := hL.lt (n - 2) (by omega)
 have hch := fun w' (hb : Below w.heap.size w w') => check_ok n c ab N A gb ob bcs tb w' (hL.below hb) hc0
 have HL : Hid (LinksAt w ab n N A gb ob bcs tb) := hL
 clear hL
 have pP := chN_isP hc0 (n - 1) (by omega)
 have pQ := chN_isP hc0 (n - 2) (by omega)
 have hib1 := hib0
 unfold inB at hib1
 simp only [Bool.and_eq_true, decide_eq_true_iff] at hib1
 have oP := isP_odd pP (by omega)
 have tP := pP.1
 have oQ := isP_odd pQ (by omega)
 have tQ := pQ.1
 clear hc0 pP pQ hib1
 have hex := fun w' g (r : Row w' g (rgC (N (n - 1)) (miL (N (n - 1))) (oneL (N (n - 1))) (sqL (N (n - 1)))) 125) => exp_any G (N (n - 2)) (N (n - 1)) g w' hG hQ hP oP tP r
 have hof := fun w' => nof_any 1 w' (by decide)
 rw [show (1 : Int).toNat = 1 from rfl] at hof
 have hne := neq_no 1
 rw [hp0] at hex
 clear hp0
 go_enter Tryz.func23, Tryz.ntmps23
 iterate 2 go_step
 apply wp_region_mixp [] [_, _, _] trivial List.nodup_nil
 ·intro p
  refine mx_box 56 _ rfl _ rfl ?_
  simp only [pv]
  refine mx_val (.pointer none) (fun _ => rfl) ?_
  simp only [pv]
  refine mx_val (.int .i64 0) (fun _ => rfl) ?_
  simp only [pv]
  refine mx_end ?_
  intro w2 hkw hrw hnew hdis
  have n1 := hnew 0 rfl
  have zr1 : Row w2 (p 0) (paC ab n c G) 56 := hrw 1 (56, paC ab n c G) rfl
  have sb := k_b hkw
  clear hkw hrw hnew hdis n1
  generalize p 0 = g1 at *
  have r1 := zr1
  clear zr1
  iterate 4 go_step
  refine wp_region_qp ?_
  refine q_v (.pointer (some ⟨g1, 0, none⟩)) (exec_field 56 _ 0 rfl g1 0 rfl _ Tryz.underlying56 _ rfl 0 Tryz.sizeOf54) ?_
  simp only [pv]
  refine qw_loadc (by rfl) 54 _ rfl _ (0) rfl r1 (.slice ab n c) rfl Tryz.isAgg54 ?_
  simp only [pv]
  refine q_v (.int .i64 n) (exec_len_s 54 _ rfl ab n c rfl sl_link) ?_
  simp only [pv]
  refine q_v (.bool false) (exec_lt_b _ _ _ _ rfl n 2 rfl rfl false (decide_eq_false (by omega))) ?_
  refine q_m ?_
  simp only [pv]
  refine q_v (.pointer (some ⟨g1, 0, none⟩)) (exec_field 56 _ 0 rfl g1 0 rfl _ Tryz.underlying56 _ rfl 0 Tryz.sizeOf54) ?_
  simp only [pv]
  refine qw_loadc (by rfl) 54 _ rfl _ (0) rfl r1 (.slice ab n c) rfl Tryz.isAgg54 ?_
  simp only [pv]
  refine qw_callK (by rfl) 51 _ _ rfl Tryz.func51 (by kernel_rfl) #[.slice ab n c] rfl _ (fun w' hb => hch w' (below_on sb (Nat.le_refl _) hb)) ?_
  simp only [pv]
  refine q_v (.bool false) (exec_neq_k .i64 _ _ _ _ rfl 0 0 rfl rfl false rfl) ?_
  simp only [pv]
  refine qw_pick false (v := .bool false) (by rfl) rfl rfl rfl ?_
  simp only [pv]
  refine qw_nil ?_
  intro w3 hqb
  replace r1 := r1.belowAll hqb
  replace sb := b_o sb hqb
  clear hqb
  clear hch
  have hmd := fun w' (hb : Below w.heap.size w w') => madeOf_any n c ab G N A gb ob bcs tb w' h2 hn (HL.out.below hb)
  have hib := fun w' => inBounds_any (N (n - 1)) (N (n - 2)) G w' hP hQ hG
  rw [hib0] at hib
  clear hib0
  generalize hPP : N (n - 1) = PP at *
  generalize hQQ : N (n - 2) = QQ at *
  iterate 7 go_step
  refine rp ?_
  refine pw_loadm (by rfl) 56 _ rfl _ 0 rfl r1.r _ (part_all _) _ Tryz.underlying56 rfl size_pa ?_
  simp only [pv]
  refine pw_callB (by rfl) 52 _ _ rfl Tryz.func52 (by kernel_rfl) #[.agg (paC ab n c G)] rfl _ (hmd _ sb) ?_
  intro z3001 k
  simp only [pv]
  replace r1 := k.ro r1
  replace sb := kk sb k
  clear k
  refine pw_new (by rfl) 70 rfl _ zero_md ?_
  intro g4 z3002 n0 r4 k
  simp only [pv]
  have d1x4 := l_l r1.lt n0
  have b4 := Nat.le_trans sb.size n0
  clear n0
  replace r1 := k.ro r1
  replace sb := kk sb k
  clear k
  refine pw_put (by rfl) 70 _ _ rfl _ rfl r4 (mdC PP QQ G) rfl (by exact size_md) (by rfl) (md_one _ _ _) ?_
  clear r4
  intro z3003 r4 k
  simp only [Act.put]
  replace r1 := k.ro r1
  replace sb := kk sb k
  clear k
  refine pw_nil ?_
  clear hmd
  iterate 4 go_step
  refine rp ?_
  refine pw_loadm (by rfl) 70 _ rfl _ 0 rfl r4.r _ (part_all _) _ Tryz.underlying70 rfl size_md ?_
  simp only [pv]
  refine pw_callB (by rfl) 53 _ _ rfl Tryz.func53 (by kernel_rfl) #[.agg (mdC PP QQ G)] rfl _ (hib _) ?_
  intro z4001 k
  simp only [pv]
  replace r4 := k.ro r4
  replace sb := kk sb k
  clear k
  refine p_v (.bool false) (exec_not _ _ rfl true rfl) ?_
  simp only [pv]
  refine pw_nil ?_
  clear hib
  iterate 7 go_step
  refine rp ?_
  refine p_v (.pointer (some ⟨g4, 0, none⟩)) (exec_field 70 _ 0 rfl g4 0 rfl _ Tryz.underlying70 _ rfl 3 Tryz.sizeOf40) ?_
  simp only [pv]
  refine pw_loadm (by rfl) 40 _ rfl _ (0) rfl r4.r (natC PP) (md_p PP QQ G) _ Tryz.underlying40 rfl size_nat ?_
  simp only [pv]
  refine pw_callE (by rfl) 54 _ _ rfl Tryz.func54 (by kernel_rfl) #[.agg (natC PP)] rfl (new_any PP _ oP tP hP) ?_
  rintro _ z6002 ⟨gR, rfl, nR, rR, hb⟩
  refine ⟨_, rfl, ?_⟩
  simp only [pv]
  clear nR
  have k := Kept.ofBelow hb
  clear hb
  replace r4 := k.ro r4
  replace sb := kk sb k
  clear k
  refine p_m ?_
  refine p_e ?_
  refine p_e ?_
  refine p_a ?_
  refine p_a ?_
  simp only [pv]
  refine pw_nil ?_
  iterate 3 go_step
  refine rp ?_
  refine p_v (.pointer (some ⟨g4, 4, none⟩)) (exec_field 70 _ 1 rfl g4 0 rfl _ Tryz.underlying70 _ rfl 3 Tryz.sizeOf40) ?_
  simp only [pv]
  refine pw_loadm (by rfl) 40 _ rfl _ (4) rfl r4.r (natC QQ) (md_q PP QQ G) _ Tryz.underlying40 rfl size_nat ?_
  simp only [pv]
  refine pw_callE (by rfl) 54 _ _ rfl Tryz.func54 (by kernel_rfl) #[.agg (natC QQ)] rfl (new_any QQ _ oQ tQ hQ) ?_
  rintro _ z7002 ⟨gF, rfl, nF, rF, hb⟩
  refine ⟨_, rfl, ?_⟩
  simp only [pv]
  clear nF
  have k := Kept.ofBelow hb
  clear hb
  replace r4 := k.ro r4
  replace rR := k.ro rR
  replace sb := kk sb k
  clear k
  refine p_m ?_
  refine p_e ?_
  refine p_e ?_
  refine p_a ?_
  refine p_a ?_
  simp only [pv]
  refine pw_nil ?_
  iterate 4 go_step
  refine rp ?_
  refine p_m ?_
  simp only [pv]
  refine p_v (.pointer (some ⟨g4, 8, none⟩)) (exec_field 70 _ 2 rfl g4 0 rfl _ Tryz.underlying70 _ rfl 3 Tryz.sizeOf40) ?_
  simp only [pv]
  refine pw_loadm (by rfl) 40 _ rfl _ (8) rfl r4.r (natC G) (md_g PP QQ G) _ Tryz.underlying40 rfl size_nat ?_
  simp only [pv]
  refine p_v (.pointer (some ⟨g4, 4, none⟩)) (exec_field 70 _ 1 rfl g4 0 rfl _ Tryz.underlying70 _ rfl 3 Tryz.sizeOf40) ?_
  simp only [pv]
  refine pw_loadm (by rfl) 40 _ rfl _ (4) rfl r4.r (natC QQ) (md_q PP QQ G) _ Tryz.underlying40 rfl size_nat ?_
  simp only [pv]
  refine pw_callB (by rfl) 55 _ _ rfl Tryz.func55 (by kernel_rfl) #[.pointer (some ⟨gR, 0, none⟩), .agg (natC G), .agg (natC QQ)] rfl _ (hex _ gR rR) ?_
  intro z8005 k
  simp only [pv]
  replace r4 := k.ro r4
  replace rR := k.ro rR
  replace rF := k.ro rF
  replace sb := kk sb k
  clear k
  refine pw_callB (by rfl) 45 _ _ rfl Tryz.func45 (by kernel_rfl) #[.int .i64 1] rfl _ (hof _) ?_
  intro z8006 k
  simp only [pv]
  replace r4 := k.ro r4
  replace rR := k.ro rR
  replace rF := k.ro rF
  replace sb := kk sb k
  clear k
  refine p_v (.bool false) (fun w' => (exec_neq_nat _ _ _ rfl 1 1 rfl rfl w').trans (by rw [hne])) ?_
  simp only [pv]
  refine pw_nil ?_
  clear hex hof hne
  iterate 7 go_step
  refine rp ?_
  refine pw_loadm (by rfl) 70 _ rfl _ 0 rfl r4.r _ (part_all _) _ Tryz.underlying70 rfl size_md ?_
  refine p_m ?_
  refine p_m ?_
  simp only [pv]
  refine p_v (.agg (gpC PP QQ G (some ⟨gR, 0, none⟩) (some ⟨gF, 0, none⟩))) (exec_buildv _ _ rfl [(0, .agg (mdC PP QQ G)), (1, .pointer (some ⟨gR, 0, none⟩)), (2, .pointer (some ⟨gF, 0, none⟩))] rfl _ (built_gp PP QQ G _ _)) ?_
  simp only [pv]
  refine pw_boxr (by rfl) 73 _ rfl (gpC PP QQ G (some ⟨gR, 0, none⟩) (some ⟨gF, 0, none⟩)) rfl ?_
  intro g48 z10004 n0 r48 k
  simp only [pv]
  clear n0
  replace r4 := k.ro r4
  replace rR := k.ro rR
  replace rF := k.ro rF
  replace sb := kk sb k
  clear k
  refine p_a ?_
  simp only [pv]
  refine p_v (.int .i64 0) (fun _ => rfl) ?_
  simp only [pv]
  refine pw_nil ?_
  go_wp2
  go_ret2
  subst hPP hQQ
  exact ⟨g48, gR, gF, rfl, ⟨r48, rR, rF⟩, sb⟩
 ·rfl
theorem gnew_yes (n c : Nat) (ab : Option Addr) (G : Nat) (N : Nat → Nat) (A : Nat → Int) (gb ob : Nat) (bcs : Array Value) (tb : TypeId) (w : World) (hn : n < 9223372036854775808) (hG : G < 2 ^ 256) (hL : LinksAt w ab n N A gb ob bcs tb) (h : grN n N A G = true) :
  Calls Tryz.prog 23 #[.agg (paC ab n c G)] w fun e w' => ∃ g gr gf, e = .returned (.tuple #[.pointer (some ⟨g, 0, none⟩), .int .i64 0]) ∧ GrpAt w' g gr gf (N (n - 1)) (N (n - 2)) G ∧ Below w.heap.size w w' := by
 rw [grN_eq, Bool.and_eq_true, Bool.and_eq_true, Bool.and_eq_true, decide_eq_true_iff, decide_eq_true_iff] at h
 exact new_yes n c ab G N A gb ob bcs tb w hn h.1 hG hL h.2.1 h.2.2.1 h.2.2.2
end Go.Proofs.YtgdalihjpemjiaaGreat
