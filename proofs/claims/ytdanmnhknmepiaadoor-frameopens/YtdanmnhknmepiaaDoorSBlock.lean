/- The document's block: the eight words behind a block. -/
import Derived.Test.YtdanmnhknmepiaaDoorSRef
namespace Go.Proofs.YtdanmnhknmepiaaDoor
open Go.RowKit
set_option linter.unusedVariables false
/-- The rows that block holds on to. -/
structure BlH (wr w : World) (g2 g4 g5 g6 g7 : Nat) (b v x : Nat → Nat) : Prop where
 r2 : Row wr g2 (rC .i64 8 v) 61
 r4 : Row wr g4 (rC .i64 8 fun _ => 0) 61
 r5 : Row wr g5 (rC .i64 64 (wf b)) 68
 r6 : Row wr g6 (rC .i64 64 kf) 68
 r7 : Row wr g7 (rC .i64 8 x) 61
 below : Below w.heap.size w wr
set_option maxRecDepth 100000 in
set_option maxHeartbeats 2000000 in
theorem block_any (v b : Nat → Nat) (hv : ∀ i, v i < 4294967296) (hb : ∀ i, b i < 256) (gb ob cb : Nat) (cs : Array Value) (tb : TypeId) (w : World) (rB : RowR w gb cs tb) (hcs : ∀ i, i < 64 → cs[ob + i]? = some (.int .u8 (b i : Nat))) :
  Calls Tryd.prog 40 #[.agg (rC .i64 8 v), .slice (some ⟨gb, ob, none⟩) 64 cb] w fun e w' => e = .returned (.agg (rC .i64 8 (cmp v b))) ∧ Below w.heap.size w w' := by
 go_enter Tryd.func40, Tryd.ntmps40
 (repeat ((fail_if_success with_reducible refine rg ?_); go_step))
 apply wp_region_mixp [] [_, _] trivial List.nodup_nil
 ·intro p
  refine mx_box 61 _ rfl _ rfl ?_
  simp only [Act.put, pu]
  refine mx_new 61 rfl _ zero_8i ?_
  simp only [Act.put, pu]
  refine mx_end ?_
  intro w2 hkw hrw hnew hdis
  have n2 := hnew 0 rfl
  have n4 := hnew 1 rfl
  have zr2 : Row w2 (p 0) (rC .i64 8 v) 61 := hrw 1 (61, rC .i64 8 v) rfl
  have zr4 : Row w2 (p 1) (rC .i64 8 fun _ => 0) 61 := hrw 3 (61, rC .i64 8 fun _ => 0) rfl
  have d2x4 := hdis 0 1 (by omega) rfl rfl
  have sb := hkw.below w.heap.size (Nat.le_refl _) (by simp)
  have b2 : w.heap.size ≤ p 0 := n2
  have b4 : w.heap.size ≤ p 1 := n4
  clear hkw hrw hnew hdis n2 n4
  generalize p 0 = g2 at *
  generalize p 1 = g4 at *
  have r2 := zr2
  clear zr2
  have r4 := zr4
  clear zr4
  replace rB := rB.belowAll sb
  (repeat ((fail_if_success with_reducible refine rg ?_); go_step))
  apply wp_region_mix (by kernel_rfl) [] [_, _, _, _, _, _, _, _, _, _] trivial List.nodup_nil
  ·intro p
   refine mx_move rfl rfl ?_
   simp only [Act.put, pu]
   refine mx_callK 46 _ _ rfl Tryd.func46 (by kernel_rfl) #[.slice (some ⟨gb, ob, none⟩) 64 cb] rfl _ (fun w' hk => sched_any b hb gb ob cb cs tb w' (hk.rowR rB (by simp)) hcs) ?_
   simp only [Act.put, pu]
   refine mx_call 47 _ _ rfl Tryd.func47 (by kernel_rfl) #[] rfl _ (fun w' => rconst_any w') ?_
   simp only [Act.put, pu]
   refine mx_load 61 _ rfl _ rfl r2 (by simp <;> omega) 8 _ Tryd.underlying61 (by rw [rC_size]; exact size_8i) ?_
   simp only [Act.put, pu]
   refine mx_new 68 rfl _ zero_64i ?_
   simp only [Act.put, pu]
   refine mx_new 68 rfl _ zero_64i ?_
   simp only [Act.put, pu]
   refine mx_new 61 rfl _ zero_8i ?_
   simp only [Act.put, pu]
   refine mx_put 9 68 _ _ rfl rfl rfl (rC .i64 64 (wf b)) rfl (by rw [rC_size]; exact size_64i) (by simp only [rC_size]) (rC_one _ _ _) ?_
   simp only [Act.put]
   refine mx_put 11 68 _ _ rfl rfl rfl (rC .i64 64 kf) rfl (by rw [rC_size]; exact size_64i) (by simp only [rC_size]) (rC_one _ _ _) ?_
   simp only [Act.put]
   refine mx_put 13 61 _ _ rfl rfl rfl (rC .i64 8 v) rfl (by rw [rC_size]; exact size_8i) (by simp only [rC_size]) (rC_one _ _ _) ?_
   simp only [Act.put]
   refine mx_end ?_
   intro w3 hkw hrw hnew hdis
   have n5 := hnew 4 rfl
   have n6 := hnew 5 rfl
   have n7 := hnew 6 rfl
   have zr5 : Row w3 (p 4) (rC .i64 64 (wf b)) 68 := hrw 9 (68, rC .i64 64 (wf b)) rfl
   have zr6 : Row w3 (p 5) (rC .i64 64 kf) 68 := hrw 11 (68, rC .i64 64 kf) rfl
   have zr7 : Row w3 (p 6) (rC .i64 8 v) 61 := hrw 13 (61, rC .i64 8 v) rfl
   have d2x5 := Nat.lt_of_lt_of_le r2.lt n5
   have d2x6 := Nat.lt_of_lt_of_le r2.lt n6
   have d2x7 := Nat.lt_of_lt_of_le r2.lt n7
   have d4x5 := Nat.lt_of_lt_of_le r4.lt n5
   have d4x6 := Nat.lt_of_lt_of_le r4.lt n6
   have d4x7 := Nat.lt_of_lt_of_le r4.lt n7
   have d5x6 := hdis 4 5 (by omega) rfl rfl
   have d5x7 := hdis 4 6 (by omega) rfl rfl
   have d6x7 := hdis 5 6 (by omega) rfl rfl
   replace r2 := hkw.row r2 (by simp <;> omega)
   replace r4 := hkw.row r4 (by simp <;> omega)
   have b5 := Nat.le_trans sb.size n5
   have b6 := Nat.le_trans sb.size n6
   have b7 := Nat.le_trans sb.size n7
   replace sb := sb.trans (hkw.below w.heap.size sb.size (by simp <;> omega))
   clear hkw hrw hnew hdis n5 n6 n7
   generalize p 4 = g5 at *
   generalize p 5 = g6 at *
   generalize p 6 = g7 at *
   have r5 := zr5
   clear zr5
   have r6 := zr6
   clear zr6
   have r7 := zr7
   clear zr7
   have H0 : BlH w3 w g2 g4 g5 g6 g7 b v (rnd (wf b) v 0) := ⟨r2, r4, r5, r6, r7, sb⟩
   have HX : Hid (g2 ≠ g7 ∧ g4 ≠ g7 ∧ g5 ≠ g7 ∧ g6 ≠ g7 ∧ g2 ≠ g4 ∧ w.heap.size ≤ g4 ∧ w.heap.size ≤ g7) := ⟨by omega, by omega, by omega, by omega, by omega, b4, b7⟩
   clear r2 r4 r5 r6 r7 sb b2 b4 b5 b6 b7 d2x4 d2x5 d2x6 d2x7 d4x5 d4x6 d4x7 d5x6 d5x7 d6x7 rB hcs
   go_wp2_with fail
   go_loopg [8] 64 (fun g s8 wr => ∃ t : Nat, t + g = 64 ∧ s8 = .int .i64 t ∧ BlH wr w g2 g4 g5 g6 g7 b v (rnd (wf b) v t))
   case atStart => exact ⟨0, by omega, rfl, H0⟩
   case round =>
    obtain ⟨t, ht, rfl, r2, r4, r5, r6, r7, sb⟩ := hrel
    obtain ⟨x1, x2, x3, x4, x5, x6, x7⟩ := HX.out
    have hV : ∀ i, rnd (wf b) v t i < 4294967296 := rnd_lt hv t
    clear H0
    cases gk with
    | zero =>
     obtain rfl : t = 64 := by omega
     clear ht
     have HC : Hid (∀ i, cmp v b i = (v i + rnd (wf b) v 64 i) % 4294967296) := fun _ => rfl
     generalize rnd (wf b) v 64 = V at *
     (repeat ((fail_if_success with_reducible refine rg ?_); go_step))
     apply wp_region_mixp [] [_, _] trivial List.nodup_nil
     ·intro p
      refine mx_move rfl rfl ?_
      simp only [Act.put, pu]
      refine mx_val (.bool false) (x_lt _ _ _ _ rfl 64 64 rfl rfl false rfl) ?_
      simp only [Act.put, pu]
      refine mx_end ?_
      intro w4 hkw hrw hnew hdis
      replace r2 := hkw.row r2 (by simp <;> omega)
      replace r4 := hkw.row r4 (by simp <;> omega)
      replace r5 := hkw.row r5 (by simp <;> omega)
      replace r6 := hkw.row r6 (by simp <;> omega)
      replace r7 := hkw.row r7 (by simp <;> omega)
      replace sb := sb.trans (hkw.below w.heap.size sb.size (by simp <;> omega))
      clear hkw hrw hnew hdis
      (repeat ((fail_if_success with_reducible refine rg ?_); go_step))
      apply wp_region_mixp [] [_, _, _] trivial List.nodup_nil
      ·intro p
       refine mx_val (.agg (rC .i64 8 fun _ => 0)) (exec_build _ [] rfl _ rfl _ built_8i) ?_
       simp only [Act.put, pu]
       refine mx_new 61 rfl _ zero_8i ?_
       simp only [Act.put, pu]
       refine mx_put 3 61 _ _ rfl rfl rfl (rC .i64 8 fun _ => 0) rfl (by rw [rC_size]; exact size_8i) (by simp only [rC_size]) (rC_one _ _ _) ?_
       simp only [Act.put]
       refine mx_end ?_
       intro w5 hkw hrw hnew hdis
       have n14 := hnew 1 rfl
       have zr14 : Row w5 (p 1) (rC .i64 8 fun _ => 0) 61 := hrw 3 (61, rC .i64 8 fun _ => 0) rfl
       have d2x14 := Nat.lt_of_lt_of_le r2.lt n14
       have d4x14 := Nat.lt_of_lt_of_le r4.lt n14
       have d5x14 := Nat.lt_of_lt_of_le r5.lt n14
       have d6x14 := Nat.lt_of_lt_of_le r6.lt n14
       have d7x14 := Nat.lt_of_lt_of_le r7.lt n14
       replace r2 := hkw.row r2 (by simp <;> omega)
       replace r4 := hkw.row r4 (by simp <;> omega)
       replace r5 := hkw.row r5 (by simp <;> omega)
       replace r6 := hkw.row r6 (by simp <;> omega)
       replace r7 := hkw.row r7 (by simp <;> omega)
       have b14 := Nat.le_trans sb.size n14
       replace sb := sb.trans (hkw.below w.heap.size sb.size (by simp <;> omega))
       clear hkw hrw hnew hdis n14
       generalize p 1 = g14 at *
       have r14 := zr14
       clear zr14
       have H1 : BlH w5 w g2 g4 g5 g6 g7 b v V := ⟨r2, r4, r5, r6, r7, sb⟩
       have H2 : Row w5 g14 (rC .i64 8 (upto (cmp v b) 0)) 61 := by rw [upto_zero]; exact r14
       have HY : Hid (g2 ≠ g14 ∧ g4 ≠ g14 ∧ g5 ≠ g14 ∧ g6 ≠ g14 ∧ g7 ≠ g14 ∧ w.heap.size ≤ g14) := ⟨by omega, by omega, by omega, by omega, by omega, b14⟩
       clear r2 r4 r5 r6 r7 r14 sb b14 d2x14 d4x14 d5x14 d6x14 d7x14 x1 x2 x3 x4 x5 x6 x7
       go_wp2_with fail
       go_loopg [15] 8 (fun g s15 wr => ∃ i : Nat, i + g = 8 ∧ s15 = .int .i64 i ∧ BlH wr w g2 g4 g5 g6 g7 b v V ∧ Row wr g14 (rC .i64 8 (upto (cmp v b) i)) 61)
       case atStart => exact ⟨0, by omega, rfl, H1, H2⟩
       case round =>
        obtain ⟨i, hi, rfl, ⟨r2, r4, r5, r6, r7, sb⟩, r14⟩ := hrel
        obtain ⟨x1, x2, x3, x4, x5, x6, x7⟩ := HX.out
        obtain ⟨y1, y2, y3, y4, y5, y6⟩ := HY.out
        clear H1 H2
        cases gk with
        | zero =>
         obtain rfl : i = 8 := by omega
         clear hi
         (repeat ((fail_if_success with_reducible refine rg ?_); go_step))
         apply wp_region_mixp [] [_, _] trivial List.nodup_nil
         ·intro p
          refine mx_move rfl rfl ?_
          simp only [Act.put, pu]
          refine mx_val (.bool false) (x_lt _ _ _ _ rfl 8 8 rfl rfl false rfl) ?_
          simp only [Act.put, pu]
          refine mx_end ?_
          intro w6 hkw hrw hnew hdis
          replace r4 := hkw.row r4 (by simp <;> omega)
          replace r14 := hkw.row r14 (by simp <;> omega)
          replace sb := sb.trans (hkw.below w.heap.size sb.size (by simp <;> omega))
          clear hkw hrw hnew hdis
          (repeat ((fail_if_success with_reducible refine rg ?_); go_step))
          apply wp_region_mixp [(g4, 61, rC .i64 8 fun _ => 0)] [_, _] ⟨r4, trivial⟩ (by simp <;> omega)
          ·intro p
           refine mx_load 61 _ rfl _ rfl r14 (by simp <;> omega) 8 _ Tryd.underlying61 (by rw [rC_size]; exact size_8i) ?_
           simp only [Act.put, pu]
           refine mx_put 0 61 _ _ rfl rfl rfl (rC .i64 8 (upto (cmp v b) 8)) rfl (by rw [rC_size]; exact size_8i) (by simp only [rC_size]) (rC_one _ _ _) ?_
           simp only [Act.put]
           refine mx_end ?_
           intro w7 hkw hrw hnew hdis
           have zr4 : Row w7 (g4) (rC .i64 8 (upto (cmp v b) 8)) 61 := hrw 0 (61, rC .i64 8 (upto (cmp v b) 8)) rfl
           replace sb := sb.trans (hkw.below w.heap.size sb.size (by simp <;> omega))
           clear hkw hrw hnew hdis r4
           have r4 := zr4
           clear zr4
           go_wp2
           exact ret_row rfl _ rfl r4 8 _ Tryd.underlying61 (by rw [rC_size]; exact size_8i) rfl ⟨by rw [rC_congr .i64 8 fun i hi => upto_lt (cmp v b) 8 i hi], sb⟩
          ·rfl
         ·rfl
        | succ g =>
         have hvi := hv i
         have hVi := hV i
         (repeat ((fail_if_success with_reducible refine rg ?_); go_step))
         apply wp_region_mixp [] [_, _] trivial List.nodup_nil
         ·intro p
          refine mx_move rfl rfl ?_
          simp only [Act.put, pu]
          refine mx_val (.bool true) (x_lt _ _ _ _ rfl i 8 rfl rfl true (decide_eq_true (by omega))) ?_
          simp only [Act.put, pu]
          refine mx_end ?_
          intro w6 hkw hrw hnew hdis
          replace r2 := hkw.row r2 (by simp <;> omega)
          replace r4 := hkw.row r4 (by simp <;> omega)
          replace r5 := hkw.row r5 (by simp <;> omega)
          replace r6 := hkw.row r6 (by simp <;> omega)
          replace r7 := hkw.row r7 (by simp <;> omega)
          replace r14 := hkw.row r14 (by simp <;> omega)
          replace sb := sb.trans (hkw.below w.heap.size sb.size (by simp <;> omega))
          clear hkw hrw hnew hdis
          (repeat ((fail_if_success with_reducible refine rg ?_); go_step))
          apply wp_region_mix (by kernel_rfl) [(g14, 61, rC .i64 8 (upto (cmp v b) i))] [_, _, _, _, _, _, _, _, _, _, _] ⟨r14, trivial⟩ (by simp <;> omega)
          ·intro p
           refine mx_move rfl rfl ?_
           simp only [Act.put, pu]
           refine mx_move rfl rfl ?_
           simp only [Act.put, pu]
           refine mx_val (.pointer (some ⟨g2, i, none⟩)) (exec_index 61 _ _ rfl (g2) rfl (i) 8 rfl (by omega) _ Tryd.underlying61 Tryd.sizeOf3) ?_
           simp only [Act.put, pu]
           refine mx_loadc 3 _ rfl _ (i) rfl r2 (by simp <;> omega) (.int .i64 (v i : Nat)) (rC_get _ _ _ _ (by omega)) Tryd.isAgg3 ?_
           simp only [Act.put, pu]
           refine mx_move rfl rfl ?_
           simp only [Act.put, pu]
           refine mx_val (.pointer (some ⟨g7, i, none⟩)) (exec_index 61 _ _ rfl (g7) rfl (i) 8 rfl (by omega) _ Tryd.underlying61 Tryd.sizeOf3) ?_
           simp only [Act.put, pu]
           refine mx_loadc 3 _ rfl _ (i) rfl r7 (by simp <;> omega) (.int .i64 (V i : Nat)) (rC_get _ _ _ _ (by omega)) Tryd.isAgg3 ?_
           simp only [Act.put, pu]
           refine mx_val (.int .i64 (v i + V i : Nat)) (xi_add _ _ _ _ rfl (v i) (V i) rfl rfl (by omega)) ?_
           simp only [Act.put, pu]
           refine mx_val (.int .i64 ((v i + V i) % 4294967296 : Nat)) (xi_and _ _ _ _ rfl (v i + V i) 4294967295 _ rfl rfl (by omega) (by decide) (and_all _)) ?_
           simp only [Act.put, pu]
           refine mx_val (.pointer (some ⟨g14, i, none⟩)) (exec_index 61 _ _ rfl (g14) rfl (i) 8 rfl (by omega) _ Tryd.underlying61 Tryd.sizeOf3) ?_
           simp only [Act.put, pu]
           refine mx_putc 0 3 _ _ rfl (i) rfl rfl .i64 ((((v i + V i) % 4294967296 : Nat) : Int)) rfl Tryd.sizeOf3 (by rw [rC_size]; omega) (rC .i64 8 (upto (cmp v b) (i + 1))) (rC_put _ _ _ _ _ _ (upto_put _ _ _ (HC.out i) _)) ?_
           simp only [Act.put]
           refine mx_end ?_
           intro w7 hkw hrw hnew hdis
           have zr14 : Row w7 (g14) (rC .i64 8 (upto (cmp v b) (i + 1))) 61 := hrw 0 (61, rC .i64 8 (upto (cmp v b) (i + 1))) rfl
           replace r2 := hkw.row r2 (by simp <;> omega)
           replace r4 := hkw.row r4 (by simp <;> omega)
           replace r5 := hkw.row r5 (by simp <;> omega)
           replace r6 := hkw.row r6 (by simp <;> omega)
           replace r7 := hkw.row r7 (by simp <;> omega)
           replace sb := sb.trans (hkw.below w.heap.size sb.size (by simp <;> omega))
           clear hkw hrw hnew hdis r14
           have r14 := zr14
           clear zr14
           (repeat ((fail_if_success with_reducible refine rg ?_); go_step))
           apply wp_region_mixp [] [_, _, _] trivial List.nodup_nil
           ·intro p
            refine mx_move rfl rfl ?_
            simp only [Act.put, pu]
            refine mx_val (.int .i64 (i + 1 : Nat)) (xi_add _ _ _ _ rfl i 1 rfl rfl (by omega)) ?_
            simp only [Act.put, pu]
            refine mx_asg rfl rfl ?_
            simp only [Act.put, pu]
            refine mx_end ?_
            intro w8 hkw hrw hnew hdis
            replace r2 := hkw.row r2 (by simp <;> omega)
            replace r4 := hkw.row r4 (by simp <;> omega)
            replace r5 := hkw.row r5 (by simp <;> omega)
            replace r6 := hkw.row r6 (by simp <;> omega)
            replace r7 := hkw.row r7 (by simp <;> omega)
            replace r14 := hkw.row r14 (by simp <;> omega)
            replace sb := sb.trans (hkw.below w.heap.size sb.size (by simp <;> omega))
            clear hkw hrw hnew hdis
            go_wp2
            go_roundg g
            case measure => omega
            case rel => exact ⟨i + 1, by omega, rfl, ⟨r2, r4, r5, r6, r7, sb⟩, r14⟩
           ·rfl
          ·kernel_rfl
         ·rfl
      ·rfl
     ·rfl
    | succ g =>
     have HC : Hid (rnd (wf b) v (t + 1) = stp (rnd (wf b) v t) (kf t) (wf b t)) := rfl
     generalize rnd (wf b) v t = V at *
     (repeat ((fail_if_success with_reducible refine rg ?_); go_step))
     apply wp_region_mixp [] [_, _] trivial List.nodup_nil
     ·intro p
      refine mx_move rfl rfl ?_
      simp only [Act.put, pu]
      refine mx_val (.bool true) (x_lt _ _ _ _ rfl t 64 rfl rfl true (decide_eq_true (by omega))) ?_
      simp only [Act.put, pu]
      refine mx_end ?_
      intro w4 hkw hrw hnew hdis
      replace r2 := hkw.row r2 (by simp <;> omega)
      replace r4 := hkw.row r4 (by simp <;> omega)
      replace r5 := hkw.row r5 (by simp <;> omega)
      replace r6 := hkw.row r6 (by simp <;> omega)
      replace r7 := hkw.row r7 (by simp <;> omega)
      replace sb := sb.trans (hkw.below w.heap.size sb.size (by simp <;> omega))
      clear hkw hrw hnew hdis
      (repeat ((fail_if_success with_reducible refine rg ?_); go_step))
      refine wp_region_qw (by kernel_rfl) (by kernel_rfl) ?_
      refine qw_value (by rfl) (.pointer (some ⟨g7, 4, none⟩)) (exec_index 61 _ _ rfl (g7) rfl (4) 8 rfl (by omega) _ Tryd.underlying61 Tryd.sizeOf3) ?_
      simp only [Act.put, pu]
      refine qw_loadc (by rfl) 3 _ rfl _ (4) rfl r7 (.int .i64 (V 4 : Nat)) (rC_get _ _ _ _ (by omega)) Tryd.isAgg3 ?_
      simp only [Act.put, pu]
      refine qw_call (by rfl) 48 _ _ rfl Tryd.func48 (by kernel_rfl) #[.int .i64 (V 4 : Nat), .int .i64 6] rfl _ (fun w' => rrotr_any (V 4) 6 w' (hV _) (by decide) (by decide)) ?_
      simp only [Act.put, pu]
      refine qw_value (by rfl) (.pointer (some ⟨g7, 4, none⟩)) (exec_index 61 _ _ rfl (g7) rfl (4) 8 rfl (by omega) _ Tryd.underlying61 Tryd.sizeOf3) ?_
      simp only [Act.put, pu]
      refine qw_loadc (by rfl) 3 _ rfl _ (4) rfl r7 (.int .i64 (V 4 : Nat)) (rC_get _ _ _ _ (by omega)) Tryd.isAgg3 ?_
      simp only [Act.put, pu]
      refine qw_call (by rfl) 48 _ _ rfl Tryd.func48 (by kernel_rfl) #[.int .i64 (V 4 : Nat), .int .i64 11] rfl _ (fun w' => rrotr_any (V 4) 11 w' (hV _) (by decide) (by decide)) ?_
      simp only [Act.put, pu]
      refine qw_value (by rfl) (.int .i64 ((rr (V 4) 6) ^^^ (rr (V 4) 11) : Nat)) (xi_xor _ _ _ _ rfl (rr (V 4) 6) (rr (V 4) 11) rfl rfl (lt63 (rr_lt 6 (hV _))) (lt63 (rr_lt 11 (hV _)))) ?_
      simp only [Act.put, pu]
      refine qw_value (by rfl) (.pointer (some ⟨g7, 4, none⟩)) (exec_index 61 _ _ rfl (g7) rfl (4) 8 rfl (by omega) _ Tryd.underlying61 Tryd.sizeOf3) ?_
      simp only [Act.put, pu]
      refine qw_loadc (by rfl) 3 _ rfl _ (4) rfl r7 (.int .i64 (V 4 : Nat)) (rC_get _ _ _ _ (by omega)) Tryd.isAgg3 ?_
      simp only [Act.put, pu]
      refine qw_call (by rfl) 48 _ _ rfl Tryd.func48 (by kernel_rfl) #[.int .i64 (V 4 : Nat), .int .i64 25] rfl _ (fun w' => rrotr_any (V 4) 25 w' (hV _) (by decide) (by decide)) ?_
      simp only [Act.put, pu]
      refine qw_value (by rfl) (.int .i64 (((rr (V 4) 6) ^^^ (rr (V 4) 11)) ^^^ (rr (V 4) 25) : Nat)) (xi_xor _ _ _ _ rfl ((rr (V 4) 6) ^^^ (rr (V 4) 11)) (rr (V 4) 25) rfl rfl (lt63 (xor32 (rr_lt 6 (hV _)) (rr_lt 11 (hV _)))) (lt63 (rr_lt 25 (hV _)))) ?_
      simp only [Act.put, pu]
      refine qw_asg (by rfl) rfl rfl ?_
      simp only [Act.put, pu]
      refine qw_nil ?_
      intro w5 hqb
      replace r2 := r2.belowAll hqb
      replace r4 := r4.belowAll hqb
      replace r5 := r5.belowAll hqb
      replace r6 := r6.belowAll hqb
      replace r7 := r7.belowAll hqb
      replace sb := below_on sb (Nat.le_refl _) hqb
      clear hqb
      (repeat ((fail_if_success with_reducible refine rg ?_); go_step))
      refine wp_region_qp ?_
      refine qw_value (by rfl) (.pointer (some ⟨g7, 4, none⟩)) (exec_index 61 _ _ rfl (g7) rfl (4) 8 rfl (by omega) _ Tryd.underlying61 Tryd.sizeOf3) ?_
      simp only [Act.put, pu]
      refine qw_loadc (by rfl) 3 _ rfl _ (4) rfl r7 (.int .i64 (V 4 : Nat)) (rC_get _ _ _ _ (by omega)) Tryd.isAgg3 ?_
      simp only [Act.put, pu]
      refine qw_value (by rfl) (.pointer (some ⟨g7, 5, none⟩)) (exec_index 61 _ _ rfl (g7) rfl (5) 8 rfl (by omega) _ Tryd.underlying61 Tryd.sizeOf3) ?_
      simp only [Act.put, pu]
      refine qw_loadc (by rfl) 3 _ rfl _ (5) rfl r7 (.int .i64 (V 5 : Nat)) (rC_get _ _ _ _ (by omega)) Tryd.isAgg3 ?_
      simp only [Act.put, pu]
      refine qw_value (by rfl) (.int .i64 ((V 4) &&& (V 5) : Nat)) (xi_and _ _ _ _ rfl (V 4) (V 5) _ rfl rfl (lt63 (hV 4)) (lt63 (hV 5)) rfl) ?_
      simp only [Act.put, pu]
      refine qw_value (by rfl) (.pointer (some ⟨g7, 4, none⟩)) (exec_index 61 _ _ rfl (g7) rfl (4) 8 rfl (by omega) _ Tryd.underlying61 Tryd.sizeOf3) ?_
      simp only [Act.put, pu]
      refine qw_loadc (by rfl) 3 _ rfl _ (4) rfl r7 (.int .i64 (V 4 : Nat)) (rC_get _ _ _ _ (by omega)) Tryd.isAgg3 ?_
      simp only [Act.put, pu]
      refine qw_value (by rfl) (.int .i64 ((4294967295) ^^^ (V 4) : Nat)) (xi_xor _ _ _ _ rfl (4294967295) (V 4) rfl rfl (lt63 (by decide)) (lt63 (hV 4))) ?_
      simp only [Act.put, pu]
      refine qw_value (by rfl) (.pointer (some ⟨g7, 6, none⟩)) (exec_index 61 _ _ rfl (g7) rfl (6) 8 rfl (by omega) _ Tryd.underlying61 Tryd.sizeOf3) ?_
      simp only [Act.put, pu]
      refine qw_loadc (by rfl) 3 _ rfl _ (6) rfl r7 (.int .i64 (V 6 : Nat)) (rC_get _ _ _ _ (by omega)) Tryd.isAgg3 ?_
      simp only [Act.put, pu]
      refine qw_value (by rfl) (.int .i64 (((4294967295) ^^^ (V 4)) &&& (V 6) : Nat)) (xi_and _ _ _ _ rfl ((4294967295) ^^^ (V 4)) (V 6) _ rfl rfl (lt63 (xor32 (by decide) (hV 4))) (lt63 (hV 6)) rfl) ?_
      simp only [Act.put, pu]
      refine qw_value (by rfl) (.int .i64 (((V 4) &&& (V 5)) ^^^ (((4294967295) ^^^ (V 4)) &&& (V 6)) : Nat)) (xi_xor _ _ _ _ rfl ((V 4) &&& (V 5)) (((4294967295) ^^^ (V 4)) &&& (V 6)) rfl rfl (lt63 (and32 (hV 4))) (lt63 (and32 (xor32 (by decide) (hV 4))))) ?_
      simp only [Act.put, pu]
      refine qw_asg (by rfl) rfl rfl ?_
      simp only [Act.put, pu]
      refine qw_nil ?_
      intro w6 hqb
      replace r2 := r2.belowAll hqb
      replace r4 := r4.belowAll hqb
      replace r5 := r5.belowAll hqb
      replace r6 := r6.belowAll hqb
      replace r7 := r7.belowAll hqb
      replace sb := below_on sb (Nat.le_refl _) hqb
      clear hqb
      have HS : stp V (kf t) (wf b t) 0 = (V 7 + bs1 (V 4) + chf (V 4) (V 5) (V 6) + kf t + wf b t + bs0 (V 0) + mjf (V 0) (V 1) (V 2)) % 4294967296 := by
       show (t1f V (kf t) (wf b t) + t2f V) % 4294967296 = _
       unfold t1f t2f
       rw [Nat.add_assoc _ (bs0 (V 0))]
      have HE : stp V (kf t) (wf b t) 4 = (V 3 + (V 7 + bs1 (V 4) + chf (V 4) (V 5) (V 6) + kf t + wf b t)) % 4294967296 := rfl
      have z1 : bs1 (V 4) < 4294967296 := bs1_lt (hV 4)
      have z2 : chf (V 4) (V 5) (V 6) < 4294967296 := chf_lt (hV 4)
      have z3 := kf_lt t
      have z4 := wf_lt hb t
      have z5 : bs0 (V 0) < 4294967296 := bs0_lt (hV 0)
      have z6 : mjf (V 0) (V 1) (V 2) < 4294967296 := mjf_lt (hV 0) (hV 1)
      have z7 := hV 7
      have z8 := hV 3
      rw [show ((rr (V 4) 6) ^^^ (rr (V 4) 11)) ^^^ (rr (V 4) 25) = bs1 (V 4) from rfl, show ((V 4) &&& (V 5)) ^^^ (((4294967295) ^^^ (V 4)) &&& (V 6)) = chf (V 4) (V 5) (V 6) from rfl]
      generalize bs1 (V 4) = y1 at *
      generalize chf (V 4) (V 5) (V 6) = y2 at *
      (repeat ((fail_if_success with_reducible refine rg ?_); go_step))
      refine wp_region_qw (by kernel_rfl) (by kernel_rfl) ?_
      refine qw_value (by rfl) (.pointer (some ⟨g7, 7, none⟩)) (exec_index 61 _ _ rfl (g7) rfl (7) 8 rfl (by omega) _ Tryd.underlying61 Tryd.sizeOf3) ?_
      simp only [Act.put, pu]
      refine qw_loadc (by rfl) 3 _ rfl _ (7) rfl r7 (.int .i64 (V 7 : Nat)) (rC_get _ _ _ _ (by omega)) Tryd.isAgg3 ?_
      simp only [Act.put, pu]
      refine qw_move (by rfl) rfl rfl ?_
      simp only [Act.put, pu]
      refine qw_value (by rfl) (.int .i64 (V 7 + y1 : Nat)) (xi_add _ _ _ _ rfl (V 7) (y1) rfl rfl (by omega)) ?_
      simp only [Act.put, pu]
      refine qw_move (by rfl) rfl rfl ?_
      simp only [Act.put, pu]
      refine qw_value (by rfl) (.int .i64 (V 7 + y1 + y2 : Nat)) (xi_add _ _ _ _ rfl (V 7 + y1) (y2) rfl rfl (by omega)) ?_
      simp only [Act.put, pu]
      refine qw_move (by rfl) rfl rfl ?_
      simp only [Act.put, pu]
      refine qw_value (by rfl) (.pointer (some ⟨g6, t, none⟩)) (exec_index 68 _ _ rfl (g6) rfl (t) 64 rfl (by omega) _ Tryd.underlying68 Tryd.sizeOf3) ?_
      simp only [Act.put, pu]
      refine qw_loadc (by rfl) 3 _ rfl _ (t) rfl r6 (.int .i64 (kf t : Nat)) (rC_get _ _ _ _ (by omega)) Tryd.isAgg3 ?_
      simp only [Act.put, pu]
      refine qw_value (by rfl) (.int .i64 (V 7 + y1 + y2 + kf t : Nat)) (xi_add _ _ _ _ rfl (V 7 + y1 + y2) (kf t) rfl rfl (by omega)) ?_
      simp only [Act.put, pu]
      refine qw_move (by rfl) rfl rfl ?_
      simp only [Act.put, pu]
      refine qw_value (by rfl) (.pointer (some ⟨g5, t, none⟩)) (exec_index 68 _ _ rfl (g5) rfl (t) 64 rfl (by omega) _ Tryd.underlying68 Tryd.sizeOf3) ?_
      simp only [Act.put, pu]
      refine qw_loadc (by rfl) 3 _ rfl _ (t) rfl r5 (.int .i64 (wf b t : Nat)) (rC_get _ _ _ _ (by omega)) Tryd.isAgg3 ?_
      simp only [Act.put, pu]
      refine qw_value (by rfl) (.int .i64 (V 7 + y1 + y2 + kf t + wf b t : Nat)) (xi_add _ _ _ _ rfl (V 7 + y1 + y2 + kf t) (wf b t) rfl rfl (by omega)) ?_
      simp only [Act.put, pu]
      refine qw_asg (by rfl) rfl rfl ?_
      simp only [Act.put, pu]
      refine qw_nil ?_
      intro w7 hqb
      replace r2 := r2.belowAll hqb
      replace r4 := r4.belowAll hqb
      replace r5 := r5.belowAll hqb
      replace r6 := r6.belowAll hqb
      replace r7 := r7.belowAll hqb
      replace sb := below_on sb (Nat.le_refl _) hqb
      clear hqb
      (repeat ((fail_if_success with_reducible refine rg ?_); go_step))
      refine wp_region_qw (by kernel_rfl) (by kernel_rfl) ?_
      refine qw_value (by rfl) (.pointer (some ⟨g7, 0, none⟩)) (exec_index 61 _ _ rfl (g7) rfl (0) 8 rfl (by omega) _ Tryd.underlying61 Tryd.sizeOf3) ?_
      simp only [Act.put, pu]
      refine qw_loadc (by rfl) 3 _ rfl _ (0) rfl r7 (.int .i64 (V 0 : Nat)) (rC_get _ _ _ _ (by omega)) Tryd.isAgg3 ?_
      simp only [Act.put, pu]
      refine qw_call (by rfl) 48 _ _ rfl Tryd.func48 (by kernel_rfl) #[.int .i64 (V 0 : Nat), .int .i64 2] rfl _ (fun w' => rrotr_any (V 0) 2 w' (hV _) (by decide) (by decide)) ?_
      simp only [Act.put, pu]
      refine qw_value (by rfl) (.pointer (some ⟨g7, 0, none⟩)) (exec_index 61 _ _ rfl (g7) rfl (0) 8 rfl (by omega) _ Tryd.underlying61 Tryd.sizeOf3) ?_
      simp only [Act.put, pu]
      refine qw_loadc (by rfl) 3 _ rfl _ (0) rfl r7 (.int .i64 (V 0 : Nat)) (rC_get _ _ _ _ (by omega)) Tryd.isAgg3 ?_
      simp only [Act.put, pu]
      refine qw_call (by rfl) 48 _ _ rfl Tryd.func48 (by kernel_rfl) #[.int .i64 (V 0 : Nat), .int .i64 13] rfl _ (fun w' => rrotr_any (V 0) 13 w' (hV _) (by decide) (by decide)) ?_
      simp only [Act.put, pu]
      refine qw_value (by rfl) (.int .i64 ((rr (V 0) 2) ^^^ (rr (V 0) 13) : Nat)) (xi_xor _ _ _ _ rfl (rr (V 0) 2) (rr (V 0) 13) rfl rfl (lt63 (rr_lt 2 (hV _))) (lt63 (rr_lt 13 (hV _)))) ?_
      simp only [Act.put, pu]
      refine qw_value (by rfl) (.pointer (some ⟨g7, 0, none⟩)) (exec_index 61 _ _ rfl (g7) rfl (0) 8 rfl (by omega) _ Tryd.underlying61 Tryd.sizeOf3) ?_
      simp only [Act.put, pu]
      refine qw_loadc (by rfl) 3 _ rfl _ (0) rfl r7 (.int .i64 (V 0 : Nat)) (rC_get _ _ _ _ (by omega)) Tryd.isAgg3 ?_
      simp only [Act.put, pu]
      refine qw_call (by rfl) 48 _ _ rfl Tryd.func48 (by kernel_rfl) #[.int .i64 (V 0 : Nat), .int .i64 22] rfl _ (fun w' => rrotr_any (V 0) 22 w' (hV _) (by decide) (by decide)) ?_
      simp only [Act.put, pu]
      refine qw_value (by rfl) (.int .i64 (((rr (V 0) 2) ^^^ (rr (V 0) 13)) ^^^ (rr (V 0) 22) : Nat)) (xi_xor _ _ _ _ rfl ((rr (V 0) 2) ^^^ (rr (V 0) 13)) (rr (V 0) 22) rfl rfl (lt63 (xor32 (rr_lt 2 (hV _)) (rr_lt 13 (hV _)))) (lt63 (rr_lt 22 (hV _)))) ?_
      simp only [Act.put, pu]
      refine qw_asg (by rfl) rfl rfl ?_
      simp only [Act.put, pu]
      refine qw_nil ?_
      intro w8 hqb
      replace r2 := r2.belowAll hqb
      replace r4 := r4.belowAll hqb
      replace r5 := r5.belowAll hqb
      replace r6 := r6.belowAll hqb
      replace r7 := r7.belowAll hqb
      replace sb := below_on sb (Nat.le_refl _) hqb
      clear hqb
      (repeat ((fail_if_success with_reducible refine rg ?_); go_step))
      refine wp_region_qp ?_
      refine qw_value (by rfl) (.pointer (some ⟨g7, 0, none⟩)) (exec_index 61 _ _ rfl (g7) rfl (0) 8 rfl (by omega) _ Tryd.underlying61 Tryd.sizeOf3) ?_
      simp only [Act.put, pu]
      refine qw_loadc (by rfl) 3 _ rfl _ (0) rfl r7 (.int .i64 (V 0 : Nat)) (rC_get _ _ _ _ (by omega)) Tryd.isAgg3 ?_
      simp only [Act.put, pu]
      refine qw_value (by rfl) (.pointer (some ⟨g7, 1, none⟩)) (exec_index 61 _ _ rfl (g7) rfl (1) 8 rfl (by omega) _ Tryd.underlying61 Tryd.sizeOf3) ?_
      simp only [Act.put, pu]
      refine qw_loadc (by rfl) 3 _ rfl _ (1) rfl r7 (.int .i64 (V 1 : Nat)) (rC_get _ _ _ _ (by omega)) Tryd.isAgg3 ?_
      simp only [Act.put, pu]
      refine qw_value (by rfl) (.int .i64 ((V 0) &&& (V 1) : Nat)) (xi_and _ _ _ _ rfl (V 0) (V 1) _ rfl rfl (lt63 (hV 0)) (lt63 (hV 1)) rfl) ?_
      simp only [Act.put, pu]
      refine qw_value (by rfl) (.pointer (some ⟨g7, 0, none⟩)) (exec_index 61 _ _ rfl (g7) rfl (0) 8 rfl (by omega) _ Tryd.underlying61 Tryd.sizeOf3) ?_
      simp only [Act.put, pu]
      refine qw_loadc (by rfl) 3 _ rfl _ (0) rfl r7 (.int .i64 (V 0 : Nat)) (rC_get _ _ _ _ (by omega)) Tryd.isAgg3 ?_
      simp only [Act.put, pu]
      refine qw_value (by rfl) (.pointer (some ⟨g7, 2, none⟩)) (exec_index 61 _ _ rfl (g7) rfl (2) 8 rfl (by omega) _ Tryd.underlying61 Tryd.sizeOf3) ?_
      simp only [Act.put, pu]
      refine qw_loadc (by rfl) 3 _ rfl _ (2) rfl r7 (.int .i64 (V 2 : Nat)) (rC_get _ _ _ _ (by omega)) Tryd.isAgg3 ?_
      simp only [Act.put, pu]
      refine qw_value (by rfl) (.int .i64 ((V 0) &&& (V 2) : Nat)) (xi_and _ _ _ _ rfl (V 0) (V 2) _ rfl rfl (lt63 (hV 0)) (lt63 (hV 2)) rfl) ?_
      simp only [Act.put, pu]
      refine qw_value (by rfl) (.int .i64 (((V 0) &&& (V 1)) ^^^ ((V 0) &&& (V 2)) : Nat)) (xi_xor _ _ _ _ rfl ((V 0) &&& (V 1)) ((V 0) &&& (V 2)) rfl rfl (lt63 (and32 (hV 0))) (lt63 (and32 (hV 0)))) ?_
      simp only [Act.put, pu]
      refine qw_value (by rfl) (.pointer (some ⟨g7, 1, none⟩)) (exec_index 61 _ _ rfl (g7) rfl (1) 8 rfl (by omega) _ Tryd.underlying61 Tryd.sizeOf3) ?_
      simp only [Act.put, pu]
      refine qw_loadc (by rfl) 3 _ rfl _ (1) rfl r7 (.int .i64 (V 1 : Nat)) (rC_get _ _ _ _ (by omega)) Tryd.isAgg3 ?_
      simp only [Act.put, pu]
      refine qw_value (by rfl) (.pointer (some ⟨g7, 2, none⟩)) (exec_index 61 _ _ rfl (g7) rfl (2) 8 rfl (by omega) _ Tryd.underlying61 Tryd.sizeOf3) ?_
      simp only [Act.put, pu]
      refine qw_loadc (by rfl) 3 _ rfl _ (2) rfl r7 (.int .i64 (V 2 : Nat)) (rC_get _ _ _ _ (by omega)) Tryd.isAgg3 ?_
      simp only [Act.put, pu]
      refine qw_value (by rfl) (.int .i64 ((V 1) &&& (V 2) : Nat)) (xi_and _ _ _ _ rfl (V 1) (V 2) _ rfl rfl (lt63 (hV 1)) (lt63 (hV 2)) rfl) ?_
      simp only [Act.put, pu]
      refine qw_value (by rfl) (.int .i64 ((((V 0) &&& (V 1)) ^^^ ((V 0) &&& (V 2))) ^^^ ((V 1) &&& (V 2)) : Nat)) (xi_xor _ _ _ _ rfl (((V 0) &&& (V 1)) ^^^ ((V 0) &&& (V 2))) ((V 1) &&& (V 2)) rfl rfl (lt63 (xor32 (and32 (hV 0)) (and32 (hV 0)))) (lt63 (and32 (hV 1)))) ?_
      simp only [Act.put, pu]
      refine qw_asg (by rfl) rfl rfl ?_
      simp only [Act.put, pu]
      refine qw_nil ?_
      intro w9 hqb
      replace r2 := r2.belowAll hqb
      replace r4 := r4.belowAll hqb
      replace r5 := r5.belowAll hqb
      replace r6 := r6.belowAll hqb
      replace r7 := r7.belowAll hqb
      replace sb := below_on sb (Nat.le_refl _) hqb
      clear hqb
      rw [show ((rr (V 0) 2) ^^^ (rr (V 0) 13)) ^^^ (rr (V 0) 22) = bs0 (V 0) from rfl, show (((V 0) &&& (V 1)) ^^^ ((V 0) &&& (V 2))) ^^^ ((V 1) &&& (V 2)) = mjf (V 0) (V 1) (V 2) from rfl]
      generalize bs0 (V 0) = S0 at *
      generalize mjf (V 0) (V 1) (V 2) = MJ at *
      have z9 : V 7 + y1 + y2 + kf t + wf b t < 34359738368 := by omega
      generalize V 7 + y1 + y2 + kf t + wf b t = T1 at *
      (repeat ((fail_if_success with_reducible refine rg ?_); go_step))
      apply wp_region_mixp [(g7, 61, rC .i64 8 V)] [_, _, _, _, _, _, _, _, _, _, _, _, _, _, _, _, _, _, _, _, _, _, _, _, _] ⟨r7, trivial⟩ (by simp <;> omega)
      ·intro p
       refine mx_move rfl rfl ?_
       simp only [Act.put, pu]
       refine mx_move rfl rfl ?_
       simp only [Act.put, pu]
       refine mx_val (.int .i64 (T1 + S0 : Nat)) (xi_add _ _ _ _ rfl (T1) (S0) rfl rfl (by omega)) ?_
       simp only [Act.put, pu]
       refine mx_move rfl rfl ?_
       simp only [Act.put, pu]
       refine mx_val (.int .i64 (T1 + S0 + MJ : Nat)) (xi_add _ _ _ _ rfl (T1 + S0) (MJ) rfl rfl (by omega)) ?_
       simp only [Act.put, pu]
       refine mx_val (.int .i64 (stp V (kf t) (wf b t) 0 : Nat)) ((fun w' => (xi_and _ _ _ _ rfl (T1 + S0 + MJ) 4294967295 _ rfl rfl (by omega) (by decide) (and_all _) w').trans (by rw [HS]))) ?_
       simp only [Act.put, pu]
       refine mx_val (.pointer (some ⟨g7, 0, none⟩)) (exec_index 61 _ _ rfl (g7) rfl (0) 8 rfl (by omega) _ Tryd.underlying61 Tryd.sizeOf3) ?_
       simp only [Act.put, pu]
       refine mx_loadcT 0 3 _ rfl (0) rfl rfl (.int .i64 (V 0 : Nat)) (rC_get _ _ _ _ (by omega)) Tryd.isAgg3 ?_
       simp only [Act.put, pu]
       refine mx_val (.pointer (some ⟨g7, 1, none⟩)) (exec_index 61 _ _ rfl (g7) rfl (1) 8 rfl (by omega) _ Tryd.underlying61 Tryd.sizeOf3) ?_
       simp only [Act.put, pu]
       refine mx_loadcT 0 3 _ rfl (1) rfl rfl (.int .i64 (V 1 : Nat)) (rC_get _ _ _ _ (by omega)) Tryd.isAgg3 ?_
       simp only [Act.put, pu]
       refine mx_val (.pointer (some ⟨g7, 2, none⟩)) (exec_index 61 _ _ rfl (g7) rfl (2) 8 rfl (by omega) _ Tryd.underlying61 Tryd.sizeOf3) ?_
       simp only [Act.put, pu]
       refine mx_loadcT 0 3 _ rfl (2) rfl rfl (.int .i64 (V 2 : Nat)) (rC_get _ _ _ _ (by omega)) Tryd.isAgg3 ?_
       simp only [Act.put, pu]
       refine mx_val (.pointer (some ⟨g7, 3, none⟩)) (exec_index 61 _ _ rfl (g7) rfl (3) 8 rfl (by omega) _ Tryd.underlying61 Tryd.sizeOf3) ?_
       simp only [Act.put, pu]
       refine mx_loadcT 0 3 _ rfl (3) rfl rfl (.int .i64 (V 3 : Nat)) (rC_get _ _ _ _ (by omega)) Tryd.isAgg3 ?_
       simp only [Act.put, pu]
       refine mx_move rfl rfl ?_
       simp only [Act.put, pu]
       refine mx_val (.int .i64 (V 3 + T1 : Nat)) (xi_add _ _ _ _ rfl (V 3) (T1) rfl rfl (by omega)) ?_
       simp only [Act.put, pu]
       refine mx_val (.int .i64 (stp V (kf t) (wf b t) 4 : Nat)) ((fun w' => (xi_and _ _ _ _ rfl (V 3 + T1) 4294967295 _ rfl rfl (by omega) (by decide) (and_all _) w').trans (by rw [HE]))) ?_
       simp only [Act.put, pu]
       refine mx_val (.pointer (some ⟨g7, 4, none⟩)) (exec_index 61 _ _ rfl (g7) rfl (4) 8 rfl (by omega) _ Tryd.underlying61 Tryd.sizeOf3) ?_
       simp only [Act.put, pu]
       refine mx_loadcT 0 3 _ rfl (4) rfl rfl (.int .i64 (V 4 : Nat)) (rC_get _ _ _ _ (by omega)) Tryd.isAgg3 ?_
       simp only [Act.put, pu]
       refine mx_val (.pointer (some ⟨g7, 5, none⟩)) (exec_index 61 _ _ rfl (g7) rfl (5) 8 rfl (by omega) _ Tryd.underlying61 Tryd.sizeOf3) ?_
       simp only [Act.put, pu]
       refine mx_loadcT 0 3 _ rfl (5) rfl rfl (.int .i64 (V 5 : Nat)) (rC_get _ _ _ _ (by omega)) Tryd.isAgg3 ?_
       simp only [Act.put, pu]
       refine mx_val (.pointer (some ⟨g7, 6, none⟩)) (exec_index 61 _ _ rfl (g7) rfl (6) 8 rfl (by omega) _ Tryd.underlying61 Tryd.sizeOf3) ?_
       simp only [Act.put, pu]
       refine mx_loadcT 0 3 _ rfl (6) rfl rfl (.int .i64 (V 6 : Nat)) (rC_get _ _ _ _ (by omega)) Tryd.isAgg3 ?_
       simp only [Act.put, pu]
       refine mx_val (.agg (rC .i64 8 (stp V (kf t) (wf b t)))) (exec_build _ [(0, .tmp 94), (1, .tmp 96), (2, .tmp 98), (3, .tmp 100), (4, .tmp 105), (5, .tmp 107), (6, .tmp 109), (7, .tmp 111)] rfl _ rfl _ (built_8v (stp V (kf t) (wf b t)))) ?_
       simp only [Act.put, pu]
       refine mx_put 0 61 _ _ rfl rfl rfl (rC .i64 8 (stp V (kf t) (wf b t))) rfl (by rw [rC_size]; exact size_8i) (by simp only [rC_size]) (rC_one _ _ _) ?_
       simp only [Act.put]
       refine mx_end ?_
       intro w10 hkw hrw hnew hdis
       have zr7 : Row w10 (g7) (rC .i64 8 (stp V (kf t) (wf b t))) 61 := hrw 0 (61, rC .i64 8 (stp V (kf t) (wf b t))) rfl
       replace r2 := hkw.row r2 (by simp <;> omega)
       replace r4 := hkw.row r4 (by simp <;> omega)
       replace r5 := hkw.row r5 (by simp <;> omega)
       replace r6 := hkw.row r6 (by simp <;> omega)
       replace sb := sb.trans (hkw.below w.heap.size sb.size (by simp <;> omega))
       clear hkw hrw hnew hdis r7
       have r7 := zr7
       clear zr7
       (repeat ((fail_if_success with_reducible refine rg ?_); go_step))
       apply wp_region_mixp [] [_, _, _] trivial List.nodup_nil
       ·intro p
        refine mx_move rfl rfl ?_
        simp only [Act.put, pu]
        refine mx_val (.int .i64 (t + 1 : Nat)) (xi_add _ _ _ _ rfl t 1 rfl rfl (by omega)) ?_
        simp only [Act.put, pu]
        refine mx_asg rfl rfl ?_
        simp only [Act.put, pu]
        refine mx_end ?_
        intro w11 hkw hrw hnew hdis
        replace r2 := hkw.row r2 (by simp <;> omega)
        replace r4 := hkw.row r4 (by simp <;> omega)
        replace r5 := hkw.row r5 (by simp <;> omega)
        replace r6 := hkw.row r6 (by simp <;> omega)
        replace r7 := hkw.row r7 (by simp <;> omega)
        replace sb := sb.trans (hkw.below w.heap.size sb.size (by simp <;> omega))
        clear hkw hrw hnew hdis
        go_wp2
        go_roundg g
        case measure => omega
        case rel => exact ⟨t + 1, by omega, rfl, r2, r4, r5, r6, by rw [HC.out]; exact r7, sb⟩
       ·rfl
      ·rfl
     ·rfl
  ·kernel_rfl
 ·rfl
end Go.Proofs.YtdanmnhknmepiaaDoor
