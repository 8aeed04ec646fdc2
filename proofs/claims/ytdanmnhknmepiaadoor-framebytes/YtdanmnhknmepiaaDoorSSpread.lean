/- sha's spreadOf: a word for each round. -/
import Derived.Test.YtdanmnhknmepiaaDoorSTypes
namespace Go.Proofs.YtdanmnhknmepiaaDoor
open Go.RowKit
set_option linter.unusedVariables false
/-- The rows that spreadOf holds on to. -/
structure SpH (wr w : World) (g1 g2 g3 : Nat) (b u : Nat → Nat) : Prop where
 x : Row wr g1 (rC .u8 64 b) 43
 z : Row wr g2 (rC .u32 64 fun _ => 0) 64
 o : Row wr g3 (rC .u32 64 u) 64
 below : Below w.heap.size w wr
set_option maxRecDepth 100000 in
set_option maxHeartbeats 2000000 in
theorem spread_any (b : Nat → Nat) (hb : ∀ i, b i < 256) (w : World) :
  Calls Tryd.prog 41 #[.agg (rC .u8 64 b)] w fun e w' => e = .returned (.agg (rC .u32 64 (wf b))) ∧ Below w.heap.size w w' := by
 go_enter Tryd.func41, Tryd.ntmps41
 (repeat ((fail_if_success with_reducible refine rg ?_); go_step))
 apply wp_region_mixp [] [_, _] trivial List.nodup_nil
 ·intro p
  refine mx_box 43 _ rfl _ rfl ?_
  simp only [Act.put, pu]
  refine mx_new 64 rfl _ zero_64w ?_
  simp only [Act.put, pu]
  refine mx_end ?_
  intro w2 hkw hrw hnew hdis
  have n1 := hnew 0 rfl
  have n2 := hnew 1 rfl
  have zr1 : Row w2 (p 0) (rC .u8 64 b) 43 := hrw 1 (43, rC .u8 64 b) rfl
  have zr2 : Row w2 (p 1) (rC .u32 64 fun _ => 0) 64 := hrw 3 (64, rC .u32 64 fun _ => 0) rfl
  have d1x2 := hdis 0 1 (by omega) rfl rfl
  have sb := hkw.below w.heap.size (Nat.le_refl _) (by simp)
  have b1 : w.heap.size ≤ p 0 := n1
  have b2 : w.heap.size ≤ p 1 := n2
  clear hkw hrw hnew hdis n1 n2
  generalize p 0 = g1 at *
  generalize p 1 = g2 at *
  have r1 := zr1
  clear zr1
  have r2 := zr2
  clear zr2
  (repeat ((fail_if_success with_reducible refine rg ?_); go_step))
  apply wp_region_mixp [] [_] trivial List.nodup_nil
  ·intro p
   refine mx_new 64 rfl _ zero_64w ?_
   simp only [Act.put, pu]
   refine mx_end ?_
   intro w3 hkw hrw hnew hdis
   have n3 := hnew 0 rfl
   have zr3 : Row w3 (p 0) (rC .u32 64 fun _ => 0) 64 := hrw 1 (64, rC .u32 64 fun _ => 0) rfl
   have d1x3 := Nat.lt_of_lt_of_le r1.lt n3
   have d2x3 := Nat.lt_of_lt_of_le r2.lt n3
   replace r1 := hkw.row r1 (by simp <;> omega)
   replace r2 := hkw.row r2 (by simp <;> omega)
   have b3 := Nat.le_trans sb.size n3
   replace sb := sb.trans (hkw.below w.heap.size sb.size (by simp <;> omega))
   clear hkw hrw hnew hdis n3
   generalize p 0 = g3 at *
   have r3 := zr3
   clear zr3
   have H0 : SpH w3 w g1 g2 g3 b (upto (wf b) 0) := ⟨r1, r2, by rw [upto_zero]; exact r3, sb⟩
   have HX : Hid (g1 ≠ g2 ∧ g1 ≠ g3 ∧ g2 ≠ g3 ∧ w.heap.size ≤ g2 ∧ w.heap.size ≤ g3) := ⟨by omega, by omega, by omega, b2, b3⟩
   clear r1 r2 r3 sb b1 b2 b3 d1x2 d1x3 d2x3
   go_wp2_with fail
   go_loopg [8] 16 (fun g s8 wr => ∃ i : Nat, i + g = 16 ∧ s8 = .int .i64 i ∧ SpH wr w g1 g2 g3 b (upto (wf b) i))
   case atStart => exact ⟨0, by omega, rfl, H0⟩
   case round =>
    obtain ⟨i, hi, rfl, r1, r2, r3, sb⟩ := hrel
    obtain ⟨x1, x2, x3, x4, x5⟩ := HX.out
    clear H0
    cases gk with
    | zero =>
     obtain rfl : i = 16 := by omega
     clear hi
     (repeat ((fail_if_success with_reducible refine rg ?_); go_step))
     apply wp_region_mixp [] [_] trivial List.nodup_nil
     ·intro p
      refine mx_val (.bool false) (x_lt _ _ _ _ rfl 16 16 rfl rfl false rfl) ?_
      simp only [Act.put, pu]
      refine mx_end ?_
      intro w4 hkw hrw hnew hdis
      replace r1 := hkw.row r1 (by simp <;> omega)
      replace r2 := hkw.row r2 (by simp <;> omega)
      replace r3 := hkw.row r3 (by simp <;> omega)
      replace sb := sb.trans (hkw.below w.heap.size sb.size (by simp <;> omega))
      clear hkw hrw hnew hdis
      have H1 : SpH w4 w g1 g2 g3 b (upto (wf b) 16) := ⟨r1, r2, r3, sb⟩
      clear r1 r2 r3 sb x1 x2 x3 x4 x5
      go_wp2_with fail
      go_loopg [41] 48 (fun g s41 wr => ∃ i : Nat, i + g = 48 ∧ s41 = .int .i64 i ∧ SpH wr w g1 g2 g3 b (upto (wf b) (16 + i)))
      case atStart => exact ⟨0, by omega, rfl, H1⟩
      case round =>
       obtain ⟨i, hi, rfl, r1, r2, r3, sb⟩ := hrel
       obtain ⟨x1, x2, x3, x4, x5⟩ := HX.out
       clear H1
       cases gk with
       | zero =>
        obtain rfl : i = 48 := by omega
        clear hi
        (repeat ((fail_if_success with_reducible refine rg ?_); go_step))
        apply wp_region_mixp [] [_] trivial List.nodup_nil
        ·intro p
         refine mx_val (.bool false) (x_lt _ _ _ _ rfl 48 48 rfl rfl false rfl) ?_
         simp only [Act.put, pu]
         refine mx_end ?_
         intro w5 hkw hrw hnew hdis
         replace r1 := hkw.row r1 (by simp <;> omega)
         replace r2 := hkw.row r2 (by simp <;> omega)
         replace r3 := hkw.row r3 (by simp <;> omega)
         replace sb := sb.trans (hkw.below w.heap.size sb.size (by simp <;> omega))
         clear hkw hrw hnew hdis
         (repeat ((fail_if_success with_reducible refine rg ?_); go_step))
         apply wp_region_mixp [(g2, 64, rC .u32 64 fun _ => 0)] [_, _] ⟨r2, trivial⟩ (by simp <;> omega)
         ·intro p
          refine mx_load 64 _ rfl _ rfl r3 (by simp <;> omega) 64 _ Tryd.underlying64 (by rw [rC_size]; exact size_64w) ?_
          simp only [Act.put, pu]
          refine mx_put 0 64 _ _ rfl rfl rfl (rC .u32 64 (upto (wf b) (16 + 48))) rfl (by rw [rC_size]; exact size_64w) (by simp only [rC_size]) (rC_one _ _ _) ?_
          simp only [Act.put]
          refine mx_end ?_
          intro w6 hkw hrw hnew hdis
          have zr2 : Row w6 (g2) (rC .u32 64 (upto (wf b) (16 + 48))) 64 := hrw 0 (64, rC .u32 64 (upto (wf b) (16 + 48))) rfl
          replace sb := sb.trans (hkw.below w.heap.size sb.size (by simp <;> omega))
          clear hkw hrw hnew hdis r2
          have r2 := zr2
          clear zr2
          go_wp2
          exact ret_row rfl _ rfl r2 64 _ Tryd.underlying64 (by rw [rC_size]; exact size_64w) rfl ⟨by rw [rC_congr .u32 64 fun i hi => upto_lt (wf b) (16 + 48) i hi], sb⟩
         ·rfl
        ·rfl
       | succ g =>
        (repeat ((fail_if_success with_reducible refine rg ?_); go_step))
        apply wp_region_mixp [] [_] trivial List.nodup_nil
        ·intro p
         refine mx_val (.bool true) (x_lt _ _ _ _ rfl i 48 rfl rfl true (decide_eq_true (by omega))) ?_
         simp only [Act.put, pu]
         refine mx_end ?_
         intro w5 hkw hrw hnew hdis
         replace r1 := hkw.row r1 (by simp <;> omega)
         replace r2 := hkw.row r2 (by simp <;> omega)
         replace r3 := hkw.row r3 (by simp <;> omega)
         replace sb := sb.trans (hkw.below w.heap.size sb.size (by simp <;> omega))
         clear hkw hrw hnew hdis
         (repeat ((fail_if_success with_reducible refine rg ?_); go_step))
         apply wp_region_mixp [] [_, _] trivial List.nodup_nil
         ·intro p
          refine mx_move rfl rfl ?_
          simp only [Act.put, pu]
          refine mx_asg rfl rfl ?_
          simp only [Act.put, pu]
          refine mx_end ?_
          intro w6 hkw hrw hnew hdis
          replace r1 := hkw.row r1 (by simp <;> omega)
          replace r2 := hkw.row r2 (by simp <;> omega)
          replace r3 := hkw.row r3 (by simp <;> omega)
          replace sb := sb.trans (hkw.below w.heap.size sb.size (by simp <;> omega))
          clear hkw hrw hnew hdis
          (repeat ((fail_if_success with_reducible refine rg ?_); go_step))
          apply wp_region_mixp [] [_, _, _] trivial List.nodup_nil
          ·intro p
           refine mx_move rfl rfl ?_
           simp only [Act.put, pu]
           refine mx_val (.int .i64 (16 + i : Nat)) (xi_add _ _ _ _ rfl 16 i rfl rfl (by omega)) ?_
           simp only [Act.put, pu]
           refine mx_asg rfl rfl ?_
           simp only [Act.put, pu]
           refine mx_end ?_
           intro w7 hkw hrw hnew hdis
           replace r1 := hkw.row r1 (by simp <;> omega)
           replace r2 := hkw.row r2 (by simp <;> omega)
           replace r3 := hkw.row r3 (by simp <;> omega)
           replace sb := sb.trans (hkw.below w.heap.size sb.size (by simp <;> omega))
           clear hkw hrw hnew hdis
           have hN : wf b (16 + i) = (((ss1 (wf b (16 + i - 2)) + wf b (16 + i - 7)) % 4294967296 + ss0 (wf b (16 + i - 15))) % 4294967296 + wf b (16 + i - 16)) % 4294967296 := by
            rw [wf_hi b _ (by omega)]
            generalize ss1 (wf b (16 + i - 2)) = y1
            generalize wf b (16 + i - 7) = y2
            generalize ss0 (wf b (16 + i - 15)) = y3
            generalize wf b (16 + i - 16) = y4
            omega
           (repeat ((fail_if_success with_reducible refine rg ?_); go_step))
           apply wp_region_mix (by kernel_rfl) [(g3, 64, rC .u32 64 (upto (wf b) (16 + i)))] [_, _, _, _, _, _, _, _, _, _, _, _, _, _, _, _, _, _, _, _, _, _, _, _] ⟨r3, trivial⟩ (by simp <;> omega)
           ·intro p
            refine mx_move rfl rfl ?_
            simp only [Act.put, pu]
            refine mx_move rfl rfl ?_
            simp only [Act.put, pu]
            refine mx_val (.int .i64 (16 + i - 2 : Nat)) (xi_sub _ _ _ _ rfl (16 + i) (2) rfl rfl (by omega) (by omega)) ?_
            simp only [Act.put, pu]
            refine mx_val (.pointer (some ⟨g3, 16 + i - 2, none⟩)) (exec_index 64 _ _ rfl (g3) rfl (16 + i - 2) 64 rfl (by omega) _ Tryd.underlying64 Tryd.sizeOf52) ?_
            simp only [Act.put, pu]
            refine mx_loadcT 0 52 _ rfl (16 + i - 2) rfl rfl (.int .u32 (wf b (16 + i - 2) : Nat)) ((rC_get _ _ _ _ (by omega)).trans (by rw [upto_lt _ _ _ (by omega)])) Tryd.isAgg52 ?_
            simp only [Act.put, pu]
            refine mx_call 49 _ _ rfl Tryd.func49 (by kernel_rfl) #[.int .u32 (wf b (16 + i - 2) : Nat)] rfl _ (fun w' => sigma1_any (wf b (16 + i - 2)) w' (wf_lt hb _)) ?_
            simp only [Act.put, pu]
            refine mx_move rfl rfl ?_
            simp only [Act.put, pu]
            refine mx_val (.int .i64 (16 + i - 7 : Nat)) (xi_sub _ _ _ _ rfl (16 + i) (7) rfl rfl (by omega) (by omega)) ?_
            simp only [Act.put, pu]
            refine mx_val (.pointer (some ⟨g3, 16 + i - 7, none⟩)) (exec_index 64 _ _ rfl (g3) rfl (16 + i - 7) 64 rfl (by omega) _ Tryd.underlying64 Tryd.sizeOf52) ?_
            simp only [Act.put, pu]
            refine mx_loadcT 0 52 _ rfl (16 + i - 7) rfl rfl (.int .u32 (wf b (16 + i - 7) : Nat)) ((rC_get _ _ _ _ (by omega)).trans (by rw [upto_lt _ _ _ (by omega)])) Tryd.isAgg52 ?_
            simp only [Act.put, pu]
            refine mx_val (.int .u32 ((ss1 (wf b (16 + i - 2)) + wf b (16 + i - 7)) % 4294967296 : Nat)) (x32_add _ _ _ _ rfl (ss1 (wf b (16 + i - 2))) (wf b (16 + i - 7)) _ rfl rfl rfl) ?_
            simp only [Act.put, pu]
            refine mx_move rfl rfl ?_
            simp only [Act.put, pu]
            refine mx_val (.int .i64 (16 + i - 15 : Nat)) (xi_sub _ _ _ _ rfl (16 + i) (15) rfl rfl (by omega) (by omega)) ?_
            simp only [Act.put, pu]
            refine mx_val (.pointer (some ⟨g3, 16 + i - 15, none⟩)) (exec_index 64 _ _ rfl (g3) rfl (16 + i - 15) 64 rfl (by omega) _ Tryd.underlying64 Tryd.sizeOf52) ?_
            simp only [Act.put, pu]
            refine mx_loadcT 0 52 _ rfl (16 + i - 15) rfl rfl (.int .u32 (wf b (16 + i - 15) : Nat)) ((rC_get _ _ _ _ (by omega)).trans (by rw [upto_lt _ _ _ (by omega)])) Tryd.isAgg52 ?_
            simp only [Act.put, pu]
            refine mx_call 50 _ _ rfl Tryd.func50 (by kernel_rfl) #[.int .u32 (wf b (16 + i - 15) : Nat)] rfl _ (fun w' => sigma0_any (wf b (16 + i - 15)) w' (wf_lt hb _)) ?_
            simp only [Act.put, pu]
            refine mx_val (.int .u32 (((ss1 (wf b (16 + i - 2)) + wf b (16 + i - 7)) % 4294967296 + ss0 (wf b (16 + i - 15))) % 4294967296 : Nat)) (x32_add _ _ _ _ rfl ((ss1 (wf b (16 + i - 2)) + wf b (16 + i - 7)) % 4294967296) (ss0 (wf b (16 + i - 15))) _ rfl rfl rfl) ?_
            simp only [Act.put, pu]
            refine mx_move rfl rfl ?_
            simp only [Act.put, pu]
            refine mx_val (.int .i64 (16 + i - 16 : Nat)) (xi_sub _ _ _ _ rfl (16 + i) (16) rfl rfl (by omega) (by omega)) ?_
            simp only [Act.put, pu]
            refine mx_val (.pointer (some ⟨g3, 16 + i - 16, none⟩)) (exec_index 64 _ _ rfl (g3) rfl (16 + i - 16) 64 rfl (by omega) _ Tryd.underlying64 Tryd.sizeOf52) ?_
            simp only [Act.put, pu]
            refine mx_loadcT 0 52 _ rfl (16 + i - 16) rfl rfl (.int .u32 (wf b (16 + i - 16) : Nat)) ((rC_get _ _ _ _ (by omega)).trans (by rw [upto_lt _ _ _ (by omega)])) Tryd.isAgg52 ?_
            simp only [Act.put, pu]
            refine mx_val (.int .u32 ((((ss1 (wf b (16 + i - 2)) + wf b (16 + i - 7)) % 4294967296 + ss0 (wf b (16 + i - 15))) % 4294967296 + wf b (16 + i - 16)) % 4294967296 : Nat)) (x32_add _ _ _ _ rfl (((ss1 (wf b (16 + i - 2)) + wf b (16 + i - 7)) % 4294967296 + ss0 (wf b (16 + i - 15))) % 4294967296) (wf b (16 + i - 16)) _ rfl rfl rfl) ?_
            simp only [Act.put, pu]
            refine mx_val (.pointer (some ⟨g3, 16 + i, none⟩)) (exec_index 64 _ _ rfl (g3) rfl (16 + i) 64 rfl (by omega) _ Tryd.underlying64 Tryd.sizeOf52) ?_
            simp only [Act.put, pu]
            refine mx_putc 0 52 _ _ rfl (16 + i) rfl rfl .u32 ((((((ss1 (wf b (16 + i - 2)) + wf b (16 + i - 7)) % 4294967296 + ss0 (wf b (16 + i - 15))) % 4294967296 + wf b (16 + i - 16)) % 4294967296 : Nat) : Int)) rfl Tryd.sizeOf52 (by rw [rC_size]; omega) (rC .u32 64 (upto (wf b) (16 + i + 1))) (rC_put _ _ _ _ _ _ (upto_put _ _ _ hN _)) ?_
            simp only [Act.put]
            refine mx_end ?_
            intro w8 hkw hrw hnew hdis
            have zr3 : Row w8 (g3) (rC .u32 64 (upto (wf b) (16 + i + 1))) 64 := hrw 0 (64, rC .u32 64 (upto (wf b) (16 + i + 1))) rfl
            replace r1 := hkw.row r1 (by simp <;> omega)
            replace r2 := hkw.row r2 (by simp <;> omega)
            replace sb := sb.trans (hkw.below w.heap.size sb.size (by simp <;> omega))
            clear hkw hrw hnew hdis r3
            have r3 := zr3
            clear zr3
            (repeat ((fail_if_success with_reducible refine rg ?_); go_step))
            apply wp_region_mixp [] [_, _] trivial List.nodup_nil
            ·intro p
             refine mx_val (.int .i64 (i + 1 : Nat)) (xi_add _ _ _ _ rfl i 1 rfl rfl (by omega)) ?_
             simp only [Act.put, pu]
             refine mx_move rfl rfl ?_
             simp only [Act.put, pu]
             refine mx_end ?_
             intro w9 hkw hrw hnew hdis
             replace r1 := hkw.row r1 (by simp <;> omega)
             replace r2 := hkw.row r2 (by simp <;> omega)
             replace r3 := hkw.row r3 (by simp <;> omega)
             replace sb := sb.trans (hkw.below w.heap.size sb.size (by simp <;> omega))
             clear hkw hrw hnew hdis
             go_wp2
             go_roundg g
             case measure => omega
             case rel => exact ⟨i + 1, by omega, rfl, r1, r2, r3, sb⟩
            ·rfl
           ·kernel_rfl
          ·rfl
         ·rfl
        ·rfl
     ·rfl
    | succ g =>
     (repeat ((fail_if_success with_reducible refine rg ?_); go_step))
     apply wp_region_mixp [] [_] trivial List.nodup_nil
     ·intro p
      refine mx_val (.bool true) (x_lt _ _ _ _ rfl i 16 rfl rfl true (decide_eq_true (by omega))) ?_
      simp only [Act.put, pu]
      refine mx_end ?_
      intro w4 hkw hrw hnew hdis
      replace r1 := hkw.row r1 (by simp <;> omega)
      replace r2 := hkw.row r2 (by simp <;> omega)
      replace r3 := hkw.row r3 (by simp <;> omega)
      replace sb := sb.trans (hkw.below w.heap.size sb.size (by simp <;> omega))
      clear hkw hrw hnew hdis
      (repeat ((fail_if_success with_reducible refine rg ?_); go_step))
      apply wp_region_mixp [] [_, _] trivial List.nodup_nil
      ·intro p
       refine mx_move rfl rfl ?_
       simp only [Act.put, pu]
       refine mx_asg rfl rfl ?_
       simp only [Act.put, pu]
       refine mx_end ?_
       intro w5 hkw hrw hnew hdis
       replace r1 := hkw.row r1 (by simp <;> omega)
       replace r2 := hkw.row r2 (by simp <;> omega)
       replace r3 := hkw.row r3 (by simp <;> omega)
       replace sb := sb.trans (hkw.below w.heap.size sb.size (by simp <;> omega))
       clear hkw hrw hnew hdis
       (repeat ((fail_if_success with_reducible refine rg ?_); go_step))
       apply wp_region_mixp [] [_, _, _] trivial List.nodup_nil
       ·intro p
        refine mx_move rfl rfl ?_
        simp only [Act.put, pu]
        refine mx_val (.int .i64 (i * 4 : Nat)) (xi_mul _ _ _ _ rfl i 4 _ rfl rfl rfl (by omega)) ?_
        simp only [Act.put, pu]
        refine mx_asg rfl rfl ?_
        simp only [Act.put, pu]
        refine mx_end ?_
        intro w6 hkw hrw hnew hdis
        replace r1 := hkw.row r1 (by simp <;> omega)
        replace r2 := hkw.row r2 (by simp <;> omega)
        replace r3 := hkw.row r3 (by simp <;> omega)
        replace sb := sb.trans (hkw.below w.heap.size sb.size (by simp <;> omega))
        clear hkw hrw hnew hdis
        have hN : wf b i = ((((b (i * 4)) * 2 ^ 24) ||| ((b (i * 4 + 1)) * 2 ^ 16)) ||| ((b (i * 4 + 2)) * 2 ^ 8)) ||| (b (i * 4 + 3)) := by
         rw [wf_lo b i (by omega)]
         unfold wrd
         rw [Nat.mul_comm 4 i]
        (repeat ((fail_if_success with_reducible refine rg ?_); go_step))
        apply wp_region_mix (by kernel_rfl) [(g3, 64, rC .u32 64 (upto (wf b) i))] [_, _, _, _, _, _, _, _, _, _, _, _, _, _, _, _, _, _, _, _, _, _, _, _, _, _, _, _] ⟨r3, trivial⟩ (by simp <;> omega)
        ·intro p
         refine mx_move rfl rfl ?_
         simp only [Act.put, pu]
         refine mx_move rfl rfl ?_
         simp only [Act.put, pu]
         refine mx_val (.pointer (some ⟨g1, i * 4, none⟩)) (exec_index 43 _ _ rfl (g1) rfl (i * 4) 64 rfl (by omega) _ Tryd.underlying43 Tryd.sizeOf5) ?_
         simp only [Act.put, pu]
         refine mx_loadc 5 _ rfl _ (i * 4) rfl r1 (by simp <;> omega) (.int .u8 (b (i * 4) : Nat)) (rC_get _ _ _ _ (by omega)) Tryd.isAgg5 ?_
         simp only [Act.put, pu]
         refine mx_val (.int .u32 (b (i * 4) : Nat)) (x_conv _ _ _ rfl .u8 .u32 Tryd.underlying5 Tryd.underlying52 ((b (i * 4) : Nat) : Int) _ rfl (wrp32 _ _ (Nat.mod_eq_of_lt (by have := (hb (i * 4)); omega)))) ?_
         simp only [Act.put, pu]
         refine mx_val (.int .u32 ((b (i * 4)) * 2 ^ 24 : Nat)) (x32_shl _ _ _ _ rfl (b (i * 4)) (24) _ .u64 rfl rfl (by omega) (by have := (hb (i * 4)); omega)) ?_
         simp only [Act.put, pu]
         refine mx_move rfl rfl ?_
         simp only [Act.put, pu]
         refine mx_val (.int .i64 (i * 4 + 1 : Nat)) (xi_add _ _ _ _ rfl (i * 4) (1) rfl rfl (by omega)) ?_
         simp only [Act.put, pu]
         refine mx_val (.pointer (some ⟨g1, i * 4 + 1, none⟩)) (exec_index 43 _ _ rfl (g1) rfl (i * 4 + 1) 64 rfl (by omega) _ Tryd.underlying43 Tryd.sizeOf5) ?_
         simp only [Act.put, pu]
         refine mx_loadc 5 _ rfl _ (i * 4 + 1) rfl r1 (by simp <;> omega) (.int .u8 (b (i * 4 + 1) : Nat)) (rC_get _ _ _ _ (by omega)) Tryd.isAgg5 ?_
         simp only [Act.put, pu]
         refine mx_val (.int .u32 (b (i * 4 + 1) : Nat)) (x_conv _ _ _ rfl .u8 .u32 Tryd.underlying5 Tryd.underlying52 ((b (i * 4 + 1) : Nat) : Int) _ rfl (wrp32 _ _ (Nat.mod_eq_of_lt (by have := (hb (i * 4 + 1)); omega)))) ?_
         simp only [Act.put, pu]
         refine mx_val (.int .u32 ((b (i * 4 + 1)) * 2 ^ 16 : Nat)) (x32_shl _ _ _ _ rfl (b (i * 4 + 1)) (16) _ .u64 rfl rfl (by omega) (by have := (hb (i * 4 + 1)); omega)) ?_
         simp only [Act.put, pu]
         refine mx_val (.int .u32 (((b (i * 4)) * 2 ^ 24) ||| ((b (i * 4 + 1)) * 2 ^ 16) : Nat)) (x32_or _ _ _ _ rfl ((b (i * 4)) * 2 ^ 24) ((b (i * 4 + 1)) * 2 ^ 16) rfl rfl (by have := (hb (i * 4)); omega) (by have := (hb (i * 4 + 1)); omega)) ?_
         simp only [Act.put, pu]
         refine mx_move rfl rfl ?_
         simp only [Act.put, pu]
         refine mx_val (.int .i64 (i * 4 + 2 : Nat)) (xi_add _ _ _ _ rfl (i * 4) (2) rfl rfl (by omega)) ?_
         simp only [Act.put, pu]
         refine mx_val (.pointer (some ⟨g1, i * 4 + 2, none⟩)) (exec_index 43 _ _ rfl (g1) rfl (i * 4 + 2) 64 rfl (by omega) _ Tryd.underlying43 Tryd.sizeOf5) ?_
         simp only [Act.put, pu]
         refine mx_loadc 5 _ rfl _ (i * 4 + 2) rfl r1 (by simp <;> omega) (.int .u8 (b (i * 4 + 2) : Nat)) (rC_get _ _ _ _ (by omega)) Tryd.isAgg5 ?_
         simp only [Act.put, pu]
         refine mx_val (.int .u32 (b (i * 4 + 2) : Nat)) (x_conv _ _ _ rfl .u8 .u32 Tryd.underlying5 Tryd.underlying52 ((b (i * 4 + 2) : Nat) : Int) _ rfl (wrp32 _ _ (Nat.mod_eq_of_lt (by have := (hb (i * 4 + 2)); omega)))) ?_
         simp only [Act.put, pu]
         refine mx_val (.int .u32 ((b (i * 4 + 2)) * 2 ^ 8 : Nat)) (x32_shl _ _ _ _ rfl (b (i * 4 + 2)) (8) _ .u64 rfl rfl (by omega) (by have := (hb (i * 4 + 2)); omega)) ?_
         simp only [Act.put, pu]
         refine mx_val (.int .u32 ((((b (i * 4)) * 2 ^ 24) ||| ((b (i * 4 + 1)) * 2 ^ 16)) ||| ((b (i * 4 + 2)) * 2 ^ 8) : Nat)) (x32_or _ _ _ _ rfl (((b (i * 4)) * 2 ^ 24) ||| ((b (i * 4 + 1)) * 2 ^ 16)) ((b (i * 4 + 2)) * 2 ^ 8) rfl rfl (or32 (by have := (hb (i * 4)); omega) (by have := (hb (i * 4 + 1)); omega)) (by have := (hb (i * 4 + 2)); omega)) ?_
         simp only [Act.put, pu]
         refine mx_move rfl rfl ?_
         simp only [Act.put, pu]
         refine mx_val (.int .i64 (i * 4 + 3 : Nat)) (xi_add _ _ _ _ rfl (i * 4) (3) rfl rfl (by omega)) ?_
         simp only [Act.put, pu]
         refine mx_val (.pointer (some ⟨g1, i * 4 + 3, none⟩)) (exec_index 43 _ _ rfl (g1) rfl (i * 4 + 3) 64 rfl (by omega) _ Tryd.underlying43 Tryd.sizeOf5) ?_
         simp only [Act.put, pu]
         refine mx_loadc 5 _ rfl _ (i * 4 + 3) rfl r1 (by simp <;> omega) (.int .u8 (b (i * 4 + 3) : Nat)) (rC_get _ _ _ _ (by omega)) Tryd.isAgg5 ?_
         simp only [Act.put, pu]
         refine mx_val (.int .u32 (b (i * 4 + 3) : Nat)) (x_conv _ _ _ rfl .u8 .u32 Tryd.underlying5 Tryd.underlying52 ((b (i * 4 + 3) : Nat) : Int) _ rfl (wrp32 _ _ (Nat.mod_eq_of_lt (by have := (hb (i * 4 + 3)); omega)))) ?_
         simp only [Act.put, pu]
         refine mx_val (.int .u32 (((((b (i * 4)) * 2 ^ 24) ||| ((b (i * 4 + 1)) * 2 ^ 16)) ||| ((b (i * 4 + 2)) * 2 ^ 8)) ||| (b (i * 4 + 3)) : Nat)) (x32_or _ _ _ _ rfl ((((b (i * 4)) * 2 ^ 24) ||| ((b (i * 4 + 1)) * 2 ^ 16)) ||| ((b (i * 4 + 2)) * 2 ^ 8)) (b (i * 4 + 3)) rfl rfl (or32 (or32 (by have := (hb (i * 4)); omega) (by have := (hb (i * 4 + 1)); omega)) (by have := (hb (i * 4 + 2)); omega)) (lt8 (hb (i * 4 + 3)))) ?_
         simp only [Act.put, pu]
         refine mx_val (.pointer (some ⟨g3, i, none⟩)) (exec_index 64 _ _ rfl (g3) rfl (i) 64 rfl (by omega) _ Tryd.underlying64 Tryd.sizeOf52) ?_
         simp only [Act.put, pu]
         refine mx_putc 0 52 _ _ rfl (i) rfl rfl .u32 (((((((b (i * 4)) * 2 ^ 24) ||| ((b (i * 4 + 1)) * 2 ^ 16)) ||| ((b (i * 4 + 2)) * 2 ^ 8)) ||| (b (i * 4 + 3)) : Nat) : Int)) rfl Tryd.sizeOf52 (by rw [rC_size]; omega) (rC .u32 64 (upto (wf b) (i + 1))) (rC_put _ _ _ _ _ _ (upto_put _ _ _ hN _)) ?_
         simp only [Act.put]
         refine mx_end ?_
         intro w7 hkw hrw hnew hdis
         have zr3 : Row w7 (g3) (rC .u32 64 (upto (wf b) (i + 1))) 64 := hrw 0 (64, rC .u32 64 (upto (wf b) (i + 1))) rfl
         replace r1 := hkw.row r1 (by simp <;> omega)
         replace r2 := hkw.row r2 (by simp <;> omega)
         replace sb := sb.trans (hkw.below w.heap.size sb.size (by simp <;> omega))
         clear hkw hrw hnew hdis r3
         have r3 := zr3
         clear zr3
         (repeat ((fail_if_success with_reducible refine rg ?_); go_step))
         apply wp_region_mixp [] [_, _] trivial List.nodup_nil
         ·intro p
          refine mx_val (.int .i64 (i + 1 : Nat)) (xi_add _ _ _ _ rfl i 1 rfl rfl (by omega)) ?_
          simp only [Act.put, pu]
          refine mx_move rfl rfl ?_
          simp only [Act.put, pu]
          refine mx_end ?_
          intro w8 hkw hrw hnew hdis
          replace r1 := hkw.row r1 (by simp <;> omega)
          replace r2 := hkw.row r2 (by simp <;> omega)
          replace r3 := hkw.row r3 (by simp <;> omega)
          replace sb := sb.trans (hkw.below w.heap.size sb.size (by simp <;> omega))
          clear hkw hrw hnew hdis
          go_wp2
          go_roundg g
          case measure => omega
          case rel => exact ⟨i + 1, by omega, rfl, r1, r2, r3, sb⟩
         ·rfl
        ·kernel_rfl
       ·rfl
      ·rfl
     ·rfl
  ·rfl
 ·rfl
end Go.Proofs.YtdanmnhknmepiaaDoor
