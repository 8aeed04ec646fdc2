/- sha's mixed: the eight words behind one more block. -/
import Derived.Test.YtdanmnhknmepiaaDoorSSpread
namespace Go.Proofs.YtdanmnhknmepiaaDoor
open Go.RowKit
set_option linter.unusedVariables false
/-- The constants lie where the program's variable lies. -/
def KT (w : World) : Prop := ∃ cs t, RowR w 0 cs t ∧ ∀ i, i < 64 → cs[i]? = some (.int .u32 (kf i : Nat))
theorem KT.below {w w2 : World} (h : KT w) (hb : Below w.heap.size w w2) : KT w2 := by
 obtain ⟨cs, t, r, hk⟩ := h
 exact ⟨cs, t, r.belowAll hb, hk⟩
theorem KT.kept {w w2 : World} {S : List Nat} (h : KT w) (hk : Kept S w w2) (hS : 0 ∉ S) : KT w2 := by
 obtain ⟨cs, t, r, hc⟩ := h
 exact ⟨cs, t, hk.rowR r hS, hc⟩
theorem KT.lt {w : World} (h : KT w) : 0 < w.heap.size := by
 obtain ⟨cs, t, r, hc⟩ := h
 exact r.lt
/-- One up to a place, the other one behind it. -/
def mixu (F G : Nat → Nat) (i j : Nat) : Nat := if j < i then F j else G j
theorem mixu_put (F G : Nat → Nat) (i N : Nat) (hN : F i = N) (n : Nat) : ∀ j, j < n → mixu F G (i + 1) j = if j = i then N else mixu F G i j := by
 intro j _
 unfold mixu
 by_cases e : j = i
 ·subst e; rw [if_pos rfl, if_pos (by omega), hN]
 ·rw [if_neg e]
  by_cases h : j < i
  ·rw [if_pos h, if_pos (by omega)]
  ·rw [if_neg h, if_neg (by omega)]
theorem mixu_lt (F G : Nat → Nat) (i j : Nat) (h : j < i) : mixu F G i j = F j := if_pos h
theorem mixu_ge (F G : Nat → Nat) (i j : Nat) (h : i ≤ j) : mixu F G i j = G j := if_neg (by omega)
theorem mixu_zero (F G : Nat → Nat) : mixu F G 0 = G := by funext j; unfold mixu; rw [if_neg (by omega)]
theorem stp_a (v : Nat → Nat) (k w : Nat) : stp v k w 0 = ((((((v 7 + bs1 (v 4)) % 4294967296 + chf (v 4) (v 5) (v 6)) % 4294967296 + k) % 4294967296 + w) % 4294967296) + (bs0 (v 0) + mjf (v 0) (v 1) (v 2)) % 4294967296) % 4294967296 := by
 show (t1f v k w + t2f v) % 4294967296 = _
 unfold t1f t2f
 generalize bs1 (v 4) = y1
 generalize chf (v 4) (v 5) (v 6) = y2
 generalize bs0 (v 0) = y3
 generalize mjf (v 0) (v 1) (v 2) = y4
 omega
theorem stp_e (v : Nat → Nat) (k w : Nat) : stp v k w 4 = (v 3 + ((((v 7 + bs1 (v 4)) % 4294967296 + chf (v 4) (v 5) (v 6)) % 4294967296 + k) % 4294967296 + w) % 4294967296) % 4294967296 := by
 show (v 3 + t1f v k w) % 4294967296 = _
 unfold t1f
 generalize bs1 (v 4) = y1
 generalize chf (v 4) (v 5) (v 6) = y2
 omega
/-- The rows that mixed holds on to. -/
structure MiH (wr w : World) (g2 g3 g4 g5 : Nat) (b v : Nat → Nat) : Prop where
 r2 : Row wr g2 (rC .u32 8 v) 53
 r3 : Row wr g3 (rC .u8 64 b) 43
 r4 : Row wr g4 (rC .u32 8 fun _ => 0) 53
 r5 : Row wr g5 (rC .u32 64 (wf b)) 64
 below : Below w.heap.size w wr
set_option maxRecDepth 100000 in
set_option maxHeartbeats 2000000 in
theorem mixed_any (v b : Nat → Nat) (hv : ∀ i, v i < 4294967296) (hb : ∀ i, b i < 256) (w : World) (kT : KT w) :
  Calls Tryd.prog 36 #[.agg (rC .u32 8 v), .agg (rC .u8 64 b)] w fun e w' => e = .returned (.agg (rC .u32 8 (cmp v b))) ∧ Below w.heap.size w w' := by
 go_enter Tryd.func36, Tryd.ntmps36
 (repeat ((fail_if_success with_reducible refine rg ?_); go_step))
 apply wp_region_mixp [] [_, _, _] trivial List.nodup_nil
 ·intro p
  refine mx_box 53 _ rfl _ rfl ?_
  simp only [Act.put, pu]
  refine mx_box 43 _ rfl _ rfl ?_
  simp only [Act.put, pu]
  refine mx_new 53 rfl _ zero_8w ?_
  simp only [Act.put, pu]
  refine mx_end ?_
  intro w2 hkw hrw hnew hdis
  have n2 := hnew 0 rfl
  have n3 := hnew 1 rfl
  have n4 := hnew 2 rfl
  have zr2 : Row w2 (p 0) (rC .u32 8 v) 53 := hrw 1 (53, rC .u32 8 v) rfl
  have zr3 : Row w2 (p 1) (rC .u8 64 b) 43 := hrw 3 (43, rC .u8 64 b) rfl
  have zr4 : Row w2 (p 2) (rC .u32 8 fun _ => 0) 53 := hrw 5 (53, rC .u32 8 fun _ => 0) rfl
  have d2x3 := hdis 0 1 (by omega) rfl rfl
  have d2x4 := hdis 0 2 (by omega) rfl rfl
  have d3x4 := hdis 1 2 (by omega) rfl rfl
  have sb := hkw.below w.heap.size (Nat.le_refl _) (by simp)
  have b2 : w.heap.size ≤ p 0 := n2
  have b3 : w.heap.size ≤ p 1 := n3
  have b4 : w.heap.size ≤ p 2 := n4
  clear hkw hrw hnew hdis n2 n3 n4
  generalize p 0 = g2 at *
  generalize p 1 = g3 at *
  generalize p 2 = g4 at *
  have r2 := zr2
  clear zr2
  have r3 := zr3
  clear zr3
  have r4 := zr4
  clear zr4
  (repeat ((fail_if_success with_reducible refine rg ?_); go_step))
  apply wp_region_mixp [] [_, _, _, _] trivial List.nodup_nil
  ·intro p
   refine mx_load 43 _ rfl _ rfl r3 (by simp <;> omega) 64 _ Tryd.underlying43 (by rw [rC_size]; exact size_64b) ?_
   simp only [Act.put, pu]
   refine mx_call 41 _ _ rfl Tryd.func41 (by kernel_rfl) #[.agg (rC .u8 64 b)] rfl _ (fun w' => spread_any b hb w') ?_
   simp only [Act.put, pu]
   refine mx_new 64 rfl _ zero_64w ?_
   simp only [Act.put, pu]
   refine mx_put 5 64 _ _ rfl rfl rfl (rC .u32 64 (wf b)) rfl (by rw [rC_size]; exact size_64w) (by simp only [rC_size]) (rC_one _ _ _) ?_
   simp only [Act.put]
   refine mx_end ?_
   intro w3 hkw hrw hnew hdis
   have n5 := hnew 2 rfl
   have zr5 : Row w3 (p 2) (rC .u32 64 (wf b)) 64 := hrw 5 (64, rC .u32 64 (wf b)) rfl
   have d2x5 := Nat.lt_of_lt_of_le r2.lt n5
   have d3x5 := Nat.lt_of_lt_of_le r3.lt n5
   have d4x5 := Nat.lt_of_lt_of_le r4.lt n5
   replace r2 := hkw.row r2 (by simp <;> omega)
   replace r3 := hkw.row r3 (by simp <;> omega)
   replace r4 := hkw.row r4 (by simp <;> omega)
   have b5 := Nat.le_trans sb.size n5
   replace sb := sb.trans (hkw.below w.heap.size sb.size (by simp <;> omega))
   clear hkw hrw hnew hdis n5
   generalize p 2 = g5 at *
   have r5 := zr5
   clear zr5
   (repeat ((fail_if_success with_reducible refine rg ?_); go_step))
   refine wp_region_qw (by kernel_rfl) (by kernel_rfl) ?_
   refine qw_value (by rfl) (.pointer (some ⟨g2, 0, none⟩)) (exec_index 53 _ _ rfl (g2) rfl (0) 8 rfl (by omega) _ Tryd.underlying53 Tryd.sizeOf52) ?_
   simp only [Act.put, pu]
   refine qw_loadc (by rfl) 52 _ rfl _ (0) rfl r2 (.int .u32 (v 0 : Nat)) (rC_get _ _ _ _ (by omega)) Tryd.isAgg52 ?_
   simp only [Act.put, pu]
   refine qw_value (by rfl) (.pointer (some ⟨g2, 1, none⟩)) (exec_index 53 _ _ rfl (g2) rfl (1) 8 rfl (by omega) _ Tryd.underlying53 Tryd.sizeOf52) ?_
   simp only [Act.put, pu]
   refine qw_loadc (by rfl) 52 _ rfl _ (1) rfl r2 (.int .u32 (v 1 : Nat)) (rC_get _ _ _ _ (by omega)) Tryd.isAgg52 ?_
   simp only [Act.put, pu]
   refine qw_value (by rfl) (.pointer (some ⟨g2, 2, none⟩)) (exec_index 53 _ _ rfl (g2) rfl (2) 8 rfl (by omega) _ Tryd.underlying53 Tryd.sizeOf52) ?_
   simp only [Act.put, pu]
   refine qw_loadc (by rfl) 52 _ rfl _ (2) rfl r2 (.int .u32 (v 2 : Nat)) (rC_get _ _ _ _ (by omega)) Tryd.isAgg52 ?_
   simp only [Act.put, pu]
   refine qw_value (by rfl) (.pointer (some ⟨g2, 3, none⟩)) (exec_index 53 _ _ rfl (g2) rfl (3) 8 rfl (by omega) _ Tryd.underlying53 Tryd.sizeOf52) ?_
   simp only [Act.put, pu]
   refine qw_loadc (by rfl) 52 _ rfl _ (3) rfl r2 (.int .u32 (v 3 : Nat)) (rC_get _ _ _ _ (by omega)) Tryd.isAgg52 ?_
   simp only [Act.put, pu]
   refine qw_asg (by rfl) rfl rfl ?_
   simp only [Act.put, pu]
   refine qw_asg (by rfl) rfl rfl ?_
   simp only [Act.put, pu]
   refine qw_asg (by rfl) rfl rfl ?_
   simp only [Act.put, pu]
   refine qw_asg (by rfl) rfl rfl ?_
   simp only [Act.put, pu]
   refine qw_nil ?_
   intro w4 hqb
   replace r2 := r2.belowAll hqb
   replace r3 := r3.belowAll hqb
   replace r4 := r4.belowAll hqb
   replace r5 := r5.belowAll hqb
   replace sb := below_on sb (Nat.le_refl _) hqb
   clear hqb
   (repeat ((fail_if_success with_reducible refine rg ?_); go_step))
   refine wp_region_qw (by kernel_rfl) (by kernel_rfl) ?_
   refine qw_value (by rfl) (.pointer (some ⟨g2, 4, none⟩)) (exec_index 53 _ _ rfl (g2) rfl (4) 8 rfl (by omega) _ Tryd.underlying53 Tryd.sizeOf52) ?_
   simp only [Act.put, pu]
   refine qw_loadc (by rfl) 52 _ rfl _ (4) rfl r2 (.int .u32 (v 4 : Nat)) (rC_get _ _ _ _ (by omega)) Tryd.isAgg52 ?_
   simp only [Act.put, pu]
   refine qw_value (by rfl) (.pointer (some ⟨g2, 5, none⟩)) (exec_index 53 _ _ rfl (g2) rfl (5) 8 rfl (by omega) _ Tryd.underlying53 Tryd.sizeOf52) ?_
   simp only [Act.put, pu]
   refine qw_loadc (by rfl) 52 _ rfl _ (5) rfl r2 (.int .u32 (v 5 : Nat)) (rC_get _ _ _ _ (by omega)) Tryd.isAgg52 ?_
   simp only [Act.put, pu]
   refine qw_value (by rfl) (.pointer (some ⟨g2, 6, none⟩)) (exec_index 53 _ _ rfl (g2) rfl (6) 8 rfl (by omega) _ Tryd.underlying53 Tryd.sizeOf52) ?_
   simp only [Act.put, pu]
   refine qw_loadc (by rfl) 52 _ rfl _ (6) rfl r2 (.int .u32 (v 6 : Nat)) (rC_get _ _ _ _ (by omega)) Tryd.isAgg52 ?_
   simp only [Act.put, pu]
   refine qw_value (by rfl) (.pointer (some ⟨g2, 7, none⟩)) (exec_index 53 _ _ rfl (g2) rfl (7) 8 rfl (by omega) _ Tryd.underlying53 Tryd.sizeOf52) ?_
   simp only [Act.put, pu]
   refine qw_loadc (by rfl) 52 _ rfl _ (7) rfl r2 (.int .u32 (v 7 : Nat)) (rC_get _ _ _ _ (by omega)) Tryd.isAgg52 ?_
   simp only [Act.put, pu]
   refine qw_asg (by rfl) rfl rfl ?_
   simp only [Act.put, pu]
   refine qw_asg (by rfl) rfl rfl ?_
   simp only [Act.put, pu]
   refine qw_asg (by rfl) rfl rfl ?_
   simp only [Act.put, pu]
   refine qw_asg (by rfl) rfl rfl ?_
   simp only [Act.put, pu]
   refine qw_nil ?_
   intro w5 hqb
   replace r2 := r2.belowAll hqb
   replace r3 := r3.belowAll hqb
   replace r4 := r4.belowAll hqb
   replace r5 := r5.belowAll hqb
   replace sb := below_on sb (Nat.le_refl _) hqb
   clear hqb
   have H0 : MiH w5 w g2 g3 g4 g5 b v := ⟨r2, r3, r4, r5, sb⟩
   have HX : Hid (g2 ≠ g4 ∧ g5 ≠ g4 ∧ g3 ≠ g4 ∧ g3 ≠ g2 ∧ g4 ≠ g2 ∧ g5 ≠ g2 ∧ w.heap.size ≤ g2 ∧ w.heap.size ≤ g4) := ⟨by omega, by omega, by omega, by omega, by omega, by omega, b2, b4⟩
   clear r2 r3 r4 r5 sb b2 b3 b4 b5 d2x3 d2x4 d3x4 d2x5 d3x5 d4x5
   go_wp2_with fail
   go_loopg [6, 7, 8, 9, 10, 11, 12, 13, 37] 64 (fun g s6 s7 s8 s9 s10 s11 s12 s13 s37 wr => ∃ t : Nat, t + g = 64 ∧ s37 = .int .i64 t ∧ s6 = .int .u32 (rnd (wf b) v t 0 : Nat) ∧ s7 = .int .u32 (rnd (wf b) v t 1 : Nat) ∧ s8 = .int .u32 (rnd (wf b) v t 2 : Nat) ∧ s9 = .int .u32 (rnd (wf b) v t 3 : Nat) ∧ s10 = .int .u32 (rnd (wf b) v t 4 : Nat) ∧ s11 = .int .u32 (rnd (wf b) v t 5 : Nat) ∧ s12 = .int .u32 (rnd (wf b) v t 6 : Nat) ∧ s13 = .int .u32 (rnd (wf b) v t 7 : Nat) ∧ MiH wr w g2 g3 g4 g5 b v)
   case atStart => exact ⟨0, by omega, rfl, rfl, rfl, rfl, rfl, rfl, rfl, rfl, rfl, H0⟩
   case round =>
    obtain ⟨t, ht, rfl, rfl, rfl, rfl, rfl, rfl, rfl, rfl, rfl, r2, r3, r4, r5, sb⟩ := hrel
    have hV : ∀ i, rnd (wf b) v t i < 4294967296 := rnd_lt hv t
    clear H0
    cases gk with
    | zero =>
     obtain rfl : t = 64 := by omega
     clear ht
     have HC : Hid (∀ i, cmp v b i = (v i + rnd (wf b) v 64 i) % 4294967296) := fun _ => rfl
     generalize rnd (wf b) v 64 = V at *
     (repeat ((fail_if_success with_reducible refine rg ?_); go_step))
     apply wp_region_mixp [] [_] trivial List.nodup_nil
     ·intro p
      refine mx_val (.bool false) (x_lt _ _ _ _ rfl 64 64 rfl rfl false rfl) ?_
      simp only [Act.put, pu]
      refine mx_end ?_
      intro w6 hkw hrw hnew hdis
      replace r2 := hkw.row r2 (by simp <;> omega)
      replace r3 := hkw.row r3 (by simp <;> omega)
      replace r4 := hkw.row r4 (by simp <;> omega)
      replace r5 := hkw.row r5 (by simp <;> omega)
      replace sb := sb.trans (hkw.below w.heap.size sb.size (by simp <;> omega))
      clear hkw hrw hnew hdis
      (repeat ((fail_if_success with_reducible refine rg ?_); go_step))
      apply wp_region_mixp [] [_, _, _, _, _, _, _, _, _, _, _] trivial List.nodup_nil
      ·intro p
       refine mx_move rfl rfl ?_
       simp only [Act.put, pu]
       refine mx_move rfl rfl ?_
       simp only [Act.put, pu]
       refine mx_move rfl rfl ?_
       simp only [Act.put, pu]
       refine mx_move rfl rfl ?_
       simp only [Act.put, pu]
       refine mx_move rfl rfl ?_
       simp only [Act.put, pu]
       refine mx_move rfl rfl ?_
       simp only [Act.put, pu]
       refine mx_move rfl rfl ?_
       simp only [Act.put, pu]
       refine mx_move rfl rfl ?_
       simp only [Act.put, pu]
       refine mx_val (.agg (rC .u32 8 V)) (exec_build _ [(0, .tmp 77), (1, .tmp 78), (2, .tmp 79), (3, .tmp 80), (4, .tmp 81), (5, .tmp 82), (6, .tmp 83), (7, .tmp 84)] rfl _ rfl _ (built_8w V)) ?_
       simp only [Act.put, pu]
       refine mx_new 53 rfl _ zero_8w ?_
       simp only [Act.put, pu]
       refine mx_put 19 53 _ _ rfl rfl rfl (rC .u32 8 V) rfl (by rw [rC_size]; exact size_8w) (by simp only [rC_size]) (rC_one _ _ _) ?_
       simp only [Act.put]
       refine mx_end ?_
       intro w7 hkw hrw hnew hdis
       have n17 := hnew 9 rfl
       have zr17 : Row w7 (p 9) (rC .u32 8 V) 53 := hrw 19 (53, rC .u32 8 V) rfl
       have d2x17 := Nat.lt_of_lt_of_le r2.lt n17
       have d3x17 := Nat.lt_of_lt_of_le r3.lt n17
       have d4x17 := Nat.lt_of_lt_of_le r4.lt n17
       have d5x17 := Nat.lt_of_lt_of_le r5.lt n17
       replace r2 := hkw.row r2 (by simp <;> omega)
       replace r3 := hkw.row r3 (by simp <;> omega)
       replace r4 := hkw.row r4 (by simp <;> omega)
       replace r5 := hkw.row r5 (by simp <;> omega)
       have b17 := Nat.le_trans sb.size n17
       replace sb := sb.trans (hkw.below w.heap.size sb.size (by simp <;> omega))
       clear hkw hrw hnew hdis n17
       generalize p 9 = g17 at *
       have r17 := zr17
       clear zr17
       have H1 : MiH w7 w g2 g3 g4 g5 b (mixu (fun j => (v j + V j) % 4294967296) v 0) := ⟨by rw [mixu_zero]; exact r2, r3, r4, r5, sb⟩
       have H2 : Row w7 g17 (rC .u32 8 V) 53 := r17
       have HY : Hid (g17 ≠ g2 ∧ g17 ≠ g4) := ⟨by omega, by omega⟩
       clear r2 r3 r4 r5 r17 sb b17 d2x17 d3x17 d4x17 d5x17
       go_wp2_with fail
       go_loopg [86] 8 (fun g s86 wr => ∃ i : Nat, i + g = 8 ∧ s86 = .int .i64 i ∧ MiH wr w g2 g3 g4 g5 b (mixu (fun j => (v j + V j) % 4294967296) v i) ∧ Row wr g17 (rC .u32 8 V) 53)
       case atStart => exact ⟨0, by omega, rfl, H1, H2⟩
       case round =>
        obtain ⟨i, hi, rfl, ⟨r2, r3, r4, r5, sb⟩, r17⟩ := hrel
        obtain ⟨x1, x2, x3, x4, x5, x6, x7, x8⟩ := HX.out
        obtain ⟨y1, y2⟩ := HY.out
        clear H1 H2
        cases gk with
        | zero =>
         obtain rfl : i = 8 := by omega
         clear hi
         (repeat ((fail_if_success with_reducible refine rg ?_); go_step))
         apply wp_region_mixp [] [_] trivial List.nodup_nil
         ·intro p
          refine mx_val (.bool false) (x_lt _ _ _ _ rfl 8 8 rfl rfl false rfl) ?_
          simp only [Act.put, pu]
          refine mx_end ?_
          intro w8 hkw hrw hnew hdis
          replace r2 := hkw.row r2 (by simp <;> omega)
          replace r3 := hkw.row r3 (by simp <;> omega)
          replace r4 := hkw.row r4 (by simp <;> omega)
          replace r5 := hkw.row r5 (by simp <;> omega)
          replace sb := sb.trans (hkw.below w.heap.size sb.size (by simp <;> omega))
          clear hkw hrw hnew hdis
          (repeat ((fail_if_success with_reducible refine rg ?_); go_step))
          apply wp_region_mixp [(g4, 53, rC .u32 8 fun _ => 0)] [_, _] ⟨r4, trivial⟩ (by simp <;> omega)
          ·intro p
           refine mx_load 53 _ rfl _ rfl r2 (by simp <;> omega) 8 _ Tryd.underlying53 (by rw [rC_size]; exact size_8w) ?_
           simp only [Act.put, pu]
           refine mx_put 0 53 _ _ rfl rfl rfl (rC .u32 8 (mixu (fun j => (v j + V j) % 4294967296) v 8)) rfl (by rw [rC_size]; exact size_8w) (by simp only [rC_size]) (rC_one _ _ _) ?_
           simp only [Act.put]
           refine mx_end ?_
           intro w9 hkw hrw hnew hdis
           have zr4 : Row w9 (g4) (rC .u32 8 (mixu (fun j => (v j + V j) % 4294967296) v 8)) 53 := hrw 0 (53, rC .u32 8 (mixu (fun j => (v j + V j) % 4294967296) v 8)) rfl
           replace sb := sb.trans (hkw.below w.heap.size sb.size (by simp <;> omega))
           clear hkw hrw hnew hdis r4
           have r4 := zr4
           clear zr4
           go_wp2
           exact ret_row rfl _ rfl r4 8 _ Tryd.underlying53 (by rw [rC_size]; exact size_8w) rfl ⟨by rw [rC_congr .u32 8 fun i hi => (mixu_lt _ v 8 i hi).trans (HC.out i).symm], sb⟩
          ·rfl
         ·rfl
        | succ g =>
         (repeat ((fail_if_success with_reducible refine rg ?_); go_step))
         apply wp_region_mixp [] [_] trivial List.nodup_nil
         ·intro p
          refine mx_val (.bool true) (x_lt _ _ _ _ rfl i 8 rfl rfl true (decide_eq_true (by omega))) ?_
          simp only [Act.put, pu]
          refine mx_end ?_
          intro w8 hkw hrw hnew hdis
          replace r2 := hkw.row r2 (by simp <;> omega)
          replace r3 := hkw.row r3 (by simp <;> omega)
          replace r4 := hkw.row r4 (by simp <;> omega)
          replace r5 := hkw.row r5 (by simp <;> omega)
          replace r17 := hkw.row r17 (by simp <;> omega)
          replace sb := sb.trans (hkw.below w.heap.size sb.size (by simp <;> omega))
          clear hkw hrw hnew hdis
          (repeat ((fail_if_success with_reducible refine rg ?_); go_step))
          apply wp_region_mixp [] [_, _] trivial List.nodup_nil
          ·intro p
           refine mx_move rfl rfl ?_
           simp only [Act.put, pu]
           refine mx_asg rfl rfl ?_
           simp only [Act.put, pu]
           refine mx_end ?_
           intro w9 hkw hrw hnew hdis
           replace r2 := hkw.row r2 (by simp <;> omega)
           replace r3 := hkw.row r3 (by simp <;> omega)
           replace r4 := hkw.row r4 (by simp <;> omega)
           replace r5 := hkw.row r5 (by simp <;> omega)
           replace r17 := hkw.row r17 (by simp <;> omega)
           replace sb := sb.trans (hkw.below w.heap.size sb.size (by simp <;> omega))
           clear hkw hrw hnew hdis
           (repeat ((fail_if_success with_reducible refine rg ?_); go_step))
           apply wp_region_mix (by kernel_rfl) [(g2, 53, rC .u32 8 (mixu (fun j => (v j + V j) % 4294967296) v i))] [_, _, _, _, _, _, _, _, _] ⟨r2, trivial⟩ (by simp <;> omega)
           ·intro p
            refine mx_move rfl rfl ?_
            simp only [Act.put, pu]
            refine mx_val (.pointer (some ⟨g2, i, none⟩)) (exec_index 53 _ _ rfl (g2) rfl (i) 8 rfl (by omega) _ Tryd.underlying53 Tryd.sizeOf52) ?_
            simp only [Act.put, pu]
            refine mx_loadcT 0 52 _ rfl (i) rfl rfl (.int .u32 (v i : Nat)) ((rC_get _ _ _ _ (by omega)).trans (by rw [mixu_ge _ _ _ _ (by omega)])) Tryd.isAgg52 ?_
            simp only [Act.put, pu]
            refine mx_move rfl rfl ?_
            simp only [Act.put, pu]
            refine mx_val (.pointer (some ⟨g17, i, none⟩)) (exec_index 53 _ _ rfl (g17) rfl (i) 8 rfl (by omega) _ Tryd.underlying53 Tryd.sizeOf52) ?_
            simp only [Act.put, pu]
            refine mx_loadc 52 _ rfl _ (i) rfl r17 (by simp <;> omega) (.int .u32 (V i : Nat)) (rC_get _ _ _ _ (by omega)) Tryd.isAgg52 ?_
            simp only [Act.put, pu]
            refine mx_val (.int .u32 ((v i + V i) % 4294967296 : Nat)) (x32_add _ _ _ _ rfl (v i) (V i) _ rfl rfl rfl) ?_
            simp only [Act.put, pu]
            refine mx_val (.pointer (some ⟨g2, i, none⟩)) (exec_index 53 _ _ rfl (g2) rfl (i) 8 rfl (by omega) _ Tryd.underlying53 Tryd.sizeOf52) ?_
            simp only [Act.put, pu]
            refine mx_putc 0 52 _ _ rfl (i) rfl rfl .u32 ((((v i + V i) % 4294967296 : Nat) : Int)) rfl Tryd.sizeOf52 (by rw [rC_size]; omega) (rC .u32 8 (mixu (fun j => (v j + V j) % 4294967296) v (i + 1))) (rC_put _ _ _ _ _ _ (mixu_put _ _ _ _ rfl _)) ?_
            simp only [Act.put]
            refine mx_end ?_
            intro w10 hkw hrw hnew hdis
            have zr2 : Row w10 (g2) (rC .u32 8 (mixu (fun j => (v j + V j) % 4294967296) v (i + 1))) 53 := hrw 0 (53, rC .u32 8 (mixu (fun j => (v j + V j) % 4294967296) v (i + 1))) rfl
            replace r3 := hkw.row r3 (by simp <;> omega)
            replace r4 := hkw.row r4 (by simp <;> omega)
            replace r5 := hkw.row r5 (by simp <;> omega)
            replace r17 := hkw.row r17 (by simp <;> omega)
            replace sb := sb.trans (hkw.below w.heap.size sb.size (by simp <;> omega))
            clear hkw hrw hnew hdis r2
            have r2 := zr2
            clear zr2
            (repeat ((fail_if_success with_reducible refine rg ?_); go_step))
            apply wp_region_mixp [] [_, _] trivial List.nodup_nil
            ·intro p
             refine mx_val (.int .i64 (i + 1 : Nat)) (xi_add _ _ _ _ rfl i 1 rfl rfl (by omega)) ?_
             simp only [Act.put, pu]
             refine mx_move rfl rfl ?_
             simp only [Act.put, pu]
             refine mx_end ?_
             intro w11 hkw hrw hnew hdis
             replace r2 := hkw.row r2 (by simp <;> omega)
             replace r3 := hkw.row r3 (by simp <;> omega)
             replace r4 := hkw.row r4 (by simp <;> omega)
             replace r5 := hkw.row r5 (by simp <;> omega)
             replace r17 := hkw.row r17 (by simp <;> omega)
             replace sb := sb.trans (hkw.below w.heap.size sb.size (by simp <;> omega))
             clear hkw hrw hnew hdis
             go_wp2
             go_roundg g
             case measure => omega
             case rel => exact ⟨i + 1, by omega, rfl, ⟨r2, r3, r4, r5, sb⟩, r17⟩
            ·rfl
           ·kernel_rfl
          ·rfl
         ·rfl
      ·rfl
     ·rfl
    | succ g =>
     have HC : Hid (rnd (wf b) v (t + 1) = stp (rnd (wf b) v t) (kf t) (wf b t)) := rfl
     generalize rnd (wf b) v t = V at *
     have HS := stp_a V (kf t) (wf b t)
     have HE := stp_e V (kf t) (wf b t)
     (repeat ((fail_if_success with_reducible refine rg ?_); go_step))
     apply wp_region_mixp [] [_] trivial List.nodup_nil
     ·intro p
      refine mx_val (.bool true) (x_lt _ _ _ _ rfl t 64 rfl rfl true (decide_eq_true (by omega))) ?_
      simp only [Act.put, pu]
      refine mx_end ?_
      intro w6 hkw hrw hnew hdis
      replace r2 := hkw.row r2 (by simp <;> omega)
      replace r3 := hkw.row r3 (by simp <;> omega)
      replace r4 := hkw.row r4 (by simp <;> omega)
      replace r5 := hkw.row r5 (by simp <;> omega)
      replace sb := sb.trans (hkw.below w.heap.size sb.size (by simp <;> omega))
      clear hkw hrw hnew hdis
      (repeat ((fail_if_success with_reducible refine rg ?_); go_step))
      apply wp_region_mixp [] [_, _] trivial List.nodup_nil
      ·intro p
       refine mx_move rfl rfl ?_
       simp only [Act.put, pu]
       refine mx_asg rfl rfl ?_
       simp only [Act.put, pu]
       refine mx_end ?_
       intro w7 hkw hrw hnew hdis
       replace r2 := hkw.row r2 (by simp <;> omega)
       replace r3 := hkw.row r3 (by simp <;> omega)
       replace r4 := hkw.row r4 (by simp <;> omega)
       replace r5 := hkw.row r5 (by simp <;> omega)
       replace sb := sb.trans (hkw.below w.heap.size sb.size (by simp <;> omega))
       clear hkw hrw hnew hdis
       obtain ⟨kcs, kt, rK, hK⟩ := kT.below sb
       (repeat ((fail_if_success with_reducible refine rg ?_); go_step))
       refine wp_region_qw (by kernel_rfl) (by kernel_rfl) ?_
       refine qw_move (by rfl) rfl rfl ?_
       simp only [Act.put, pu]
       refine qw_move (by rfl) rfl rfl ?_
       simp only [Act.put, pu]
       refine qw_call (by rfl) 42 _ _ rfl Tryd.func42 (by kernel_rfl) #[.int .u32 (V 4 : Nat)] rfl _ (fun w' => big1_any (V 4) w' (hV 4)) ?_
       simp only [Act.put, pu]
       refine qw_value (by rfl) (.int .u32 ((V 7 + bs1 (V 4)) % 4294967296 : Nat)) (x32_add _ _ _ _ rfl (V 7) (bs1 (V 4)) _ rfl rfl rfl) ?_
       simp only [Act.put, pu]
       refine qw_move (by rfl) rfl rfl ?_
       simp only [Act.put, pu]
       refine qw_move (by rfl) rfl rfl ?_
       simp only [Act.put, pu]
       refine qw_move (by rfl) rfl rfl ?_
       simp only [Act.put, pu]
       refine qw_call (by rfl) 43 _ _ rfl Tryd.func43 (by kernel_rfl) #[.int .u32 (V 4 : Nat), .int .u32 (V 5 : Nat), .int .u32 (V 6 : Nat)] rfl _ (fun w' => choice_any (V 4) (V 5) (V 6) w' (hV 4) (hV 5) (hV 6)) ?_
       simp only [Act.put, pu]
       refine qw_value (by rfl) (.int .u32 (((V 7 + bs1 (V 4)) % 4294967296 + chf (V 4) (V 5) (V 6)) % 4294967296 : Nat)) (x32_add _ _ _ _ rfl ((V 7 + bs1 (V 4)) % 4294967296) (chf (V 4) (V 5) (V 6)) _ rfl rfl rfl) ?_
       simp only [Act.put, pu]
       refine qw_move (by rfl) rfl rfl ?_
       simp only [Act.put, pu]
       refine qw_value (by rfl) (.pointer (some ⟨0, t, none⟩)) (exec_index 64 _ _ rfl (0) rfl (t) 64 rfl (by omega) _ Tryd.underlying64 Tryd.sizeOf52) ?_
       simp only [Act.put, pu]
       refine qw_loadcR (by rfl) 52 _ rfl _ (t) rfl rK (.int .u32 (kf t : Nat)) (hK t (by omega)) Tryd.isAgg52 ?_
       simp only [Act.put, pu]
       refine qw_value (by rfl) (.int .u32 ((((V 7 + bs1 (V 4)) % 4294967296 + chf (V 4) (V 5) (V 6)) % 4294967296 + kf t) % 4294967296 : Nat)) (x32_add _ _ _ _ rfl (((V 7 + bs1 (V 4)) % 4294967296 + chf (V 4) (V 5) (V 6)) % 4294967296) (kf t) _ rfl rfl rfl) ?_
       simp only [Act.put, pu]
       refine qw_move (by rfl) rfl rfl ?_
       simp only [Act.put, pu]
       refine qw_value (by rfl) (.pointer (some ⟨g5, t, none⟩)) (exec_index 64 _ _ rfl (g5) rfl (t) 64 rfl (by omega) _ Tryd.underlying64 Tryd.sizeOf52) ?_
       simp only [Act.put, pu]
       refine qw_loadc (by rfl) 52 _ rfl _ (t) rfl r5 (.int .u32 (wf b t : Nat)) (rC_get _ _ _ _ (by omega)) Tryd.isAgg52 ?_
       simp only [Act.put, pu]
       refine qw_value (by rfl) (.int .u32 (((((V 7 + bs1 (V 4)) % 4294967296 + chf (V 4) (V 5) (V 6)) % 4294967296 + kf t) % 4294967296 + wf b t) % 4294967296 : Nat)) (x32_add _ _ _ _ rfl ((((V 7 + bs1 (V 4)) % 4294967296 + chf (V 4) (V 5) (V 6)) % 4294967296 + kf t) % 4294967296) (wf b t) _ rfl rfl rfl) ?_
       simp only [Act.put, pu]
       refine qw_asg (by rfl) rfl rfl ?_
       simp only [Act.put, pu]
       refine qw_nil ?_
       intro w8 hqb
       replace r2 := r2.belowAll hqb
       replace r3 := r3.belowAll hqb
       replace r4 := r4.belowAll hqb
       replace r5 := r5.belowAll hqb
       replace sb := below_on sb (Nat.le_refl _) hqb
       clear hqb
       have hT1 : ((((V 7 + bs1 (V 4)) % 4294967296 + chf (V 4) (V 5) (V 6)) % 4294967296 + kf t) % 4294967296 + wf b t) % 4294967296 < 4294967296 := mod32 _
       generalize hT : ((((V 7 + bs1 (V 4)) % 4294967296 + chf (V 4) (V 5) (V 6)) % 4294967296 + kf t) % 4294967296 + wf b t) % 4294967296 = T1 at *
       clear rK hK
       (repeat ((fail_if_success with_reducible refine rg ?_); go_step))
       refine wp_region_qp ?_
       refine qw_move (by rfl) rfl rfl ?_
       simp only [Act.put, pu]
       refine qw_call (by rfl) 44 _ _ rfl Tryd.func44 (by kernel_rfl) #[.int .u32 (V 0 : Nat)] rfl _ (fun w' => big0_any (V 0) w' (hV 0)) ?_
       simp only [Act.put, pu]
       refine qw_move (by rfl) rfl rfl ?_
       simp only [Act.put, pu]
       refine qw_move (by rfl) rfl rfl ?_
       simp only [Act.put, pu]
       refine qw_move (by rfl) rfl rfl ?_
       simp only [Act.put, pu]
       refine qw_call (by rfl) 45 _ _ rfl Tryd.func45 (by kernel_rfl) #[.int .u32 (V 0 : Nat), .int .u32 (V 1 : Nat), .int .u32 (V 2 : Nat)] rfl _ (fun w' => major_any (V 0) (V 1) (V 2) w' (hV 0) (hV 1) (hV 2)) ?_
       simp only [Act.put, pu]
       refine qw_value (by rfl) (.int .u32 ((bs0 (V 0) + mjf (V 0) (V 1) (V 2)) % 4294967296 : Nat)) (x32_add _ _ _ _ rfl (bs0 (V 0)) (mjf (V 0) (V 1) (V 2)) _ rfl rfl rfl) ?_
       simp only [Act.put, pu]
       refine qw_asg (by rfl) rfl rfl ?_
       simp only [Act.put, pu]
       refine qw_nil ?_
       intro w9 hqb
       replace r2 := r2.belowAll hqb
       replace r3 := r3.belowAll hqb
       replace r4 := r4.belowAll hqb
       replace r5 := r5.belowAll hqb
       replace sb := below_on sb (Nat.le_refl _) hqb
       clear hqb
       (repeat ((fail_if_success with_reducible refine rg ?_); go_step))
       refine wp_region_qp ?_
       refine qw_move (by rfl) rfl rfl ?_
       simp only [Act.put, pu]
       refine qw_move (by rfl) rfl rfl ?_
       simp only [Act.put, pu]
       refine qw_value (by rfl) (.int .u32 ((T1 + (bs0 (V 0) + mjf (V 0) (V 1) (V 2)) % 4294967296) % 4294967296 : Nat)) (x32_add _ _ _ _ rfl (T1) ((bs0 (V 0) + mjf (V 0) (V 1) (V 2)) % 4294967296) _ rfl rfl rfl) ?_
       simp only [Act.put, pu]
       refine qw_move (by rfl) rfl rfl ?_
       simp only [Act.put, pu]
       refine qw_move (by rfl) rfl rfl ?_
       simp only [Act.put, pu]
       refine qw_move (by rfl) rfl rfl ?_
       simp only [Act.put, pu]
       refine qw_move (by rfl) rfl rfl ?_
       simp only [Act.put, pu]
       refine qw_move (by rfl) rfl rfl ?_
       simp only [Act.put, pu]
       refine qw_value (by rfl) (.int .u32 ((V 3 + T1) % 4294967296 : Nat)) (x32_add _ _ _ _ rfl (V 3) (T1) _ rfl rfl rfl) ?_
       simp only [Act.put, pu]
       refine qw_move (by rfl) rfl rfl ?_
       simp only [Act.put, pu]
       refine qw_move (by rfl) rfl rfl ?_
       simp only [Act.put, pu]
       refine qw_move (by rfl) rfl rfl ?_
       simp only [Act.put, pu]
       refine qw_asg (by rfl) rfl rfl ?_
       simp only [Act.put, pu]
       refine qw_asg (by rfl) rfl rfl ?_
       simp only [Act.put, pu]
       refine qw_asg (by rfl) rfl rfl ?_
       simp only [Act.put, pu]
       refine qw_asg (by rfl) rfl rfl ?_
       simp only [Act.put, pu]
       refine qw_asg (by rfl) rfl rfl ?_
       simp only [Act.put, pu]
       refine qw_asg (by rfl) rfl rfl ?_
       simp only [Act.put, pu]
       refine qw_asg (by rfl) rfl rfl ?_
       simp only [Act.put, pu]
       refine qw_asg (by rfl) rfl rfl ?_
       simp only [Act.put, pu]
       refine qw_nil ?_
       intro w10 hqb
       replace r2 := r2.belowAll hqb
       replace r3 := r3.belowAll hqb
       replace r4 := r4.belowAll hqb
       replace r5 := r5.belowAll hqb
       replace sb := below_on sb (Nat.le_refl _) hqb
       clear hqb
       (repeat ((fail_if_success with_reducible refine rg ?_); go_step))
       apply wp_region_mixp [] [_, _] trivial List.nodup_nil
       ·intro p
        refine mx_val (.int .i64 (t + 1 : Nat)) (xi_add _ _ _ _ rfl t 1 rfl rfl (by omega)) ?_
        simp only [Act.put, pu]
        refine mx_move rfl rfl ?_
        simp only [Act.put, pu]
        refine mx_end ?_
        intro w11 hkw hrw hnew hdis
        replace r2 := hkw.row r2 (by simp <;> omega)
        replace r3 := hkw.row r3 (by simp <;> omega)
        replace r4 := hkw.row r4 (by simp <;> omega)
        replace r5 := hkw.row r5 (by simp <;> omega)
        replace sb := sb.trans (hkw.below w.heap.size sb.size (by simp <;> omega))
        clear hkw hrw hnew hdis
        go_wp2
        go_roundg g
        case measure => omega
        case rel => exact ⟨t + 1, by omega, rfl, by rw [HC.out, HS], by rw [HC.out]; rfl, by rw [HC.out]; rfl, by rw [HC.out]; rfl, by rw [HC.out, HE], by rw [HC.out]; rfl, by rw [HC.out]; rfl, by rw [HC.out]; rfl, r2, r3, r4, r5, sb⟩
       ·rfl
      ·rfl
     ·rfl
  ·rfl
 ·rfl
end Go.Proofs.YtdanmnhknmepiaaDoor
