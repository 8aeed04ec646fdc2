/- A Hash's Sum, and sha.Sum. -/
import Derived.Test.YtdanmnhknmepiaaDoorSSum
namespace Go.Proofs.YtdanmnhknmepiaaDoor
open Go.RowKit
set_option linter.unusedVariables false
theorem out_get (V : Nat → Nat) (k j : Nat) (hk : k < 8) (hj : j < 4) : bf (outL V) (k * 4 + j) = V k / 2 ^ (8 * (3 - j)) % 256 := by
 unfold bf outL
 rw [List.getD_eq_getElem?_getD, List.getElem?_map, List.getElem?_range (by omega)]
 show (UInt8.ofNat _).toNat = _
 rw [UInt8.toNat_ofNat_of_lt' (Nat.mod_lt _ (by decide)), show (k * 4 + j) / 4 = k by omega, show (k * 4 + j) % 4 = j by omega]
/-- What Sum holds on to. -/
structure SuH (wr w : World) (g3 g4 c i : Nat) (V B : Nat → Nat) : Prop where
 r3 : Row wr g3 (hC true V B c) 56
 r4 : Row wr g4 (rC .u8 32 (upto (bf (outL V)) i)) 59
 below : Below w.heap.size w wr
set_option maxRecDepth 100000 in
set_option maxHeartbeats 2000000 in
theorem hsum_any (l : List UInt8) (B : Nat → Nat) (g0 : Nat) (w : World) (hl : l.length < 576460752303423488) (hHS : HS l B) (r0 : Row w g0 (hC true (sw l) B l.length) 56) (kT : KT w) :
  Calls Tryd.prog 32 #[.pointer (some ⟨g0, 0, none⟩)] w fun e w' => e = .returned (.string ⟨(sha l).toArray⟩) ∧ Below w.heap.size w w' := by
 have hll : (l ++ tl l.length).length < 1152921504606846976 := by
  rw [List.length_append, tl_length]
  have : zs l.length < 64 := by unfold zs; omega
  omega
 have k0 := kT.lt
 go_enter Tryd.func32, Tryd.ntmps32
 (repeat ((fail_if_success with_reducible refine rg ?_); go_step))
 apply wp_region_mixp [] [_] trivial List.nodup_nil
 ·intro p
  refine mx_val (.string ⟨#[]⟩) (fun _ => rfl) ?_
  simp only [Act.put, pu]
  refine mx_end ?_
  intro w2 hkw hrw hnew hdis
  replace r0 := hkw.row r0 (by simp <;> omega)
  have sb := hkw.below w.heap.size (Nat.le_refl _) (by simp)
  clear hkw hrw hnew hdis
  (repeat ((fail_if_success with_reducible refine rg ?_); go_step))
  refine wp_region_qp ?_
  refine qw_move (by rfl) rfl rfl ?_
  simp only [Act.put, pu]
  refine qw_value (by rfl) (.bool false) (x_nilp _ _ _ _ rfl (some ⟨g0, 0, none⟩) rfl rfl _ Tryd.underlying46) ?_
  simp only [Act.put, pu]
  refine qw_move (by rfl) rfl rfl ?_
  simp only [Act.put, pu]
  refine qw_move (by rfl) rfl rfl ?_
  simp only [Act.put, pu]
  refine qw_value (by rfl) (.pointer (some ⟨g0, 0, none⟩)) (exec_nil _ rfl g0 0 rfl) ?_
  simp only [Act.put, pu]
  refine qw_value (by rfl) (.pointer (some ⟨g0, 0, none⟩)) (exec_field 56 _ 0 rfl g0 0 rfl _ Tryd.underlying56 _ rfl 0 Tryd.sizeOf4) ?_
  simp only [Act.put, pu]
  refine qw_loadc (by rfl) 4 _ rfl _ (0) rfl r0 (.bool true) (hC_get _ _ _ _ 0 (by omega)) Tryd.isAgg4 ?_
  simp only [Act.put, pu]
  refine qw_value (by rfl) (.bool false) (exec_not _ _ rfl true rfl) ?_
  simp only [Act.put, pu]
  refine qw_pick false (v := .bool false) (by rfl) rfl rfl rfl ?_
  simp only [Act.put, pu]
  refine qw_nil ?_
  intro w3 hqb
  replace r0 := r0.belowAll hqb
  replace sb := below_on sb (Nat.le_refl _) hqb
  clear hqb
  (repeat ((fail_if_success with_reducible refine rg ?_); go_step))
  apply wp_region_mixp [] [_, _, _, _, _] trivial List.nodup_nil
  ·intro p
   refine mx_move rfl rfl ?_
   simp only [Act.put, pu]
   refine mx_val (.pointer (some ⟨g0, 0, none⟩)) (exec_nil _ rfl g0 0 rfl) ?_
   simp only [Act.put, pu]
   refine mx_loadm 56 _ rfl _ (0) rfl r0 (by simp <;> omega) (hC true (sw l) B l.length) (hC_all _ _ _ _) _ Tryd.underlying56 rfl (by rw [hC_size]; exact size_hash) ?_
   simp only [Act.put, pu]
   refine mx_new 56 rfl _ zero_hash ?_
   simp only [Act.put, pu]
   refine mx_put 7 56 _ _ rfl rfl rfl (hC true (sw l) B l.length) rfl (by rw [hC_size]; exact size_hash) (by simp only [hC_size]) (hC_one _ _ _ _) ?_
   simp only [Act.put]
   refine mx_end ?_
   intro w4 hkw hrw hnew hdis
   have n3 := hnew 3 rfl
   have zr3 : Row w4 (p 3) (hC true (sw l) B l.length) 56 := hrw 7 (56, hC true (sw l) B l.length) rfl
   have d0x3 := Nat.lt_of_lt_of_le r0.lt n3
   replace r0 := hkw.row r0 (by simp <;> omega)
   have b3 := Nat.le_trans sb.size n3
   replace sb := sb.trans (hkw.below w.heap.size sb.size (by simp <;> omega))
   clear hkw hrw hnew hdis n3
   generalize p 3 = g3 at *
   have r3 := zr3
   clear zr3
   go_wp2_with fail
   refine (closing_any _ _ _ g0 _ (by omega) r0).mono ?_
   rintro _ w5 ⟨rfl, bb⟩
   replace r3 := r3.belowAll bb
   replace sb := below_on sb (Nat.le_refl _) bb
   clear bb r0
   dsimp only
   go_wp2_with fail
   refine (add_any l (tl l.length) B g3 _ hll hHS r3 (kT.below sb) (by omega)).mono ?_
   rintro _ w6 ⟨rfl, B2, hHS2, r3, sk⟩
   replace sb := sb.trans (sk.below w.heap.size sb.size (by simpa using b3))
   clear sk hHS hHS2 kT
   dsimp only
   have HV : Hid (sha l = outL (sw (l ++ tl l.length))) := rfl
   generalize sw (l ++ tl l.length) = V at *
   generalize (l ++ tl l.length).length = c at *
   (repeat ((fail_if_success with_reducible refine rg ?_); go_step))
   apply wp_region_mixp [] [_] trivial List.nodup_nil
   ·intro p
    refine mx_new 59 rfl _ zero_32b ?_
    simp only [Act.put, pu]
    refine mx_end ?_
    intro w7 hkw hrw hnew hdis
    have n4 := hnew 0 rfl
    have zr4 : Row w7 (p 0) (rC .u8 32 fun _ => 0) 59 := hrw 1 (59, rC .u8 32 fun _ => 0) rfl
    have d3x4 := Nat.lt_of_lt_of_le r3.lt n4
    replace r3 := hkw.row r3 (by simp <;> omega)
    have b4 := Nat.le_trans sb.size n4
    replace sb := sb.trans (hkw.below w.heap.size sb.size (by simp <;> omega))
    clear hkw hrw hnew hdis n4
    generalize p 0 = g4 at *
    have r4 := zr4
    clear zr4
    have H0 : SuH w7 w g3 g4 c (0 * 4) V B2 := ⟨r3, by rw [Nat.zero_mul, upto_zero]; exact r4, sb⟩
    have HX : Hid (g3 ≠ g4 ∧ w.heap.size ≤ g4) := ⟨by omega, b4⟩
    clear r3 r4 sb b3 b4 d3x4 hl hll k0
    go_wp2_with fail
    go_loopg [5, 6, 22, 25] 8 (fun g s5 s6 s22 s25 wr => ∃ k : Nat, k + g = 8 ∧ s22 = .int .i64 k ∧ SuH wr w g3 g4 c (k * 4) V B2)
    case atStart => exact ⟨0, by omega, rfl, H0⟩
    case round =>
     obtain ⟨k, hk, rfl, r3, r4, sb⟩ := hrel
     obtain ⟨x1, x2⟩ := HX.out
     clear H0
     cases gk with
     | zero =>
      obtain rfl : k = 8 := by omega
      clear hk
      (repeat ((fail_if_success with_reducible refine rg ?_); go_step))
      apply wp_region_mixp [] [_] trivial List.nodup_nil
      ·intro p
       refine mx_val (.bool false) (x_lt _ _ _ _ rfl 8 8 rfl rfl false rfl) ?_
       simp only [Act.put, pu]
       refine mx_end ?_
       intro w8 hkw hrw hnew hdis
       replace r4 := hkw.row r4 (by simp <;> omega)
       replace sb := sb.trans (hkw.below w.heap.size sb.size (by simp <;> omega))
       clear hkw hrw hnew hdis
       (repeat ((fail_if_success with_reducible refine rg ?_); go_step))
       apply wp_region_mixp [] [_, _, _] trivial List.nodup_nil
       ·intro p
        refine mx_val (.slice (some ⟨g4, 0, none⟩) 32 32) (x_sliceAll 59 5 _ 32 Tryd.underlying59 Tryd.sizeOf5 rfl g4 0 rfl (by omega)) ?_
        simp only [Act.put, pu]
        refine mx_value (.string ⟨(outL V).toArray⟩) [] (fun w' hkw _ => x_str _ rfl g4 0 32 32 (outL V) rfl (outL_length V) w' (hkw.row r4 (by simp)).r (fun j hj => by rw [outL_length] at hj; exact (rC_get _ _ _ _ (by omega)).trans (by rw [Nat.zero_add, upto_lt _ _ _ (by omega)]))) ?_
        simp only [Act.put, pu]
        refine mx_asg rfl rfl ?_
        simp only [Act.put, pu]
        refine mx_end ?_
        intro w9 hkw hrw hnew hdis
        replace sb := sb.trans (hkw.below w.heap.size sb.size (by simp <;> omega))
        clear hkw hrw hnew hdis
        go_wp2
        go_ret
        exact ⟨by rw [HV.out]; rfl, sb⟩
       ·rfl
      ·rfl
     | succ g =>
      have hk8 : k < 8 := by omega
      (repeat ((fail_if_success with_reducible refine rg ?_); go_step))
      apply wp_region_mixp [] [_] trivial List.nodup_nil
      ·intro p
       refine mx_val (.bool true) (x_lt _ _ _ _ rfl k 8 rfl rfl true (decide_eq_true (by omega))) ?_
       simp only [Act.put, pu]
       refine mx_end ?_
       intro w8 hkw hrw hnew hdis
       replace r3 := hkw.row r3 (by simp <;> omega)
       replace r4 := hkw.row r4 (by simp <;> omega)
       replace sb := sb.trans (hkw.below w.heap.size sb.size (by simp <;> omega))
       clear hkw hrw hnew hdis
       (repeat ((fail_if_success with_reducible refine rg ?_); go_step))
       apply wp_region_mixp [] [_, _] trivial List.nodup_nil
       ·intro p
        refine mx_move rfl rfl ?_
        simp only [Act.put, pu]
        refine mx_asg rfl rfl ?_
        simp only [Act.put, pu]
        refine mx_end ?_
        intro w9 hkw hrw hnew hdis
        replace r3 := hkw.row r3 (by simp <;> omega)
        replace r4 := hkw.row r4 (by simp <;> omega)
        replace sb := sb.trans (hkw.below w.heap.size sb.size (by simp <;> omega))
        clear hkw hrw hnew hdis
        have H1 : SuH w9 w g3 g4 c (k * 4 + 0) V B2 := ⟨r3, r4, sb⟩
        clear r3 r4 sb x1 x2
        go_wp2_with fail
        go_loopg [6, 25] 4 (fun m s6 s25 wq => ∃ j : Nat, j + m = 4 ∧ s25 = .int .i64 j ∧ SuH wq w g3 g4 c (k * 4 + j) V B2)
        case atStart => exact ⟨0, by omega, rfl, H1⟩
        case round =>
         obtain ⟨j, hj, rfl, r3, r4, sb⟩ := hrel
         obtain ⟨x1, x2⟩ := HX.out
         clear H1
         cases gk with
         | zero =>
          obtain rfl : j = 4 := by omega
          clear hj
          (repeat ((fail_if_success with_reducible refine rg ?_); go_step))
          apply wp_region_mixp [] [_] trivial List.nodup_nil
          ·intro p
           refine mx_val (.bool false) (x_lt _ _ _ _ rfl 4 4 rfl rfl false rfl) ?_
           simp only [Act.put, pu]
           refine mx_end ?_
           intro w10 hkw hrw hnew hdis
           replace r3 := hkw.row r3 (by simp <;> omega)
           replace r4 := hkw.row r4 (by simp <;> omega)
           replace sb := sb.trans (hkw.below w.heap.size sb.size (by simp <;> omega))
           clear hkw hrw hnew hdis
           (repeat ((fail_if_success with_reducible refine rg ?_); go_step))
           apply wp_region_mixp [] [_, _] trivial List.nodup_nil
           ·intro p
            refine mx_val (.int .i64 (k + 1 : Nat)) (xi_add _ _ _ _ rfl k 1 rfl rfl (by omega)) ?_
            simp only [Act.put, pu]
            refine mx_move rfl rfl ?_
            simp only [Act.put, pu]
            refine mx_end ?_
            intro w11 hkw hrw hnew hdis
            replace r3 := hkw.row r3 (by simp <;> omega)
            replace r4 := hkw.row r4 (by simp <;> omega)
            replace sb := sb.trans (hkw.below w.heap.size sb.size (by simp <;> omega))
            clear hkw hrw hnew hdis
            go_wp2
            go_roundg g
            case measure => omega
            case rel => exact ⟨k + 1, by omega, rfl, r3, by rw [show (k + 1) * 4 = k * 4 + 4 by omega]; exact r4, sb⟩
           ·rfl
          ·rfl
         | succ m =>
          have hN : bf (outL V) (k * 4 + j) = V k / 2 ^ (8 * (3 - j)) % 256 := out_get V k j hk8 (by omega)
          (repeat ((fail_if_success with_reducible refine rg ?_); go_step))
          apply wp_region_mixp [] [_] trivial List.nodup_nil
          ·intro p
           refine mx_val (.bool true) (x_lt _ _ _ _ rfl j 4 rfl rfl true (decide_eq_true (by omega))) ?_
           simp only [Act.put, pu]
           refine mx_end ?_
           intro w10 hkw hrw hnew hdis
           replace r3 := hkw.row r3 (by simp <;> omega)
           replace r4 := hkw.row r4 (by simp <;> omega)
           replace sb := sb.trans (hkw.below w.heap.size sb.size (by simp <;> omega))
           clear hkw hrw hnew hdis
           (repeat ((fail_if_success with_reducible refine rg ?_); go_step))
           apply wp_region_mixp [] [_, _] trivial List.nodup_nil
           ·intro p
            refine mx_move rfl rfl ?_
            simp only [Act.put, pu]
            refine mx_asg rfl rfl ?_
            simp only [Act.put, pu]
            refine mx_end ?_
            intro w11 hkw hrw hnew hdis
            replace r3 := hkw.row r3 (by simp <;> omega)
            replace r4 := hkw.row r4 (by simp <;> omega)
            replace sb := sb.trans (hkw.below w.heap.size sb.size (by simp <;> omega))
            clear hkw hrw hnew hdis
            (repeat ((fail_if_success with_reducible refine rg ?_); go_step))
            apply wp_region_mixp [(g4, 59, rC .u8 32 (upto (bf (outL V)) (k * 4 + j)))] [_, _, _, _, _, _, _, _, _, _, _, _, _, _, _] ⟨r4, trivial⟩ (by simp <;> omega)
            ·intro p
             refine mx_move rfl rfl ?_
             simp only [Act.put, pu]
             refine mx_val (.int .i64 (k * 4 : Nat)) (xi_mul _ _ _ _ rfl k 4 _ rfl rfl rfl (by omega)) ?_
             simp only [Act.put, pu]
             refine mx_move rfl rfl ?_
             simp only [Act.put, pu]
             refine mx_val (.int .i64 (k * 4 + j : Nat)) (xi_add _ _ _ _ rfl (k * 4) j rfl rfl (by omega)) ?_
             simp only [Act.put, pu]
             refine mx_move rfl rfl ?_
             simp only [Act.put, pu]
             refine mx_val (.pointer (some ⟨g3, 1, none⟩)) (exec_field 56 _ 1 rfl g3 0 rfl _ Tryd.underlying56 _ rfl 7 Tryd.sizeOf53) ?_
             simp only [Act.put, pu]
             refine mx_val (.pointer (some ⟨g3, 1 + k, none⟩)) (x_idxA _ _ _ rfl g3 1 rfl k 8 rfl (by omega) _ Tryd.underlying53 Tryd.sizeOf52 _ rfl) ?_
             simp only [Act.put, pu]
             refine mx_loadc 52 _ rfl _ (1 + k) rfl r3 (by simp <;> omega) (.int .u32 (V k : Nat)) (hC_word _ _ _ _ _ (by omega)) Tryd.isAgg52 ?_
             simp only [Act.put, pu]
             refine mx_move rfl rfl ?_
             simp only [Act.put, pu]
             refine mx_val (.int .i64 (3 - j : Nat)) (xi_sub _ _ _ _ rfl 3 j rfl rfl (by omega) (by omega)) ?_
             simp only [Act.put, pu]
             refine mx_val (.int .i64 (8 * (3 - j) : Nat)) (xi_mul _ _ _ _ rfl 8 (3 - j) _ rfl rfl rfl (by omega)) ?_
             simp only [Act.put, pu]
             refine mx_val (.int .u32 (V k / 2 ^ (8 * (3 - j)) : Nat)) (x32_shr _ _ _ _ rfl (V k) (8 * (3 - j)) .i64 rfl rfl (by omega)) ?_
             simp only [Act.put, pu]
             refine mx_val (.int .u8 (V k / 2 ^ (8 * (3 - j)) % 256 : Nat)) (x_conv _ _ _ rfl .u32 .u8 Tryd.underlying52 Tryd.underlying5 ((V k / 2 ^ (8 * (3 - j)) : Nat) : Int) _ rfl (wrp8 _ _ rfl)) ?_
             simp only [Act.put, pu]
             refine mx_val (.pointer (some ⟨g4, k * 4 + j, none⟩)) (exec_index 59 _ _ rfl (g4) rfl (k * 4 + j) 32 rfl (by omega) _ Tryd.underlying59 Tryd.sizeOf5) ?_
             simp only [Act.put, pu]
             refine mx_putc 0 5 _ _ rfl (k * 4 + j) rfl rfl .u8 (((V k / 2 ^ (8 * (3 - j)) % 256 : Nat) : Int)) rfl Tryd.sizeOf5 (by rw [rC_size]; omega) (rC .u8 32 (upto (bf (outL V)) (k * 4 + j + 1))) (rC_put _ _ _ _ _ _ (upto_put _ _ _ hN _)) ?_
             simp only [Act.put]
             refine mx_end ?_
             intro w12 hkw hrw hnew hdis
             have zr4 : Row w12 (g4) (rC .u8 32 (upto (bf (outL V)) (k * 4 + j + 1))) 59 := hrw 0 (59, rC .u8 32 (upto (bf (outL V)) (k * 4 + j + 1))) rfl
             replace r3 := hkw.row r3 (by simp <;> omega)
             replace sb := sb.trans (hkw.below w.heap.size sb.size (by simp <;> omega))
             clear hkw hrw hnew hdis r4
             have r4 := zr4
             clear zr4
             (repeat ((fail_if_success with_reducible refine rg ?_); go_step))
             apply wp_region_mixp [] [_, _] trivial List.nodup_nil
             ·intro p
              refine mx_val (.int .i64 (j + 1 : Nat)) (xi_add _ _ _ _ rfl j 1 rfl rfl (by omega)) ?_
              simp only [Act.put, pu]
              refine mx_move rfl rfl ?_
              simp only [Act.put, pu]
              refine mx_end ?_
              intro w13 hkw hrw hnew hdis
              replace r3 := hkw.row r3 (by simp <;> omega)
              replace r4 := hkw.row r4 (by simp <;> omega)
              replace sb := sb.trans (hkw.below w.heap.size sb.size (by simp <;> omega))
              clear hkw hrw hnew hdis
              go_wp2
              go_roundg m
              case measure => omega
              case rel => exact ⟨j + 1, by omega, rfl, r3, r4, sb⟩
             ·rfl
            ·rfl
           ·rfl
          ·rfl
       ·rfl
      ·rfl
   ·rfl
  ·rfl
 ·rfl
set_option maxRecDepth 100000 in
set_option maxHeartbeats 2000000 in
theorem ssum_any (l : List UInt8) (w : World) (hl : l.length < 576460752303423488) (kT : KT w) :
  Calls Tryd.prog 29 #[.string ⟨l.toArray⟩] w fun e w' => e = .returned (.string ⟨(sha l).toArray⟩) ∧ Below w.heap.size w w' := by
 have k0 := kT.lt
 go_enter Tryd.func29, Tryd.ntmps29
 go_wp2_with fail
 refine (hnew_any _).mono ?_
 rintro _ w2 ⟨g, rfl, hg, r, sb⟩
 dsimp only
 go_wp2_with fail
 refine (add_any [] l (fun _ => 0) g _ (by simp; omega) hs_nil r (kT.below sb) (by omega)).mono ?_
 rintro _ w3 ⟨rfl, B2, hHS2, r, sk⟩
 replace sb := sb.trans (sk.below w.heap.size sb.size (by simpa using hg))
 clear sk
 rw [List.nil_append] at hHS2 r
 dsimp only
 go_wp2_with fail
 refine (hsum_any l B2 g _ hl hHS2 r (kT.below sb)).mono ?_
 rintro _ w4 ⟨rfl, bb⟩
 replace sb := below_on sb (Nat.le_refl _) bb
 dsimp only
 go_wp2
 go_ret
 exact ⟨rfl, sb⟩
end Go.Proofs.YtdanmnhknmepiaaDoor
