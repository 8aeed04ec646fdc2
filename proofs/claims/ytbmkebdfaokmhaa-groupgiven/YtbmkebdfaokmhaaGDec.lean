/- group's decimal: the natural of decimal digits. -/
import Derived.Test.YtbmkebdfaokmhaaGWalk
import Derived.Test.YtbmkebdfaokmhaaGD
import Derived.Test.YtbmkebdfaokmhaaPSmall
import Derived.Test.YtbmkebdfaokmhaaMProd
namespace Go.Proofs.Ytbmkebdfaokmhaa
open Go.RowKit
/-- The natural of digits, by tens. -/
def dcN (l : List UInt8) : Nat → Nat
 | 0 => 0
 | k + 1 => dcN l k * 2 ^ 3 + dcN l k * 2 ^ 1 + (yb l k - 48)
theorem wrap_byte (n : Nat) (h : n < 256) : IntKind.i64.wrap (n : Int) = (n : Int) := by rw [IntKind.wrap_i64]; omega
set_option maxRecDepth 100000 in
set_option maxHeartbeats 2000000 in
theorem decimal_any (l : List UInt8) (w : World) (hl : l.length < 9223372036854775808) (h48 : ∀ i, i < l.length → 48 ≤ yb l i) :
  Calls Try.prog 52 #[.string ⟨l.toArray⟩] w fun e w' => e = .returned (.agg (natC (dcN l l.length))) ∧ Below w.heap.size w w' := by
 go_enter Try.func52, Try.ntmps52
 (repeat ((fail_if_success with_reducible refine rg ?_); go_step))
 apply wp_region_mixp [] [_] trivial List.nodup_nil
 ·intro p
  refine mx_new 25 rfl _ zero_nat ?_
  simp only [Act.put, pu]
  refine mx_end ?_
  intro w2 hkw hrw hnew hdis
  have n2 := hnew 0 rfl
  have zr2 : Row w2 (p 0) (natC 0) 25 := hrw 1 (25, natC 0) rfl
  have sb := hkw.below w.heap.size (Nat.le_refl _) (by simp)
  have b2 : w.heap.size ≤ p 0 := n2
  clear hkw hrw hnew hdis n2
  generalize p 0 = g2 at *
  have r2 := zr2
  clear zr2
  (repeat ((fail_if_success with_reducible refine rg ?_); go_step))
  apply wp_region_mixp [] [_] trivial List.nodup_nil
  ·intro p
   refine mx_new 25 rfl _ zero_nat ?_
   simp only [Act.put, pu]
   refine mx_end ?_
   intro w3 hkw hrw hnew hdis
   have n3 := hnew 0 rfl
   have zr3 : Row w3 (p 0) (natC 0) 25 := hrw 1 (25, natC 0) rfl
   have d2x3 := Nat.lt_of_lt_of_le r2.lt n3
   replace r2 := hkw.row r2 (by simp <;> omega)
   have b3 := Nat.le_trans sb.size n3
   replace sb := sb.trans (hkw.below w.heap.size sb.size (by simp <;> omega))
   clear hkw hrw hnew hdis n3
   generalize p 0 = g3 at *
   have r3 := zr3
   clear zr3
   (repeat ((fail_if_success with_reducible refine rg ?_); go_step))
   apply wp_region_mixp [] [_, _, _] trivial List.nodup_nil
   ·intro p
    refine mx_move rfl rfl ?_
    simp only [Act.put, pu]
    refine mx_val (.int .i64 l.length) (y_lenS 9 _ rfl l rfl Try.underlying9) ?_
    simp only [Act.put, pu]
    refine mx_val (.int .i64 0) (fun _ => rfl) ?_
    simp only [Act.put, pu]
    refine mx_end ?_
    intro w4 hkw hrw hnew hdis
    replace r2 := hkw.row r2 (by simp <;> omega)
    replace r3 := hkw.row r3 (by simp <;> omega)
    replace sb := sb.trans (hkw.below w.heap.size sb.size (by simp <;> omega))
    clear hkw hrw hnew hdis
    go_wp2_with fail
    go_loopg [9] l.length (fun g s9 wr => ∃ k : Nat, k + g = l.length ∧ s9 = .int .i64 k ∧ Row wr g2 (natC 0) 25 ∧ Row wr g3 (natC (dcN l k)) 25 ∧ Below w.heap.size w wr)
    case atStart => exact ⟨0, by omega, rfl, r2, r3, sb⟩
    case round =>
     clear sb r2 r3
     obtain ⟨k, hk, rfl, r2, r3, sb⟩ := hrel
     cases gk with
     | zero =>
      obtain rfl : k = l.length := by omega
      clear h48
      generalize hD : dcN l l.length = D at r3
      (repeat ((fail_if_success with_reducible refine rg ?_); go_step))
      apply wp_region_mixp [] [_] trivial List.nodup_nil
      ·intro p
       refine mx_val (.bool false) (exec_lt_b _ _ _ _ rfl l.length l.length rfl rfl false (decide_eq_false (Int.lt_irrefl _))) ?_
       simp only [Act.put, pu]
       refine mx_end ?_
       intro w5 hkw hrw hnew hdis
       replace r2 := hkw.row r2 (by simp <;> omega)
       replace r3 := hkw.row r3 (by simp <;> omega)
       replace sb := sb.trans (hkw.below w.heap.size sb.size (by simp <;> omega))
       clear hkw hrw hnew hdis
       (repeat ((fail_if_success with_reducible refine rg ?_); go_step))
       apply wp_region_mixp [(g2, 25, natC 0)] [_, _] ⟨r2, trivial⟩ (by simp <;> omega)
       ·intro p
        refine mx_load 25 _ rfl _ rfl r3 (by simp <;> omega) 4 _ Try.underlying25 size_nat ?_
        simp only [Act.put, pu]
        refine mx_put 0 25 _ _ rfl rfl rfl (natC D) rfl (by exact size_nat) (by simp only [natC_size]) (natC_one _) ?_
        simp only [Act.put]
        refine mx_end ?_
        intro w6 hkw hrw hnew hdis
        have zr2 : Row w6 (g2) (natC D) 25 := hrw 0 (25, natC D) rfl
        replace sb := sb.trans (hkw.below w.heap.size sb.size (by simp <;> omega))
        clear hkw hrw hnew hdis r2
        have r2 := zr2
        clear zr2
        go_wp2
        exact ret_row rfl _ rfl r2 4 _ Try.underlying25 (by exact size_nat) rfl ⟨by rw [hD], sb⟩
       ·rfl
      ·rfl
     | succ g =>
      have hkl : k < l.length := by omega
      have hb8 := yb_lt l k
      have hb48 := h48 k hkl
      have hnx : dcN l (k + 1) = dcN l k * 2 ^ 3 + dcN l k * 2 ^ 1 + (yb l k - 48) := rfl
      have hu3 := fun w' => nup_any (dcN l k) 3 w'
      have hu1 := fun w' => nup_any (dcN l k) 1 w'
      rw [show (3 : Int).toNat = 3 from rfl] at hu3
      rw [show (1 : Int).toNat = 1 from rfl] at hu1
      have ha1 := fun w' => nadd_any (dcN l k * 2 ^ 3) (dcN l k * 2 ^ 1) w'
      have hof := fun w' => nof_any ((yb l k - 48 : Nat) : Int) w' (by omega)
      rw [Int.toNat_natCast] at hof
      have ha2 := fun w' => nadd_any (dcN l k * 2 ^ 3 + dcN l k * 2 ^ 1) (yb l k - 48) w'
      rw [← hnx] at ha2
      clear hnx
      have hwr := wrap_byte (yb l k - 48) (by omega)
      generalize hD2 : dcN l (k + 1) = D2 at *
      generalize dcN l k * 2 ^ 3 = D3 at *
      generalize dcN l k * 2 ^ 1 = D1 at *
      generalize dcN l k = D at *
      generalize (cN D3 D1 256 : Nat) = C1 at *
      generalize (cN (D3 + D1) (yb l k - 48) 256 : Nat) = C2 at *
      generalize D3 + D1 = T at *
      (repeat ((fail_if_success with_reducible refine rg ?_); go_step))
      apply wp_region_mixp [] [_] trivial List.nodup_nil
      ·intro p
       refine mx_val (.bool true) (exec_lt_b _ _ _ _ rfl k l.length rfl rfl true (decide_eq_true (by omega))) ?_
       simp only [Act.put, pu]
       refine mx_end ?_
       intro w5 hkw hrw hnew hdis
       replace r2 := hkw.row r2 (by simp <;> omega)
       replace r3 := hkw.row r3 (by simp <;> omega)
       replace sb := sb.trans (hkw.below w.heap.size sb.size (by simp <;> omega))
       clear hkw hrw hnew hdis
       (repeat ((fail_if_success with_reducible refine rg ?_); go_step))
       apply wp_region_mixp [] [_, _] trivial List.nodup_nil
       ·intro p
        refine mx_move rfl rfl ?_
        simp only [Act.put, pu]
        refine mx_asg rfl rfl ?_
        simp only [Act.put, pu]
        refine mx_end ?_
        intro w6 hkw hrw hnew hdis
        replace r2 := hkw.row r2 (by simp <;> omega)
        replace r3 := hkw.row r3 (by simp <;> omega)
        replace sb := sb.trans (hkw.below w.heap.size sb.size (by simp <;> omega))
        clear hkw hrw hnew hdis
        (repeat ((fail_if_success with_reducible refine rg ?_); go_step))
        apply wp_region_mix (by kernel_rfl) [] [_, _, _, _, _, _, _, _, _, _, _] trivial List.nodup_nil
        ·intro p
         refine mx_load 25 _ rfl _ rfl r3 (by simp <;> omega) 4 _ Try.underlying25 size_nat ?_
         simp only [Act.put, pu]
         refine mx_call 76 _ _ rfl Try.func76 (by kernel_rfl) #[.agg (natC D), .int .i64 3] rfl _ hu3 ?_
         simp only [Act.put, pu]
         refine mx_load 25 _ rfl _ rfl r3 (by simp <;> omega) 4 _ Try.underlying25 size_nat ?_
         simp only [Act.put, pu]
         refine mx_call 76 _ _ rfl Try.func76 (by kernel_rfl) #[.agg (natC D), .int .i64 1] rfl _ hu1 ?_
         simp only [Act.put, pu]
         refine mx_call 75 _ _ rfl Try.func75 (by kernel_rfl) #[.agg (natC D3), .agg (natC D1)] rfl _ ha1 ?_
         simp only [Act.put, pu]
         refine mx_move rfl rfl ?_
         simp only [Act.put, pu]
         refine mx_ext rfl rfl rfl ?_
         simp only [Act.put, pu]
         refine mx_ext rfl rfl rfl ?_
         simp only [Act.put, pu]
         refine mx_new 25 rfl _ zero_nat ?_
         simp only [Act.put, pu]
         refine mx_put 17 25 _ _ rfl rfl rfl (natC T) rfl (by exact size_nat) (by simp only [natC_size]) (natC_one _) ?_
         simp only [Act.put]
         refine mx_asg rfl rfl ?_
         simp only [Act.put, pu]
         refine mx_end ?_
         intro w7 hkw hrw hnew hdis
         have n5 := hnew 8 rfl
         have zr5 : Row w7 (p 8) (natC T) 25 := hrw 17 (25, natC T) rfl
         have d2x5 := Nat.lt_of_lt_of_le r2.lt n5
         have d3x5 := Nat.lt_of_lt_of_le r3.lt n5
         replace r2 := hkw.row r2 (by simp <;> omega)
         replace r3 := hkw.row r3 (by simp <;> omega)
         have b5 := Nat.le_trans sb.size n5
         replace sb := sb.trans (hkw.below w.heap.size sb.size (by simp <;> omega))
         clear hkw hrw hnew hdis n5
         generalize p 8 = g5 at *
         have r5 := zr5
         clear zr5
         (repeat ((fail_if_success with_reducible refine rg ?_); go_step))
         apply wp_region_mix (by kernel_rfl) [(g3, 25, natC D)] [_, _, _, _, _, _, _, _, _, _, _, _] ⟨r3, trivial⟩ (by simp <;> omega)
         ·intro p
          refine mx_load 25 _ rfl _ rfl r5 (by simp <;> omega) 4 _ Try.underlying25 size_nat ?_
          simp only [Act.put, pu]
          refine mx_move rfl rfl ?_
          simp only [Act.put, pu]
          refine mx_move rfl rfl ?_
          simp only [Act.put, pu]
          refine mx_val (.int .u8 (yb l k : Nat)) (y_index 9 _ _ rfl Try.underlying9 l rfl .i64 k rfl hkl) ?_
          simp only [Act.put, pu]
          refine mx_val (.int .u8 ((yb l k - 48 : Nat) : Int)) (y_sub8 _ _ _ _ rfl (yb l k) 48 rfl rfl hb48 hb8) ?_
          simp only [Act.put, pu]
          refine mx_val (.int .i64 ((yb l k - 48 : Nat) : Int)) (y_conv _ _ _ rfl .u8 .i64 Try.underlying5 Try.underlying3 _ _ rfl hwr) ?_
          simp only [Act.put, pu]
          refine mx_call 38 _ _ rfl Try.func38 (by kernel_rfl) #[.int .i64 ((yb l k - 48 : Nat) : Int)] rfl _ hof ?_
          simp only [Act.put, pu]
          refine mx_call 75 _ _ rfl Try.func75 (by kernel_rfl) #[.agg (natC T), .agg (natC (yb l k - 48))] rfl _ ha2 ?_
          simp only [Act.put, pu]
          refine mx_move rfl rfl ?_
          simp only [Act.put, pu]
          refine mx_ext rfl rfl rfl ?_
          simp only [Act.put, pu]
          refine mx_ext rfl rfl rfl ?_
          simp only [Act.put, pu]
          refine mx_put 0 25 _ _ rfl rfl rfl (natC D2) rfl (by exact size_nat) (by simp only [natC_size]) (natC_one _) ?_
          simp only [Act.put]
          refine mx_end ?_
          intro w8 hkw hrw hnew hdis
          have zr3 : Row w8 (g3) (natC D2) 25 := hrw 0 (25, natC D2) rfl
          replace r2 := hkw.row r2 (by simp <;> omega)
          replace sb := sb.trans (hkw.below w.heap.size sb.size (by simp <;> omega))
          clear hkw hrw hnew hdis r3
          have r3 := zr3
          clear zr3
          (repeat ((fail_if_success with_reducible refine rg ?_); go_step))
          apply wp_region_mixp [] [_, _] trivial List.nodup_nil
          ·intro p
           refine mx_val (.int .i64 ((k + 1 : Nat) : Int)) (exec_add_in _ _ _ _ rfl k 1 rfl rfl (by omega)) ?_
           simp only [Act.put, pu]
           refine mx_move rfl rfl ?_
           simp only [Act.put, pu]
           refine mx_end ?_
           intro w9 hkw hrw hnew hdis
           replace r2 := hkw.row r2 (by simp <;> omega)
           replace r3 := hkw.row r3 (by simp <;> omega)
           replace sb := sb.trans (hkw.below w.heap.size sb.size (by simp <;> omega))
           clear hkw hrw hnew hdis
           go_wp2
           go_roundg g
           case measure => omega
           case rel => exact ⟨k + 1, by omega, rfl, r2, by rw [hD2]; exact r3, sb⟩
          ·rfl
         ·kernel_rfl
        ·kernel_rfl
       ·rfl
      ·rfl
   ·rfl
  ·rfl
 ·rfl
end Go.Proofs.Ytbmkebdfaokmhaa
