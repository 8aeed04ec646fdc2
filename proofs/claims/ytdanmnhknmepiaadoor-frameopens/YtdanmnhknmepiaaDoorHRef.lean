/- The document's turned and Sum of layer 6; hmac's Key and the document's. -/
import Derived.Test.YtdanmnhknmepiaaDoorHFun
import Derived.Test.YtdanmnhknmepiaaDoorSRSum
namespace Go.Proofs.YtdanmnhknmepiaaDoor
open Go.RowKit
set_option linter.unusedVariables false
set_option maxRecDepth 100000 in
set_option maxHeartbeats 2000000 in
theorem rturned_any (l : List UInt8) (b : Nat) (w : World) (hl : l.length < 4294967296) (hb : b < 256) :
  Calls Tryd.prog 34 #[.string ⟨l.toArray⟩, .int .u8 (b : Nat)] w fun e w' => e = .returned (.string ⟨(turnL l b).toArray⟩) ∧ Below w.heap.size w w' := by
 have hsz_l : (⟨l.toArray⟩ : ByteArray).size = l.length := by simp [ByteArray.size]
 go_enter Tryd.func34, Tryd.ntmps34
 (repeat ((fail_if_success with_reducible refine rg ?_); go_step))
 apply wp_region_mixp [] [_] trivial List.nodup_nil
 ·intro p
  refine mx_val (.string ⟨#[]⟩) (fun _ => rfl) ?_
  simp only [Act.put, pu]
  refine mx_end ?_
  intro w2 hkw hrw hnew hdis
  have sb := hkw.below w.heap.size (Nat.le_refl _) (by simp)
  clear hkw hrw hnew hdis
  (repeat ((fail_if_success with_reducible refine rg ?_); go_step))
  refine wp_region_qp ?_
  refine qw_move (by rfl) rfl rfl ?_
  simp only [Act.put, pu]
  refine qw_asg (by rfl) rfl rfl ?_
  simp only [Act.put, pu]
  refine qw_nil ?_
  intro w3 hqb
  replace sb := below_on sb (Nat.le_refl _) hqb
  clear hqb
  by_cases h : 64 < l.length
  ·have HK : Hid (keyL l = sha l) := keyL_long h
   (repeat ((fail_if_success with_reducible refine rg ?_); go_step))
   refine wp_region_qp ?_
   refine qw_move (by rfl) rfl rfl ?_
   simp only [Act.put, pu]
   refine qw_value (by rfl) (.int .i64 (l.length : Nat)) (fun w' => (x_lenS _ _ rfl ⟨l.toArray⟩ rfl Tryd.underlying9 w').trans (by rw [hsz_l])) ?_
   simp only [Act.put, pu]
   refine qw_value (by rfl) (.bool true) (x_gt _ _ _ _ rfl l.length 64 rfl rfl true (decide_eq_true (by omega))) ?_
   simp only [Act.put, pu]
   refine qw_nil ?_
   intro w3 hqb
   replace sb := below_on sb (Nat.le_refl _) hqb
   clear hqb
   (repeat ((fail_if_success with_reducible refine rg ?_); go_step))
   refine wp_region_qp ?_
   refine qw_move (by rfl) rfl rfl ?_
   simp only [Act.put, pu]
   refine qw_call (by rfl) 33 _ _ rfl Tryd.func33 (by kernel_rfl) #[.string ⟨l.toArray⟩] rfl _ (fun w' => rsum_any l w' hl) ?_
   simp only [Act.put, pu]
   refine qw_asg (by rfl) rfl rfl ?_
   simp only [Act.put, pu]
   refine qw_nil ?_
   intro w3 hqb
   replace sb := below_on sb (Nat.le_refl _) hqb
   clear hqb
   (repeat ((fail_if_success with_reducible refine rg ?_); go_step))
   refine wp_region_qp ?_
   refine qw_value (by rfl) (.slice none 0 0) (fun _ => rfl) ?_
   simp only [Act.put, pu]
   refine qw_nil ?_
   intro w4 hqb
   replace sb := below_on sb (Nat.le_refl _) hqb
   clear hqb
   (repeat ((fail_if_success with_reducible refine rg ?_); go_step))
   refine wp_region_qp ?_
   refine qw_value (by rfl) (.int .i64 0) (fun _ => rfl) ?_
   simp only [Act.put, pu]
   refine qw_nil ?_
   intro w5 hqb
   replace sb := below_on sb (Nat.le_refl _) hqb
   clear hqb
   have H0 : OB w5 w.heap.size (.slice none 0 0) ((trnL (bf (sha l)) b).take 0) := ob_nil _ _
   have H1 := sb
   have hszK : (⟨(sha l).toArray⟩ : ByteArray).size = (sha l).length := by simp [ByteArray.size]
   clear sb
   go_wp2_with fail
   go_loopg [6, 7, 8] 64 (fun g s6 s7 s8 wr => ∃ i : Nat, i + g = 64 ∧ s7 = .int .i64 (i : Nat) ∧ OB wr w.heap.size s6 ((trnL (bf (sha l)) b).take i) ∧ Below w.heap.size w wr)
   case atStart => exact ⟨0, by omega, rfl, H0, H1⟩
   case round =>
    obtain ⟨i, hi, rfl, own, sb⟩ := hrel
    clear H0 H1
    cases gk with
    | zero =>
     obtain rfl : i = 64 := by omega
     clear hi
     have hPl := trnL_length (bf (sha l)) b
     rw [List.take_of_length_le (by rw [hPl]; omega)] at own
     (repeat ((fail_if_success with_reducible refine rg ?_); go_step))
     refine wp_region_qp ?_
     refine qw_move (by rfl) rfl rfl ?_
     simp only [Act.put, pu]
     refine qw_value (by rfl) (.bool false) (x_lt _ _ _ _ rfl 64 64 rfl rfl false rfl) ?_
     simp only [Act.put, pu]
     refine qw_nil ?_
     intro w7 hqb
     replace own := own.belowAll hqb
     replace sb := below_on sb (Nat.le_refl _) hqb
     clear hqb
     rcases own with ⟨_, h0⟩ | ⟨gd, capd, curd, frd, rfl, hgd, hrow, hncd, hcmd, hcsd, hcelld, _⟩
     ·rw [h0] at hPl
      simp at hPl
     have rD : RowR w7 gd curd 5 := ⟨frd, hrow⟩
     (repeat ((fail_if_success with_reducible refine rg ?_); go_step))
     apply wp_region_mixp [] [_, _, _] trivial List.nodup_nil
     ·intro p
      refine mx_move rfl rfl ?_
      simp only [Act.put, pu]
      refine mx_value (.string ⟨(trnL (bf (sha l)) b).toArray⟩) [] (fun w' hkw _ => x_str _ rfl gd 0 capd (trnL (bf (sha l)) b).length (trnL (bf (sha l)) b) rfl rfl w' (hkw.rowR rD (by simp)) (fun j hj => by rw [Nat.zero_add]; exact hcelld j hj)) ?_
      simp only [Act.put, pu]
      refine mx_asg rfl rfl ?_
      simp only [Act.put, pu]
      refine mx_end ?_
      intro w8 hkw hrw hnew hdis
      replace sb := sb.trans (hkw.below w.heap.size sb.size (by simp <;> omega))
      clear hkw hrw hnew hdis
      go_wp2
      go_ret
      exact ⟨by unfold turnL; rw [HK.out]; rfl, sb⟩
     ·rfl
    | succ g =>
     have hi64 : i < 64 := by omega
     have hKi := bf_lt (sha l) i
     have hPl : ((trnL (bf (sha l)) b).take i).length = i := by rw [List.length_take, trnL_length]; omega
     obtain ⟨q, c, rfl⟩ := own.form
     (repeat ((fail_if_success with_reducible refine rg ?_); go_step))
     refine wp_region_qp ?_
     refine qw_move (by rfl) rfl rfl ?_
     simp only [Act.put, pu]
     refine qw_value (by rfl) (.bool true) (x_lt _ _ _ _ rfl i 64 rfl rfl true (decide_eq_true (by omega))) ?_
     simp only [Act.put, pu]
     refine qw_nil ?_
     intro wr3 hqb
     replace own := own.belowAll hqb
     replace sb := below_on sb (Nat.le_refl _) hqb
     clear hqb
     (repeat ((fail_if_success with_reducible refine rg ?_); go_step))
     refine wp_region_qp ?_
     refine qw_value (by rfl) (.int .u8 0) (fun _ => rfl) ?_
     simp only [Act.put, pu]
     refine qw_nil ?_
     intro wr4 hqb
     replace own := own.belowAll hqb
     replace sb := below_on sb (Nat.le_refl _) hqb
     clear hqb
     by_cases hin : i < (sha l).length
     ·skip
      (repeat ((fail_if_success with_reducible refine rg ?_); go_step))
      refine wp_region_qp ?_
      refine qw_move (by rfl) rfl rfl ?_
      simp only [Act.put, pu]
      refine qw_move (by rfl) rfl rfl ?_
      simp only [Act.put, pu]
      refine qw_value (by rfl) (.int .i64 ((sha l).length : Nat)) (fun w' => (x_lenS _ _ rfl ⟨(sha l).toArray⟩ rfl Tryd.underlying9 w').trans (by rw [hszK])) ?_
      simp only [Act.put, pu]
      refine qw_value (by rfl) (.bool true) (x_lt _ _ _ _ rfl i (sha l).length rfl rfl true (decide_eq_true (by omega))) ?_
      simp only [Act.put, pu]
      refine qw_nil ?_
      intro wr5 hqb
      replace own := own.belowAll hqb
      replace sb := below_on sb (Nat.le_refl _) hqb
      clear hqb
      (repeat ((fail_if_success with_reducible refine rg ?_); go_step))
      refine wp_region_qp ?_
      refine qw_move (by rfl) rfl rfl ?_
      simp only [Act.put, pu]
      refine qw_move (by rfl) rfl rfl ?_
      simp only [Act.put, pu]
      refine qw_value (by rfl) (.int .u8 (bf (sha l) i : Nat)) (x_index _ _ _ rfl Tryd.underlying9 (sha l) rfl .i64 i rfl hin) ?_
      simp only [Act.put, pu]
      refine qw_asg (by rfl) rfl rfl ?_
      simp only [Act.put, pu]
      refine qw_nil ?_
      intro wr5 hqb
      replace own := own.belowAll hqb
      replace sb := below_on sb (Nat.le_refl _) hqb
      clear hqb
      (repeat ((fail_if_success with_reducible refine rg ?_); go_step))
      refine wp_region_pw ?_
      refine pw_move (by rfl) (.inl rfl) rfl ?_
      simp only [Act.put, pu]
      refine pw_move (by rfl) (.inl rfl) rfl ?_
      simp only [Act.put, pu]
      refine pw_move (by rfl) (.inl rfl) rfl ?_
      simp only [Act.put, pu]
      refine pw_value (by rfl) (.int .u8 (bf (sha l) i ^^^ b : Nat)) (x8_xor _ _ _ _ rfl (bf (sha l) i) b rfl rfl hKi hb) ?_
      simp only [Act.put, pu]
      refine pw_lit1 (by rfl) _ rfl (bf (sha l) i ^^^ b) rfl ?_
      have sz := sb.size
      replace own := own.alloc (.cells #[.int .u8 (bf (sha l) i ^^^ b : Nat)] 5)
      have hnw := bnew_one wr5 (bf (sha l) i ^^^ b) (UInt8.ofNat (bf (sha l) i ^^^ b)) (UInt8.toNat_ofNat_of_lt' (xor8 hKi hb)) 5
      replace sb := sb.alloc sb.size (.cells #[.int .u8 (bf (sha l) i ^^^ b : Nat)] 5)
      simp only [Act.put, pu]
      refine pw_app (by rfl) _ _ rfl w.heap.size (.slice q ((trnL (bf (sha l)) b).take i).length c) ((trnL (bf (sha l)) b).take i) [UInt8.ofNat (bf (sha l) i ^^^ b)] rfl own ⟨wr5.heap.size, 0, none⟩ 1 1 rfl rfl hnw (by rw [hPl]; omega) sb.size ?_
      intro v8 w6 own8 gr
      replace sb := OB.grown sb own gr sb.size (Nat.le_refl _)
      rw [trnL_take _ _ _ hi64] at own8
      clear own gr hnw sz
      simp only [Act.put, pu]
      refine pw_move (by rfl) (.inr rfl) rfl ?_
      simp only [Act.put, pu]
      refine pw_nil ?_
      (repeat ((fail_if_success with_reducible refine rg ?_); go_step))
      refine wp_region_qp ?_
      refine qw_move (by rfl) rfl rfl ?_
      simp only [Act.put, pu]
      refine qw_value (by rfl) (.int .i64 (i + 1 : Nat)) (xi_add _ _ _ _ rfl i 1 rfl rfl (by omega)) ?_
      simp only [Act.put, pu]
      refine qw_asg (by rfl) rfl rfl ?_
      simp only [Act.put, pu]
      refine qw_nil ?_
      intro w7 hqb
      replace own8 := own8.belowAll hqb
      replace sb := below_on sb (Nat.le_refl _) hqb
      clear hqb
      go_wp2
      go_roundg g
      case measure => omega
      case rel => exact ⟨i + 1, by omega, rfl, own8, sb⟩
     ·have h0 : Hid (bf (sha l) i = 0) := bf_beyond _ _ (by omega)
      (repeat ((fail_if_success with_reducible refine rg ?_); go_step))
      refine wp_region_qp ?_
      refine qw_move (by rfl) rfl rfl ?_
      simp only [Act.put, pu]
      refine qw_move (by rfl) rfl rfl ?_
      simp only [Act.put, pu]
      refine qw_value (by rfl) (.int .i64 ((sha l).length : Nat)) (fun w' => (x_lenS _ _ rfl ⟨(sha l).toArray⟩ rfl Tryd.underlying9 w').trans (by rw [hszK])) ?_
      simp only [Act.put, pu]
      refine qw_value (by rfl) (.bool false) (x_lt _ _ _ _ rfl i (sha l).length rfl rfl false (decide_eq_false (by omega))) ?_
      simp only [Act.put, pu]
      refine qw_nil ?_
      intro wr5 hqb
      replace own := own.belowAll hqb
      replace sb := below_on sb (Nat.le_refl _) hqb
      clear hqb
      (repeat ((fail_if_success with_reducible refine rg ?_); go_step))
      refine wp_region_pw ?_
      refine pw_move (by rfl) (.inl rfl) rfl ?_
      simp only [Act.put, pu]
      refine pw_move (by rfl) (.inl rfl) rfl ?_
      simp only [Act.put, pu]
      refine pw_move (by rfl) (.inl rfl) rfl ?_
      simp only [Act.put, pu]
      refine pw_value (by rfl) (.int .u8 (bf (sha l) i ^^^ b : Nat)) (x8_xor _ _ _ _ rfl (bf (sha l) i) b (by rw [h0.out]; rfl) rfl hKi hb) ?_
      simp only [Act.put, pu]
      refine pw_lit1 (by rfl) _ rfl (bf (sha l) i ^^^ b) rfl ?_
      have sz := sb.size
      replace own := own.alloc (.cells #[.int .u8 (bf (sha l) i ^^^ b : Nat)] 5)
      have hnw := bnew_one wr5 (bf (sha l) i ^^^ b) (UInt8.ofNat (bf (sha l) i ^^^ b)) (UInt8.toNat_ofNat_of_lt' (xor8 hKi hb)) 5
      replace sb := sb.alloc sb.size (.cells #[.int .u8 (bf (sha l) i ^^^ b : Nat)] 5)
      simp only [Act.put, pu]
      refine pw_app (by rfl) _ _ rfl w.heap.size (.slice q ((trnL (bf (sha l)) b).take i).length c) ((trnL (bf (sha l)) b).take i) [UInt8.ofNat (bf (sha l) i ^^^ b)] rfl own ⟨wr5.heap.size, 0, none⟩ 1 1 rfl rfl hnw (by rw [hPl]; omega) sb.size ?_
      intro v8 w6 own8 gr
      replace sb := OB.grown sb own gr sb.size (Nat.le_refl _)
      rw [trnL_take _ _ _ hi64] at own8
      clear own gr hnw sz
      simp only [Act.put, pu]
      refine pw_move (by rfl) (.inr rfl) rfl ?_
      simp only [Act.put, pu]
      refine pw_nil ?_
      (repeat ((fail_if_success with_reducible refine rg ?_); go_step))
      refine wp_region_qp ?_
      refine qw_move (by rfl) rfl rfl ?_
      simp only [Act.put, pu]
      refine qw_value (by rfl) (.int .i64 (i + 1 : Nat)) (xi_add _ _ _ _ rfl i 1 rfl rfl (by omega)) ?_
      simp only [Act.put, pu]
      refine qw_asg (by rfl) rfl rfl ?_
      simp only [Act.put, pu]
      refine qw_nil ?_
      intro w7 hqb
      replace own8 := own8.belowAll hqb
      replace sb := below_on sb (Nat.le_refl _) hqb
      clear hqb
      go_wp2
      go_roundg g
      case measure => omega
      case rel => exact ⟨i + 1, by omega, rfl, own8, sb⟩
  ·have HK : Hid (keyL l = l) := keyL_short h
   (repeat ((fail_if_success with_reducible refine rg ?_); go_step))
   refine wp_region_qp ?_
   refine qw_move (by rfl) rfl rfl ?_
   simp only [Act.put, pu]
   refine qw_value (by rfl) (.int .i64 (l.length : Nat)) (fun w' => (x_lenS _ _ rfl ⟨l.toArray⟩ rfl Tryd.underlying9 w').trans (by rw [hsz_l])) ?_
   simp only [Act.put, pu]
   refine qw_value (by rfl) (.bool false) (x_gt _ _ _ _ rfl l.length 64 rfl rfl false (decide_eq_false (by omega))) ?_
   simp only [Act.put, pu]
   refine qw_nil ?_
   intro w3 hqb
   replace sb := below_on sb (Nat.le_refl _) hqb
   clear hqb
   (repeat ((fail_if_success with_reducible refine rg ?_); go_step))
   refine wp_region_qp ?_
   refine qw_value (by rfl) (.slice none 0 0) (fun _ => rfl) ?_
   simp only [Act.put, pu]
   refine qw_nil ?_
   intro w4 hqb
   replace sb := below_on sb (Nat.le_refl _) hqb
   clear hqb
   (repeat ((fail_if_success with_reducible refine rg ?_); go_step))
   refine wp_region_qp ?_
   refine qw_value (by rfl) (.int .i64 0) (fun _ => rfl) ?_
   simp only [Act.put, pu]
   refine qw_nil ?_
   intro w5 hqb
   replace sb := below_on sb (Nat.le_refl _) hqb
   clear hqb
   have H0 : OB w5 w.heap.size (.slice none 0 0) ((trnL (bf (l)) b).take 0) := ob_nil _ _
   have H1 := sb
   have hszK : (⟨(l).toArray⟩ : ByteArray).size = (l).length := by simp [ByteArray.size]
   clear sb
   go_wp2_with fail
   go_loopg [6, 7, 8] 64 (fun g s6 s7 s8 wr => ∃ i : Nat, i + g = 64 ∧ s7 = .int .i64 (i : Nat) ∧ OB wr w.heap.size s6 ((trnL (bf (l)) b).take i) ∧ Below w.heap.size w wr)
   case atStart => exact ⟨0, by omega, rfl, H0, H1⟩
   case round =>
    obtain ⟨i, hi, rfl, own, sb⟩ := hrel
    clear H0 H1
    cases gk with
    | zero =>
     obtain rfl : i = 64 := by omega
     clear hi
     have hPl := trnL_length (bf (l)) b
     rw [List.take_of_length_le (by rw [hPl]; omega)] at own
     (repeat ((fail_if_success with_reducible refine rg ?_); go_step))
     refine wp_region_qp ?_
     refine qw_move (by rfl) rfl rfl ?_
     simp only [Act.put, pu]
     refine qw_value (by rfl) (.bool false) (x_lt _ _ _ _ rfl 64 64 rfl rfl false rfl) ?_
     simp only [Act.put, pu]
     refine qw_nil ?_
     intro w7 hqb
     replace own := own.belowAll hqb
     replace sb := below_on sb (Nat.le_refl _) hqb
     clear hqb
     rcases own with ⟨_, h0⟩ | ⟨gd, capd, curd, frd, rfl, hgd, hrow, hncd, hcmd, hcsd, hcelld, _⟩
     ·rw [h0] at hPl
      simp at hPl
     have rD : RowR w7 gd curd 5 := ⟨frd, hrow⟩
     (repeat ((fail_if_success with_reducible refine rg ?_); go_step))
     apply wp_region_mixp [] [_, _, _] trivial List.nodup_nil
     ·intro p
      refine mx_move rfl rfl ?_
      simp only [Act.put, pu]
      refine mx_value (.string ⟨(trnL (bf (l)) b).toArray⟩) [] (fun w' hkw _ => x_str _ rfl gd 0 capd (trnL (bf (l)) b).length (trnL (bf (l)) b) rfl rfl w' (hkw.rowR rD (by simp)) (fun j hj => by rw [Nat.zero_add]; exact hcelld j hj)) ?_
      simp only [Act.put, pu]
      refine mx_asg rfl rfl ?_
      simp only [Act.put, pu]
      refine mx_end ?_
      intro w8 hkw hrw hnew hdis
      replace sb := sb.trans (hkw.below w.heap.size sb.size (by simp <;> omega))
      clear hkw hrw hnew hdis
      go_wp2
      go_ret
      exact ⟨by unfold turnL; rw [HK.out]; rfl, sb⟩
     ·rfl
    | succ g =>
     have hi64 : i < 64 := by omega
     have hKi := bf_lt (l) i
     have hPl : ((trnL (bf (l)) b).take i).length = i := by rw [List.length_take, trnL_length]; omega
     obtain ⟨q, c, rfl⟩ := own.form
     (repeat ((fail_if_success with_reducible refine rg ?_); go_step))
     refine wp_region_qp ?_
     refine qw_move (by rfl) rfl rfl ?_
     simp only [Act.put, pu]
     refine qw_value (by rfl) (.bool true) (x_lt _ _ _ _ rfl i 64 rfl rfl true (decide_eq_true (by omega))) ?_
     simp only [Act.put, pu]
     refine qw_nil ?_
     intro wr3 hqb
     replace own := own.belowAll hqb
     replace sb := below_on sb (Nat.le_refl _) hqb
     clear hqb
     (repeat ((fail_if_success with_reducible refine rg ?_); go_step))
     refine wp_region_qp ?_
     refine qw_value (by rfl) (.int .u8 0) (fun _ => rfl) ?_
     simp only [Act.put, pu]
     refine qw_nil ?_
     intro wr4 hqb
     replace own := own.belowAll hqb
     replace sb := below_on sb (Nat.le_refl _) hqb
     clear hqb
     by_cases hin : i < (l).length
     ·skip
      (repeat ((fail_if_success with_reducible refine rg ?_); go_step))
      refine wp_region_qp ?_
      refine qw_move (by rfl) rfl rfl ?_
      simp only [Act.put, pu]
      refine qw_move (by rfl) rfl rfl ?_
      simp only [Act.put, pu]
      refine qw_value (by rfl) (.int .i64 ((l).length : Nat)) (fun w' => (x_lenS _ _ rfl ⟨(l).toArray⟩ rfl Tryd.underlying9 w').trans (by rw [hszK])) ?_
      simp only [Act.put, pu]
      refine qw_value (by rfl) (.bool true) (x_lt _ _ _ _ rfl i (l).length rfl rfl true (decide_eq_true (by omega))) ?_
      simp only [Act.put, pu]
      refine qw_nil ?_
      intro wr5 hqb
      replace own := own.belowAll hqb
      replace sb := below_on sb (Nat.le_refl _) hqb
      clear hqb
      (repeat ((fail_if_success with_reducible refine rg ?_); go_step))
      refine wp_region_qp ?_
      refine qw_move (by rfl) rfl rfl ?_
      simp only [Act.put, pu]
      refine qw_move (by rfl) rfl rfl ?_
      simp only [Act.put, pu]
      refine qw_value (by rfl) (.int .u8 (bf (l) i : Nat)) (x_index _ _ _ rfl Tryd.underlying9 (l) rfl .i64 i rfl hin) ?_
      simp only [Act.put, pu]
      refine qw_asg (by rfl) rfl rfl ?_
      simp only [Act.put, pu]
      refine qw_nil ?_
      intro wr5 hqb
      replace own := own.belowAll hqb
      replace sb := below_on sb (Nat.le_refl _) hqb
      clear hqb
      (repeat ((fail_if_success with_reducible refine rg ?_); go_step))
      refine wp_region_pw ?_
      refine pw_move (by rfl) (.inl rfl) rfl ?_
      simp only [Act.put, pu]
      refine pw_move (by rfl) (.inl rfl) rfl ?_
      simp only [Act.put, pu]
      refine pw_move (by rfl) (.inl rfl) rfl ?_
      simp only [Act.put, pu]
      refine pw_value (by rfl) (.int .u8 (bf (l) i ^^^ b : Nat)) (x8_xor _ _ _ _ rfl (bf (l) i) b rfl rfl hKi hb) ?_
      simp only [Act.put, pu]
      refine pw_lit1 (by rfl) _ rfl (bf (l) i ^^^ b) rfl ?_
      have sz := sb.size
      replace own := own.alloc (.cells #[.int .u8 (bf (l) i ^^^ b : Nat)] 5)
      have hnw := bnew_one wr5 (bf (l) i ^^^ b) (UInt8.ofNat (bf (l) i ^^^ b)) (UInt8.toNat_ofNat_of_lt' (xor8 hKi hb)) 5
      replace sb := sb.alloc sb.size (.cells #[.int .u8 (bf (l) i ^^^ b : Nat)] 5)
      simp only [Act.put, pu]
      refine pw_app (by rfl) _ _ rfl w.heap.size (.slice q ((trnL (bf (l)) b).take i).length c) ((trnL (bf (l)) b).take i) [UInt8.ofNat (bf (l) i ^^^ b)] rfl own ⟨wr5.heap.size, 0, none⟩ 1 1 rfl rfl hnw (by rw [hPl]; omega) sb.size ?_
      intro v8 w6 own8 gr
      replace sb := OB.grown sb own gr sb.size (Nat.le_refl _)
      rw [trnL_take _ _ _ hi64] at own8
      clear own gr hnw sz
      simp only [Act.put, pu]
      refine pw_move (by rfl) (.inr rfl) rfl ?_
      simp only [Act.put, pu]
      refine pw_nil ?_
      (repeat ((fail_if_success with_reducible refine rg ?_); go_step))
      refine wp_region_qp ?_
      refine qw_move (by rfl) rfl rfl ?_
      simp only [Act.put, pu]
      refine qw_value (by rfl) (.int .i64 (i + 1 : Nat)) (xi_add _ _ _ _ rfl i 1 rfl rfl (by omega)) ?_
      simp only [Act.put, pu]
      refine qw_asg (by rfl) rfl rfl ?_
      simp only [Act.put, pu]
      refine qw_nil ?_
      intro w7 hqb
      replace own8 := own8.belowAll hqb
      replace sb := below_on sb (Nat.le_refl _) hqb
      clear hqb
      go_wp2
      go_roundg g
      case measure => omega
      case rel => exact ⟨i + 1, by omega, rfl, own8, sb⟩
     ·have h0 : Hid (bf (l) i = 0) := bf_beyond _ _ (by omega)
      (repeat ((fail_if_success with_reducible refine rg ?_); go_step))
      refine wp_region_qp ?_
      refine qw_move (by rfl) rfl rfl ?_
      simp only [Act.put, pu]
      refine qw_move (by rfl) rfl rfl ?_
      simp only [Act.put, pu]
      refine qw_value (by rfl) (.int .i64 ((l).length : Nat)) (fun w' => (x_lenS _ _ rfl ⟨(l).toArray⟩ rfl Tryd.underlying9 w').trans (by rw [hszK])) ?_
      simp only [Act.put, pu]
      refine qw_value (by rfl) (.bool false) (x_lt _ _ _ _ rfl i (l).length rfl rfl false (decide_eq_false (by omega))) ?_
      simp only [Act.put, pu]
      refine qw_nil ?_
      intro wr5 hqb
      replace own := own.belowAll hqb
      replace sb := below_on sb (Nat.le_refl _) hqb
      clear hqb
      (repeat ((fail_if_success with_reducible refine rg ?_); go_step))
      refine wp_region_pw ?_
      refine pw_move (by rfl) (.inl rfl) rfl ?_
      simp only [Act.put, pu]
      refine pw_move (by rfl) (.inl rfl) rfl ?_
      simp only [Act.put, pu]
      refine pw_move (by rfl) (.inl rfl) rfl ?_
      simp only [Act.put, pu]
      refine pw_value (by rfl) (.int .u8 (bf (l) i ^^^ b : Nat)) (x8_xor _ _ _ _ rfl (bf (l) i) b (by rw [h0.out]; rfl) rfl hKi hb) ?_
      simp only [Act.put, pu]
      refine pw_lit1 (by rfl) _ rfl (bf (l) i ^^^ b) rfl ?_
      have sz := sb.size
      replace own := own.alloc (.cells #[.int .u8 (bf (l) i ^^^ b : Nat)] 5)
      have hnw := bnew_one wr5 (bf (l) i ^^^ b) (UInt8.ofNat (bf (l) i ^^^ b)) (UInt8.toNat_ofNat_of_lt' (xor8 hKi hb)) 5
      replace sb := sb.alloc sb.size (.cells #[.int .u8 (bf (l) i ^^^ b : Nat)] 5)
      simp only [Act.put, pu]
      refine pw_app (by rfl) _ _ rfl w.heap.size (.slice q ((trnL (bf (l)) b).take i).length c) ((trnL (bf (l)) b).take i) [UInt8.ofNat (bf (l) i ^^^ b)] rfl own ⟨wr5.heap.size, 0, none⟩ 1 1 rfl rfl hnw (by rw [hPl]; omega) sb.size ?_
      intro v8 w6 own8 gr
      replace sb := OB.grown sb own gr sb.size (Nat.le_refl _)
      rw [trnL_take _ _ _ hi64] at own8
      clear own gr hnw sz
      simp only [Act.put, pu]
      refine pw_move (by rfl) (.inr rfl) rfl ?_
      simp only [Act.put, pu]
      refine pw_nil ?_
      (repeat ((fail_if_success with_reducible refine rg ?_); go_step))
      refine wp_region_qp ?_
      refine qw_move (by rfl) rfl rfl ?_
      simp only [Act.put, pu]
      refine qw_value (by rfl) (.int .i64 (i + 1 : Nat)) (xi_add _ _ _ _ rfl i 1 rfl rfl (by omega)) ?_
      simp only [Act.put, pu]
      refine qw_asg (by rfl) rfl rfl ?_
      simp only [Act.put, pu]
      refine qw_nil ?_
      intro w7 hqb
      replace own8 := own8.belowAll hqb
      replace sb := below_on sb (Nat.le_refl _) hqb
      clear hqb
      go_wp2
      go_roundg g
      case measure => omega
      case rel => exact ⟨i + 1, by omega, rfl, own8, sb⟩
 ·rfl
set_option maxRecDepth 100000 in
set_option maxHeartbeats 2000000 in
theorem rtag_any (k s : List UInt8) (w : World) (hk : k.length < 4294967296) (hs : s.length < 2147483648) :
  Calls Tryd.prog 27 #[.string ⟨k.toArray⟩, .string ⟨s.toArray⟩] w fun e w' => e = .returned (.string ⟨(hm k s).toArray⟩) ∧ Below w.heap.size w w' := by
 have h0 : (sha (turnL k 54 ++ s)).length = 32 := sha_length _
 have h1 : (turnL k 54 ++ s).length < 4294967296 := by rw [List.length_append, turnL_length]; omega
 have h2 : (turnL k 92 ++ sha (turnL k 54 ++ s)).length < 4294967296 := by rw [List.length_append, turnL_length, h0]; omega
 have h3 := turnL_length k 54
 have h4 := turnL_length k 92
 go_enter Tryd.func27, Tryd.ntmps27
 (repeat ((fail_if_success with_reducible refine rg ?_); go_step))
 apply wp_region_mixp [] [_] trivial List.nodup_nil
 ·intro p
  refine mx_val (.string ⟨#[]⟩) (fun _ => rfl) ?_
  simp only [Act.put, pu]
  refine mx_end ?_
  intro w2 hkw hrw hnew hdis
  have sb := hkw.below w.heap.size (Nat.le_refl _) (by simp)
  clear hkw hrw hnew hdis
  (repeat ((fail_if_success with_reducible refine rg ?_); go_step))
  refine wp_region_qp ?_
  refine qw_move (by rfl) rfl rfl ?_
  simp only [Act.put, pu]
  refine qw_call (by rfl) 34 _ _ rfl Tryd.func34 (by kernel_rfl) #[.string ⟨k.toArray⟩, .int .u8 (92 : Nat)] rfl _ (fun w' => rturned_any k 92 w' hk (by decide)) ?_
  simp only [Act.put, pu]
  refine qw_move (by rfl) rfl rfl ?_
  simp only [Act.put, pu]
  refine qw_call (by rfl) 34 _ _ rfl Tryd.func34 (by kernel_rfl) #[.string ⟨k.toArray⟩, .int .u8 (54 : Nat)] rfl _ (fun w' => rturned_any k 54 w' hk (by decide)) ?_
  simp only [Act.put, pu]
  refine qw_move (by rfl) rfl rfl ?_
  simp only [Act.put, pu]
  refine qw_value (by rfl) (.string ⟨(turnL k 54 ++ s).toArray⟩) (x_cat _ _ _ _ rfl (turnL k 54) s rfl rfl (by omega)) ?_
  simp only [Act.put, pu]
  refine qw_call (by rfl) 33 _ _ rfl Tryd.func33 (by kernel_rfl) #[.string ⟨(turnL k 54 ++ s).toArray⟩] rfl _ (fun w' => rsum_any (turnL k 54 ++ s) w' h1) ?_
  simp only [Act.put, pu]
  refine qw_value (by rfl) (.string ⟨(turnL k 92 ++ sha (turnL k 54 ++ s)).toArray⟩) (x_cat _ _ _ _ rfl (turnL k 92) (sha (turnL k 54 ++ s)) rfl rfl (by omega)) ?_
  simp only [Act.put, pu]
  refine qw_call (by rfl) 33 _ _ rfl Tryd.func33 (by kernel_rfl) #[.string ⟨(turnL k 92 ++ sha (turnL k 54 ++ s)).toArray⟩] rfl _ (fun w' => rsum_any (turnL k 92 ++ sha (turnL k 54 ++ s)) w' h2) ?_
  simp only [Act.put, pu]
  refine qw_asg (by rfl) rfl rfl ?_
  simp only [Act.put, pu]
  refine qw_nil ?_
  intro w3 hqb
  replace sb := below_on sb (Nat.le_refl _) hqb
  clear hqb
  go_wp2
  go_ret
  exact ⟨rfl, sb⟩
 ·rfl
/-- The lowest eight bits. -/
def by8 (x : Int) : Nat := (x % 256).toNat
theorem by8_lt (x : Int) : by8 x < 256 := by unfold by8; omega
theorem by8_by8 (x : Int) : by8 ((by8 x : Nat) : Int) = by8 x := by unfold by8; omega
theorem wrp8z (x : Int) : IntKind.u8.wrap x = ((by8 x : Nat) : Int) := by rw [IntKind.wrap_u8']; unfold by8; omega
def keyT (x y : Int) : List UInt8 := [107, 101, 121, UInt8.ofNat (by8 x), UInt8.ofNat (by8 y)]
def keyE (x y : Int) : List UInt8 := [UInt8.ofNat (by8 x), UInt8.ofNat (by8 y)]
theorem keyT_congr {x y x' y' : Int} (h1 : by8 x = by8 x') (h2 : by8 y = by8 y') : keyT x y = keyT x' y' := by unfold keyT; rw [h1, h2]
theorem of8 (x : Int) : (UInt8.ofNat (by8 x)).toNat = by8 x := UInt8.toNat_ofNat_of_lt' (by8_lt x)
theorem i64_and255 (x : Int) : bits .and .i64 x 255 = ((by8 x : Nat) : Int) := by
 show IntKind.i64.wrap ((BitVec.ofInt 64 x &&& BitVec.ofInt 64 255).toNat : Int) = _
 have h255 : (BitVec.ofInt 64 255).toNat = 2 ^ 8 - 1 := by decide
 rw [BitVec.toNat_and, h255, Nat.and_two_pow_sub_one_eq_mod, BitVec.toNat_ofInt]
 have e : (x % ((2 ^ 64 : Nat) : Int)).toNat % 2 ^ 8 = by8 x := by
  unfold by8
  omega
 rw [e]
 exact wrap_i64 _ (by have := by8_lt x; omega)
theorem x_and255 {P : Program} {o : Oper} {ρ : Operand → Value} (t : TypeId) (x y : Operand) (u : TypeId) (ho : o.op = .binOp .and t x y u) (n : Int) (hx : ρ x = .int .i64 n) (hy : ρ y = .int .i64 255) (w : World) :
  (execOp ρ o).run P w = .ok (.value (.int .i64 ((by8 n : Nat) : Int))) w := by
 unfold execOp
 simp only [ho, hx, hy]
 simp [go_sem]
 exact i64_and255 n
section
variable {ops : Array Oper} {Q : Exit → Act → World → Prop} {rest : List Oper} {o : Oper} {a : Act} {w : World}
theorem pw_lit2 (hw : Region.wanted o (yielded ops a.tmps) = true) (x y : Operand) (ho : o.op = .buildSlice 35 2 #[(0, x), (1, y)]) (n m : Nat) (hx : a.eval x = .int .u8 (n : Nat)) (hy : a.eval y = .int .u8 (m : Nat))
  (h : PW Tryd.prog ops Q rest (a.put o.dst (.slice (some ⟨w.heap.size, 0, none⟩) 2 2)) (w.alloc (.cells #[.int .u8 (n : Nat), .int .u8 (m : Nat)] 5))) : PW Tryd.prog ops Q (o :: rest) a w := by
 obtain ⟨i, hi, hz, hs1, hb1⟩ := sinfo_b8
 exact pw_lits hw 35 5 2 _ ho #[.int .u8 (n : Nat), .int .u8 (m : Nat)] i (.int .u8 0) Tryd.underlying35 hi hz (by rw [hs1]; decide) (by rw [hs1]; decide) [(0, .int .u8 (n : Nat)), (1, .int .u8 (m : Nat))] (by show [(0, a.eval x), (1, a.eval y)] = _; rw [hx, hy]) (by rw [hs1]; kernel_rfl) h
theorem pw_lit5 (hw : Region.wanted o (yielded ops a.tmps) = true) (x0 x1 x2 x3 x4 : Operand) (ho : o.op = .buildSlice 35 5 #[(0, x0), (1, x1), (2, x2), (3, x3), (4, x4)]) (n0 n1 n2 n3 n4 : Nat) (h0 : a.eval x0 = .int .u8 (n0 : Nat)) (h1 : a.eval x1 = .int .u8 (n1 : Nat)) (h2 : a.eval x2 = .int .u8 (n2 : Nat)) (h3 : a.eval x3 = .int .u8 (n3 : Nat)) (h4 : a.eval x4 = .int .u8 (n4 : Nat))
  (h : PW Tryd.prog ops Q rest (a.put o.dst (.slice (some ⟨w.heap.size, 0, none⟩) 5 5)) (w.alloc (.cells #[.int .u8 (n0 : Nat), .int .u8 (n1 : Nat), .int .u8 (n2 : Nat), .int .u8 (n3 : Nat), .int .u8 (n4 : Nat)] 5))) : PW Tryd.prog ops Q (o :: rest) a w := by
 obtain ⟨i, hi, hz, hs1, hb1⟩ := sinfo_b8
 exact pw_lits hw 35 5 5 _ ho #[.int .u8 (n0 : Nat), .int .u8 (n1 : Nat), .int .u8 (n2 : Nat), .int .u8 (n3 : Nat), .int .u8 (n4 : Nat)] i (.int .u8 0) Tryd.underlying35 hi hz (by rw [hs1]; decide) (by rw [hs1]; decide) [(0, .int .u8 (n0 : Nat)), (1, .int .u8 (n1 : Nat)), (2, .int .u8 (n2 : Nat)), (3, .int .u8 (n3 : Nat)), (4, .int .u8 (n4 : Nat))] (by show [(0, a.eval x0), (1, a.eval x1), (2, a.eval x2), (3, a.eval x3), (4, a.eval x4)] = _; rw [h0, h1, h2, h3, h4]) (by rw [hs1]; kernel_rfl) h
end
theorem cells_T (x y : Int) : ∀ j, j < (keyT x y).length → (#[.int .u8 ((107 : Nat) : Int), .int .u8 ((101 : Nat) : Int), .int .u8 ((121 : Nat) : Int), .int .u8 ((by8 x : Nat) : Int), .int .u8 ((by8 y : Nat) : Int)] : Array Value)[0 + j]? = some (.int .u8 (bf (keyT x y) j : Nat)) := by
 intro j hj
 have hj : j < 5 := hj
 match j, hj with
 | 0, _ => rfl
 | 1, _ => rfl
 | 2, _ => rfl
 | 3, _ => rw [show bf (keyT x y) 3 = by8 x from of8 x]; rfl
 | 4, _ => rw [show bf (keyT x y) 4 = by8 y from of8 y]; rfl
theorem cells_E (x y : Int) : ∀ j, j < (keyE x y).length → (#[.int .u8 ((by8 x : Nat) : Int), .int .u8 ((by8 y : Nat) : Int)] : Array Value)[0 + j]? = some (.int .u8 (bf (keyE x y) j : Nat)) := by
 intro j hj
 have hj : j < 2 := hj
 match j, hj with
 | 0, _ => rw [show bf (keyE x y) 0 = by8 x from of8 x]; rfl
 | 1, _ => rw [show bf (keyE x y) 1 = by8 y from of8 y]; rfl
set_option maxRecDepth 100000 in
set_option maxHeartbeats 2000000 in
theorem key_any (k : List UInt8) (x y : Int) (w : World) (hk : k.length < 576460752303423488) (kT : KT w) :
  Calls Tryd.prog 18 #[.string ⟨k.toArray⟩, .int .i64 x, .int .i64 y] w fun e w' => e = .returned (.string ⟨(hm k (keyT x y)).toArray⟩) ∧ Below w.heap.size w w' := by
 have hT : (keyT x y).length < 288230376151711744 := by show 5 < _; omega
 go_enter Tryd.func18, Tryd.ntmps18
 (repeat ((fail_if_success with_reducible refine rg ?_); go_step))
 apply wp_region_mixp [] [_] trivial List.nodup_nil
 ·intro p
  refine mx_val (.string ⟨#[]⟩) (fun _ => rfl) ?_
  simp only [Act.put, pu]
  refine mx_end ?_
  intro w2 hkw hrw hnew hdis
  have sb := hkw.below w.heap.size (Nat.le_refl _) (by simp)
  clear hkw hrw hnew hdis
  (repeat ((fail_if_success with_reducible refine rg ?_); go_step))
  refine wp_region_pw ?_
  refine pw_move (by rfl) (.inl rfl) rfl ?_
  simp only [Act.put, pu]
  refine pw_move (by rfl) (.inl rfl) rfl ?_
  simp only [Act.put, pu]
  refine pw_value (by rfl) (.int .u8 (by8 x : Nat)) (x_conv _ _ _ rfl .i64 .u8 Tryd.underlying3 Tryd.underlying5 x _ rfl (wrp8z x)) ?_
  simp only [Act.put, pu]
  refine pw_move (by rfl) (.inl rfl) rfl ?_
  simp only [Act.put, pu]
  refine pw_value (by rfl) (.int .u8 (by8 y : Nat)) (x_conv _ _ _ rfl .i64 .u8 Tryd.underlying3 Tryd.underlying5 y _ rfl (wrp8z y)) ?_
  simp only [Act.put, pu]
  refine pw_lit5 (by rfl) _ _ _ _ _ rfl 107 101 121 (by8 x) (by8 y) rfl rfl rfl rfl rfl ?_
  have rL := (Row.new w2 #[.int .u8 ((107 : Nat) : Int), .int .u8 ((101 : Nat) : Int), .int .u8 ((121 : Nat) : Int), .int .u8 ((by8 x : Nat) : Int), .int .u8 ((by8 y : Nat) : Int)] 5).r
  replace sb := sb.alloc sb.size (.cells #[.int .u8 ((107 : Nat) : Int), .int .u8 ((101 : Nat) : Int), .int .u8 ((121 : Nat) : Int), .int .u8 ((by8 x : Nat) : Int), .int .u8 ((by8 y : Nat) : Int)] 5)
  simp only [Act.put, pu]
  refine pw_run (by rfl) (.string ⟨(keyT x y).toArray⟩) _ (x_str _ rfl w2.heap.size 0 5 5 (keyT x y) rfl rfl _ rL (cells_T x y)) ?_
  simp only [Act.put, pu]
  refine pw_call (by rfl) 17 _ _ rfl Tryd.func17 (by kernel_rfl) #[.string ⟨k.toArray⟩, .string ⟨(keyT x y).toArray⟩] rfl _ (tag_any k (keyT x y) _ hk hT (kT.below sb)) ?_
  intro w4 bb
  replace sb := below_on sb (Nat.le_refl _) bb
  clear bb
  simp only [Act.put, pu]
  refine pw_move (by rfl) (.inr rfl) rfl ?_
  simp only [Act.put, pu]
  refine pw_nil ?_
  go_wp2
  go_ret
  exact ⟨rfl, sb⟩
 ·rfl
set_option maxRecDepth 100000 in
set_option maxHeartbeats 2000000 in
theorem rkey_any (k : List UInt8) (x y : Int) (w : World) (hk : k.length < 4294967296) :
  Calls Tryd.prog 28 #[.string ⟨k.toArray⟩, .int .i64 x, .int .i64 y] w fun e w' => e = .returned (.string ⟨(hm k (keyT x y)).toArray⟩) ∧ Below w.heap.size w w' := by
 have hT : (keyT x y).length < 2147483648 := by show 5 < _; omega
 have hE : ([107, 101, 121] : List UInt8).length + (keyE x y).length ≤ 9223372036854775807 := by show 3 + 2 ≤ _; omega
 go_enter Tryd.func28, Tryd.ntmps28
 (repeat ((fail_if_success with_reducible refine rg ?_); go_step))
 apply wp_region_mixp [] [_] trivial List.nodup_nil
 ·intro p
  refine mx_val (.string ⟨#[]⟩) (fun _ => rfl) ?_
  simp only [Act.put, pu]
  refine mx_end ?_
  intro w2 hkw hrw hnew hdis
  have sb := hkw.below w.heap.size (Nat.le_refl _) (by simp)
  clear hkw hrw hnew hdis
  (repeat ((fail_if_success with_reducible refine rg ?_); go_step))
  refine wp_region_pw ?_
  refine pw_move (by rfl) (.inl rfl) rfl ?_
  simp only [Act.put, pu]
  refine pw_move (by rfl) (.inl rfl) rfl ?_
  simp only [Act.put, pu]
  refine pw_value (by rfl) (.int .i64 (by8 x : Nat)) (x_and255 _ _ _ _ rfl x rfl rfl) ?_
  simp only [Act.put, pu]
  refine pw_value (by rfl) (.int .u8 (by8 x : Nat)) (x_conv _ _ _ rfl .i64 .u8 Tryd.underlying3 Tryd.underlying5 ((by8 x : Nat) : Int) _ rfl (wrp8 _ _ (Nat.mod_eq_of_lt (by8_lt x)))) ?_
  simp only [Act.put, pu]
  refine pw_move (by rfl) (.inl rfl) rfl ?_
  simp only [Act.put, pu]
  refine pw_value (by rfl) (.int .i64 (by8 y : Nat)) (x_and255 _ _ _ _ rfl y rfl rfl) ?_
  simp only [Act.put, pu]
  refine pw_value (by rfl) (.int .u8 (by8 y : Nat)) (x_conv _ _ _ rfl .i64 .u8 Tryd.underlying3 Tryd.underlying5 ((by8 y : Nat) : Int) _ rfl (wrp8 _ _ (Nat.mod_eq_of_lt (by8_lt y)))) ?_
  simp only [Act.put, pu]
  refine pw_lit2 (by rfl) _ _ rfl (by8 x) (by8 y) rfl rfl ?_
  have rL := (Row.new w2 #[.int .u8 ((by8 x : Nat) : Int), .int .u8 ((by8 y : Nat) : Int)] 5).r
  replace sb := sb.alloc sb.size (.cells #[.int .u8 ((by8 x : Nat) : Int), .int .u8 ((by8 y : Nat) : Int)] 5)
  simp only [Act.put, pu]
  refine pw_run (by rfl) (.string ⟨(keyE x y).toArray⟩) _ (x_str _ rfl w2.heap.size 0 2 2 (keyE x y) rfl rfl _ rL (cells_E x y)) ?_
  simp only [Act.put, pu]
  refine pw_value (by rfl) (.string ⟨(keyT x y).toArray⟩) (x_cat _ _ _ _ rfl [107, 101, 121] (keyE x y) rfl rfl hE) ?_
  simp only [Act.put, pu]
  refine pw_call (by rfl) 27 _ _ rfl Tryd.func27 (by kernel_rfl) #[.string ⟨k.toArray⟩, .string ⟨(keyT x y).toArray⟩] rfl _ (rtag_any k (keyT x y) _ hk hT) ?_
  intro w4 bb
  replace sb := below_on sb (Nat.le_refl _) bb
  clear bb
  simp only [Act.put, pu]
  refine pw_move (by rfl) (.inr rfl) rfl ?_
  simp only [Act.put, pu]
  refine pw_nil ?_
  go_wp2
  go_ret
  exact ⟨rfl, sb⟩
 ·rfl
end Go.Proofs.YtdanmnhknmepiaaDoor
