/- The document's Try, Draw, Draws of layer 10; its Same of layer 8. -/
import Derived.Test.YtlacmkliofnjcaaDoorTC
import Derived.OwnWalk
namespace Go.Proofs.YtlacmkliofnjcaaDoor
open Go.RowKit
set_option linter.unusedVariables false
theorem size1tbool : (Tryd.prog.info? 4).map (·.size) = some 1 := by kernel_rfl
theorem and_1 (x : Int) : bits .and .i64 x 1 = (((x % 2).toNat : Nat) : Int) := by
 show IntKind.i64.wrap ((BitVec.ofInt 64 x &&& BitVec.ofInt 64 1).toNat : Int) = _
 have h1 : (BitVec.ofInt 64 1).toNat = 2 ^ 1 - 1 := by decide
 rw [BitVec.toNat_and, h1, Nat.and_two_pow_sub_one_eq_mod, BitVec.toNat_ofInt]
 have e : (x % ((2 ^ 64 : Nat) : Int)).toNat % 2 ^ 1 = (x % 2).toNat := by omega
 rw [e]
 exact wrap_i64 _ (by omega)
theorem try_bit (N i k : Nat) (hk : k < 8) : decide (bits .and .i64 ((byt N i / 2 ^ k : Nat) : Int) 1 = 1) = N.testBit (8 * i + k) := by
 have h := byt_bit N i k
 rw [decide_eq_true hk, Bool.true_and] at h
 rw [and_1, ← h, Nat.testBit_eq_decide_div_mod_eq]
 generalize byt N i / 2 ^ k = y
 have e : (((y : Int) % 2).toNat : Int) = ((y % 2 : Nat) : Int) := by omega
 rw [e]
 by_cases h1 : y % 2 = 1
 ·rw [decide_eq_true h1, decide_eq_true (by omega)]
 ·rw [decide_eq_false h1, decide_eq_false (by omega)]
theorem try_end (s : List UInt8) (L : Nat) : natB s % 2 ^ (min (8 * s.length) L) = natB s % 2 ^ L := by
 have h := natB_lt s
 by_cases hl : 8 * s.length ≤ L
 ·rw [Nat.min_eq_left hl, Nat.mod_eq_of_lt h, Nat.mod_eq_of_lt (Nat.lt_of_lt_of_le h (Nat.pow_le_pow_right (by decide) hl))]
 ·rw [Nat.min_eq_right (by omega)]
theorem yb_byt (s : List UInt8) (i : Nat) (hi : i < s.length) : yb s (s.length - 1 - i) = byt (natB s) i := by
 rw [natB_byt s i hi]
 unfold yb
 rw [List.getD_eq_getElem?_getD, List.getElem?_eq_getElem (by omega)]
 rfl
set_option maxRecDepth 100000 in
set_option maxHeartbeats 2000000 in
theorem rtry_core (s : List UInt8) (q L N U : Nat) (w : World) (hs : s.length ≤ 1000) (hL : L ≤ 256) (hN : Hid (natB s = N)) (hU : Hid (N % 2 ^ (min (8 * s.length) L) = U))
  (hlen : ∀ w', Calls Tryd.prog 37 #[.agg (natC q)] w' fun e w2 => e = .returned (.int .i64 (L : Nat)) ∧ Below w'.heap.size w' w2) :
  Calls Tryd.prog 47 #[.string ⟨(s).toArray⟩, .agg (natC q)] w fun e w' => e = .returned (.agg (natC U)) ∧ Below w.heap.size w w' := by
 go_enter Tryd.func47, Tryd.ntmps47
 (repeat ((fail_if_success with_reducible refine rg ?_); go_step))
 refine wp_region_pw ?_
 refine pw_boxr (by rfl) 35 _ rfl (_) rfl ?_
 intro g3 z0 n0 r3 k
 simp only [Act.put, pu]
 have b3 : w.heap.size ≤ g3 := n0
 clear n0
 have sb := k.below w.heap.size (Nat.le_refl _) (by simp)
 clear k
 refine pw_new (by rfl) 35 rfl _ zero_nat ?_
 intro g4 z1 n0 r4 k
 simp only [Act.put, pu]
 have d3x4 := Nat.lt_of_lt_of_le r3.lt n0
 have b4 := Nat.le_trans sb.size n0
 clear n0
 replace r3 := k.row r3 (by simp <;> omega)
 replace sb := sb.trans (k.below w.heap.size sb.size (by simp <;> omega))
 clear k
 refine pw_nil ?_
 (repeat ((fail_if_success with_reducible refine rg ?_); go_step))
 refine wp_region_pw ?_
 refine pw_value (by rfl) (.agg (bitC 0)) (exec_build0 _ rfl _ built_bits) ?_
 simp only [Act.put, pu]
 refine pw_new (by rfl) 85 rfl _ zero_bits ?_
 intro g5 z1001 n0 r5 k
 simp only [Act.put, pu]
 have d3x5 := Nat.lt_of_lt_of_le r3.lt n0
 have d4x5 := Nat.lt_of_lt_of_le r4.lt n0
 have b5 := Nat.le_trans sb.size n0
 clear n0
 replace r3 := k.row r3 (by simp <;> omega)
 replace r4 := k.row r4 (by simp <;> omega)
 replace sb := sb.trans (k.below w.heap.size sb.size (by simp <;> omega))
 clear k
 refine pw_put (by rfl) 85 _ _ rfl _ rfl r5 (bitC 0) rfl (by rw [bitC_size]; exact size_bits) (by simp only [bitC_size]) (bitC_one _) ?_
 clear r5
 intro z1002 r5 k
 simp only [Act.put]
 replace r3 := k.row r3 (by simp <;> omega)
 replace r4 := k.row r4 (by simp <;> omega)
 replace sb := sb.trans (k.below w.heap.size sb.size (by simp <;> omega))
 clear k
 refine pw_nil ?_
 (repeat ((fail_if_success with_reducible refine rg ?_); go_step))
 refine wp_region_pw ?_
 refine pw_value (by rfl) (.int .i64 0) (fun _ => rfl) ?_
 simp only [Act.put, pu]
 refine pw_nil ?_
 go_wp2_with fail
 go_loopg [6, 7, 8] s.length (fun g s6 s7 s8 wr => ∃ i : Nat, i + g = s.length ∧ s6 = .int .i64 i ∧ Row wr g3 (natC q) 35 ∧ Row wr g4 (natC 0) 35 ∧ Row wr g5 (bitC (N % 2 ^ (min (8 * i) L))) 85 ∧ Below w.heap.size w wr)
 case atStart => exact ⟨0, by omega, rfl, r3, r4, by rw [Nat.mul_zero, Nat.zero_min, Nat.pow_zero, Nat.mod_one]; exact r5, sb⟩
 case round =>
  clear r3 r4 r5 sb
  obtain ⟨i, hi, rfl, r3, r4, r5, sb⟩ := hrel
  cases gk with
  | zero =>
   obtain rfl : i = s.length := by omega
   clear hi
   have hn := fun w' => rnat_any U w'
   rw [hU.out] at r5
   (repeat ((fail_if_success with_reducible refine rg ?_); go_step))
   refine wp_region_pw ?_
   refine pw_mv (by rfl) rfl rfl ?_
   simp only [Act.put, pu]
   refine pw_mv (by rfl) rfl rfl ?_
   simp only [Act.put, pu]
   refine pw_value (by rfl) (.int .i64 s.length) (y_lenS _ _ rfl s rfl Tryd.underlying9) ?_
   simp only [Act.put, pu]
   refine pw_value (by rfl) (.bool false) (exec_lt_b _ _ _ _ rfl s.length s.length rfl rfl false (decide_eq_false (Int.lt_irrefl _))) ?_
   simp only [Act.put, pu]
   refine pw_nil ?_
   (repeat ((fail_if_success with_reducible refine rg ?_); go_step))
   refine wp_region_pw ?_
   refine pw_loadm (by rfl) 85 _ rfl _ 0 rfl r5.r _ (part_all _) _ Tryd.underlying85 rfl (by rw [bitC_size]; exact size_bits) ?_
   simp only [Act.put, pu]
   refine pw_callB (by rfl) 40 _ _ rfl Tryd.func40 (by kernel_rfl) #[.agg (bitC U)] rfl _ (hn _) ?_
   intro z10001 k
   simp only [Act.put, pu]
   replace r3 := k.row r3 (by simp <;> omega)
   replace r4 := k.row r4 (by simp <;> omega)
   replace r5 := k.row r5 (by simp <;> omega)
   replace sb := sb.trans (k.below w.heap.size sb.size (by simp <;> omega))
   clear k
   refine pw_put (by rfl) 35 _ _ rfl _ rfl r4 (natC U) rfl (by exact size_nat) (by simp only [natC_size]) (natC_one _) ?_
   clear r4
   intro z10002 r4 k
   simp only [Act.put]
   replace r3 := k.row r3 (by simp <;> omega)
   replace r5 := k.row r5 (by simp <;> omega)
   replace sb := sb.trans (k.below w.heap.size sb.size (by simp <;> omega))
   clear k
   refine pw_nil ?_
   go_wp2
   exact ret_row rfl _ rfl r4 4 _ Tryd.underlying35 (by exact size_nat) rfl ⟨rfl, sb⟩
  | succ g =>
   have hin : i < s.length := by omega
   have hyb : Hid (yb s (s.length - 1 - i) = byt N i) := by
    show yb s (s.length - 1 - i) = byt N i
    rw [yb_byt s i hin, hN.out]
   have hc := yb_lt s (s.length - 1 - i)
   generalize hC : yb s (s.length - 1 - i) = C at *
   (repeat ((fail_if_success with_reducible refine rg ?_); go_step))
   refine wp_region_pw ?_
   refine pw_mv (by rfl) rfl rfl ?_
   simp only [Act.put, pu]
   refine pw_mv (by rfl) rfl rfl ?_
   simp only [Act.put, pu]
   refine pw_value (by rfl) (.int .i64 s.length) (y_lenS _ _ rfl s rfl Tryd.underlying9) ?_
   simp only [Act.put, pu]
   refine pw_value (by rfl) (.bool true) (exec_lt_b _ _ _ _ rfl i s.length rfl rfl true (decide_eq_true (by omega))) ?_
   simp only [Act.put, pu]
   refine pw_nil ?_
   (repeat ((fail_if_success with_reducible refine rg ?_); go_step))
   refine wp_region_pw ?_
   refine pw_mv (by rfl) rfl rfl ?_
   simp only [Act.put, pu]
   refine pw_mv (by rfl) rfl rfl ?_
   simp only [Act.put, pu]
   refine pw_value (by rfl) (.int .i64 s.length) (y_lenS _ _ rfl s rfl Tryd.underlying9) ?_
   simp only [Act.put, pu]
   refine pw_value (by rfl) (.int .i64 ((s.length - 1 : Nat) : Int)) (exec_sub_in _ _ _ _ rfl s.length 1 rfl rfl (by omega) (by omega)) ?_
   simp only [Act.put, pu]
   refine pw_mv (by rfl) rfl rfl ?_
   simp only [Act.put, pu]
   refine pw_value (by rfl) (.int .i64 ((s.length - 1 - i : Nat) : Int)) (exec_sub_in _ _ _ _ rfl (s.length - 1) i rfl rfl (by omega) (by omega)) ?_
   simp only [Act.put, pu]
   refine pw_value (by rfl) (.int .u8 (C : Nat)) (fun w' => (y_index _ _ _ rfl Tryd.underlying9 s rfl .i64 (s.length - 1 - i) rfl (by omega) w').trans (by rw [hC])) ?_
   simp only [Act.put, pu]
   refine pw_value (by rfl) (.int .i64 (C : Nat)) (y_conv _ _ _ rfl .u8 .i64 Tryd.underlying5 Tryd.underlying3 (C : Nat) _ rfl (by rw [IntKind.wrap_i64]; omega)) ?_
   simp only [Act.put, pu]
   refine pw_as (by rfl) rfl rfl ?_
   simp only [Act.put, pu]
   refine pw_nil ?_
   clear hC
   (repeat ((fail_if_success with_reducible refine rg ?_); go_step))
   refine wp_region_pw ?_
   refine pw_value (by rfl) (.int .i64 0) (fun _ => rfl) ?_
   simp only [Act.put, pu]
   refine pw_nil ?_
   go_wp2_with fail
   go_loopg [8] 8 (fun g2 s8 wr2 => ∃ k : Nat, k + g2 = 8 ∧ s8 = .int .i64 k ∧ Row wr2 g3 (natC q) 35 ∧ Row wr2 g4 (natC 0) 35 ∧ Row wr2 g5 (bitC (N % 2 ^ (min (8 * i + k) L))) 85 ∧ Below w.heap.size w wr2)
   case atStart => exact ⟨0, by omega, rfl, r3, r4, r5, sb⟩
   case round =>
    clear r3 r4 r5 sb
    obtain ⟨k, hk, rfl, r3, r4, r5, sb⟩ := hrel
    by_cases hk8 : k < 8
    ·by_cases hkL : 8 * i + k < L
     ·rw [Nat.min_eq_left (by omega)] at r5
      have hsn := bitC_snoc N (8 * i + k) (N.testBit (8 * i + k)) rfl
      have htb := try_bit N i k hk8
      rw [← hyb.out] at htb
      (repeat ((fail_if_success with_reducible refine rg ?_); go_step))
      refine wp_region_pw ?_
      refine pw_mv (by rfl) rfl rfl ?_
      simp only [Act.put, pu]
      refine pw_value (by rfl) (.bool true) (exec_lt_b _ _ _ _ rfl k 8 rfl rfl true (decide_eq_true (by omega))) ?_
      simp only [Act.put, pu]
      refine pw_mv (by rfl) rfl rfl ?_
      simp only [Act.put, pu]
      refine pw_mv (by rfl) rfl rfl ?_
      simp only [Act.put, pu]
      refine pw_value (by rfl) (.int .i64 ((8 * i : Nat) : Int)) (exec_mul_in _ _ _ _ rfl 8 i (8 * i) rfl rfl rfl (by omega)) ?_
      simp only [Act.put, pu]
      refine pw_mv (by rfl) rfl rfl ?_
      simp only [Act.put, pu]
      refine pw_value (by rfl) (.int .i64 ((8 * i + k : Nat) : Int)) (exec_add_in _ _ _ _ rfl (8 * i) k rfl rfl (by omega)) ?_
      simp only [Act.put, pu]
      refine pw_loadm (by rfl) 35 _ rfl _ 0 rfl r3.r _ (part_all _) _ Tryd.underlying35 rfl size_nat ?_
      simp only [Act.put, pu]
      refine pw_callB (by rfl) 37 _ _ rfl Tryd.func37 (by kernel_rfl) #[.agg (natC q)] rfl _ (hlen _) ?_
      intro z7008 k
      simp only [Act.put, pu]
      replace r3 := k.row r3 (by simp <;> omega)
      replace r4 := k.row r4 (by simp <;> omega)
      replace r5 := k.row r5 (by simp <;> omega)
      replace sb := sb.trans (k.below w.heap.size sb.size (by simp <;> omega))
      clear k
      refine pw_value (by rfl) (.bool true) (exec_lt_b _ _ _ _ rfl (8 * i + k : Nat) L rfl rfl true (decide_eq_true (by omega))) ?_
      simp only [Act.put, pu]
      refine pw_pick (by rfl) true (v := .bool true) rfl rfl rfl ?_
      simp only [Act.put, pu]
      refine pw_nil ?_
      (repeat ((fail_if_success with_reducible refine rg ?_); go_step))
      refine wp_region_pw ?_
      refine pw_mv (by rfl) rfl rfl ?_
      simp only [Act.put, pu]
      refine pw_value (by rfl) (.int .i64 ((8 * i : Nat) : Int)) (exec_mul_in _ _ _ _ rfl 8 i (8 * i) rfl rfl rfl (by omega)) ?_
      simp only [Act.put, pu]
      refine pw_mv (by rfl) rfl rfl ?_
      simp only [Act.put, pu]
      refine pw_value (by rfl) (.int .i64 ((8 * i + k : Nat) : Int)) (exec_add_in _ _ _ _ rfl (8 * i) k rfl rfl (by omega)) ?_
      simp only [Act.put, pu]
      refine pw_mv (by rfl) rfl rfl ?_
      simp only [Act.put, pu]
      refine pw_mv (by rfl) rfl rfl ?_
      simp only [Act.put, pu]
      refine pw_value (by rfl) (.int .i64 ((C / 2 ^ k : Nat) : Int)) (exec_shr_i _ _ _ _ rfl C k rfl rfl (by omega)) ?_
      simp only [Act.put, pu]
      refine pw_value (by rfl) (.int .i64 (bits .and .i64 ((C / 2 ^ k : Nat) : Int) 1)) (exec_bits_i .and _ _ _ _ (.inl rfl) rfl _ _ rfl rfl) ?_
      simp only [Act.put, pu]
      refine pw_value (by rfl) (.bool (N.testBit (8 * i + k))) (exec_eql_k .i64 _ _ _ _ rfl _ 1 rfl rfl _ htb) ?_
      simp only [Act.put, pu]
      refine pw_value (by rfl) (.pointer (some ⟨g5, 0 + (8 * i + k) * 1, none⟩)) (exec_index_g 85 _ _ rfl g5 0 rfl (8 * i + k) 256 rfl (by omega) _ Tryd.underlying85 1 Tryd.sizeOf4) ?_
      simp only [Act.put, pu]
      refine pw_putv (by rfl) 4 _ _ rfl _ (0 + (8 * i + k) * 1) rfl r5 (.bool (N.testBit (8 * i + k))) rfl rfl rfl size1tbool (by rw [bitC_size]; omega) (bitC (N % 2 ^ (8 * i + k + 1))) (by rw [Nat.mul_one, Nat.zero_add]; exact hsn) ?_
      clear r5
      intro z9010 r5 k
      simp only [Act.put]
      replace r3 := k.row r3 (by simp <;> omega)
      replace r4 := k.row r4 (by simp <;> omega)
      replace sb := sb.trans (k.below w.heap.size sb.size (by simp <;> omega))
      clear k
      refine pw_nil ?_
      have hm : min (8 * i + (k + 1)) L = 8 * i + k + 1 := by omega
      (repeat ((fail_if_success with_reducible refine rg ?_); go_step))
      refine wp_region_pw ?_
      refine pw_mv (by rfl) rfl rfl ?_
      simp only [Act.put, pu]
      refine pw_value (by rfl) (.int .i64 ((k + 1 : Nat) : Int)) (exec_add_in _ _ _ _ rfl k 1 rfl rfl (by omega)) ?_
      simp only [Act.put, pu]
      refine pw_as (by rfl) rfl rfl ?_
      simp only [Act.put, pu]
      refine pw_nil ?_
      rw [← hm] at r5
      clear hm hsn htb
      cases gk with
      | zero => exact absurd hk8 (by omega)
      | succ g2 =>
      go_wp2
      go_roundg g2
      case measure => omega
      case rel => exact ⟨k + 1, by omega, rfl, r3, r4, r5, sb⟩
     ·have hm : min (8 * i + k) L = min (8 * (i + 1)) L := by omega
      rw [hm] at r5
      clear hm
      (repeat ((fail_if_success with_reducible refine rg ?_); go_step))
      refine wp_region_pw ?_
      refine pw_mv (by rfl) rfl rfl ?_
      simp only [Act.put, pu]
      refine pw_value (by rfl) (.bool true) (exec_lt_b _ _ _ _ rfl k 8 rfl rfl true (decide_eq_true (by omega))) ?_
      simp only [Act.put, pu]
      refine pw_mv (by rfl) rfl rfl ?_
      simp only [Act.put, pu]
      refine pw_mv (by rfl) rfl rfl ?_
      simp only [Act.put, pu]
      refine pw_value (by rfl) (.int .i64 ((8 * i : Nat) : Int)) (exec_mul_in _ _ _ _ rfl 8 i (8 * i) rfl rfl rfl (by omega)) ?_
      simp only [Act.put, pu]
      refine pw_mv (by rfl) rfl rfl ?_
      simp only [Act.put, pu]
      refine pw_value (by rfl) (.int .i64 ((8 * i + k : Nat) : Int)) (exec_add_in _ _ _ _ rfl (8 * i) k rfl rfl (by omega)) ?_
      simp only [Act.put, pu]
      refine pw_loadm (by rfl) 35 _ rfl _ 0 rfl r3.r _ (part_all _) _ Tryd.underlying35 rfl size_nat ?_
      simp only [Act.put, pu]
      refine pw_callB (by rfl) 37 _ _ rfl Tryd.func37 (by kernel_rfl) #[.agg (natC q)] rfl _ (hlen _) ?_
      intro z7008 k
      simp only [Act.put, pu]
      replace r3 := k.row r3 (by simp <;> omega)
      replace r4 := k.row r4 (by simp <;> omega)
      replace r5 := k.row r5 (by simp <;> omega)
      replace sb := sb.trans (k.below w.heap.size sb.size (by simp <;> omega))
      clear k
      refine pw_value (by rfl) (.bool false) (exec_lt_b _ _ _ _ rfl (8 * i + k : Nat) L rfl rfl false (decide_eq_false (by omega))) ?_
      simp only [Act.put, pu]
      refine pw_pick (by rfl) true (v := .bool false) rfl rfl rfl ?_
      simp only [Act.put, pu]
      refine pw_nil ?_
      clear hkL hk8 hk
      (repeat ((fail_if_success with_reducible refine rg ?_); go_step))
      refine wp_region_pw ?_
      refine pw_mv (by rfl) rfl rfl ?_
      simp only [Act.put, pu]
      refine pw_value (by rfl) (.int .i64 ((i + 1 : Nat) : Int)) (exec_add_in _ _ _ _ rfl i 1 rfl rfl (by omega)) ?_
      simp only [Act.put, pu]
      refine pw_as (by rfl) rfl rfl ?_
      simp only [Act.put, pu]
      refine pw_nil ?_
      go_wp2
      go_roundg g
      case measure => omega
      case rel => exact ⟨i + 1, by omega, rfl, r3, r4, r5, sb⟩
    ·obtain rfl : k = 8 := by omega
     clear hk8 hk
     (repeat ((fail_if_success with_reducible refine rg ?_); go_step))
     refine wp_region_pw ?_
     refine pw_mv (by rfl) rfl rfl ?_
     simp only [Act.put, pu]
     refine pw_value (by rfl) (.bool false) (exec_lt_b _ _ _ _ rfl 8 8 rfl rfl false rfl) ?_
     simp only [Act.put, pu]
     refine pw_mv (by rfl) rfl rfl ?_
     simp only [Act.put, pu]
     refine pw_skip (by rfl) ?_
     simp only [Act.put, pu]
     refine pw_skip (by rfl) ?_
     simp only [Act.put, pu]
     refine pw_skip (by rfl) ?_
     simp only [Act.put, pu]
     refine pw_skip (by rfl) ?_
     simp only [Act.put, pu]
     refine pw_skip (by rfl) ?_
     simp only [Act.put, pu]
     refine pw_skip (by rfl) ?_
     simp only [Act.put, pu]
     refine pw_skip (by rfl) ?_
     simp only [Act.put, pu]
     refine pw_pick (by rfl) false (v := .bool false) rfl rfl rfl ?_
     simp only [Act.put, pu]
     refine pw_nil ?_
     (repeat ((fail_if_success with_reducible refine rg ?_); go_step))
     refine wp_region_pw ?_
     refine pw_mv (by rfl) rfl rfl ?_
     simp only [Act.put, pu]
     refine pw_value (by rfl) (.int .i64 ((i + 1 : Nat) : Int)) (exec_add_in _ _ _ _ rfl i 1 rfl rfl (by omega)) ?_
     simp only [Act.put, pu]
     refine pw_as (by rfl) rfl rfl ?_
     simp only [Act.put, pu]
     refine pw_nil ?_
     go_wp2
     go_roundg g
     case measure => omega
     case rel => exact ⟨i + 1, by omega, rfl, r3, r4, r5, sb⟩
theorem rtry_any (s : List UInt8) (q : Nat) (w : World) (hs : s.length ≤ 1000) (hq : q < 2 ^ 256) :
  Calls Tryd.prog 47 #[.string ⟨(s).toArray⟩, .agg (natC q)] w fun e w' => e = .returned (.agg (natC (tryN q s))) ∧ Below w.heap.size w w' :=
 rtry_core s q (bitLen q) (natB s) (tryN q s) w hs (bitLen_256 hq) (show natB s = natB s from rfl) (show natB s % 2 ^ (min (8 * s.length) (bitLen q)) = tryN q s from try_end s _) (fun w' => rlen_any q w' hq)
end Go.Proofs.YtlacmkliofnjcaaDoor
/- The document's Draw, Draws of layer 10; its Same of layer 8. -/
namespace Go.Proofs.YtlacmkliofnjcaaDoor
open Go.RowKit
set_option linter.unusedVariables false
theorem take_mid (s : List UInt8) (a n : Nat) : (s.take (a + n)).drop a = (s.drop a).take n := by
 rw [List.drop_take, Nat.add_sub_cancel_left]
set_option maxRecDepth 100000 in
set_option maxHeartbeats 2000000 in
theorem rdraw_any (s : List UInt8) (q : Nat) (w : World) (hs : s.length ≤ 100000) (h0 : 0 < q) (h1 : q < 2 ^ 256) :
  Calls Tryd.prog 31 #[.string ⟨(s).toArray⟩, .agg (natC q)] w fun e w' => e = .returned (.tuple #[.agg (natC (drN q s)), .int .i64 (drU q s : Nat)]) ∧ Below w.heap.size w w' := by
 have hl := fun w' => rlen_any q w' h1
 have hb256 := bitLen_256 h1
 have hpos := byN_pos h0
 have hn32 := byN_le hb256
 have hcmp := fun (A : Nat) w' (hA : A < 2 ^ 256) => rcmp_any A q w' hA h1
 have htr := fun (u : List UInt8) w' (hu : u.length ≤ 1000) => rtry_any u q w' hu h1
 have hw7 := tpw2 (bitLen q) hb256
 have hby : (bitLen q + 7) / 8 = byN q := rfl
 rw [hby] at hw7
 generalize hL : bitLen q = L at *
 have HL : Hid (bitLen q = L) := hL
 have hd0 : drwR q (s.length + 1) s = drw q s := rfl
 have hN : Hid (byN q = byN q) := rfl
 generalize hn : byN q = n at *
 have HN : Hid (byN q = n) := hn
 have HH : Hid (0 < q ∧ q < 2 ^ 256 ∧ drwR q (s.length + 1) s = drw q s) := ⟨h0, h1, hd0⟩
 clear h0 h1 hd0 hby hN hn hL
 go_enter Tryd.func31, Tryd.ntmps31
 (repeat ((fail_if_success with_reducible refine rg ?_); go_step))
 refine wp_region_pw ?_
 refine pw_boxr (by rfl) 35 _ rfl (_) rfl ?_
 intro g3 z0 n0 r3 k
 simp only [Act.put, pu]
 have b3 : w.heap.size ≤ g3 := n0
 clear n0
 have sb := k.below w.heap.size (Nat.le_refl _) (by simp)
 clear k
 refine pw_new (by rfl) 35 rfl _ zero_nat ?_
 intro g4 z1 n0 r4 k
 simp only [Act.put, pu]
 have d3x4 := Nat.lt_of_lt_of_le r3.lt n0
 have b4 := Nat.le_trans sb.size n0
 clear n0
 replace r3 := k.row r3 (by simp <;> omega)
 replace sb := sb.trans (k.below w.heap.size sb.size (by simp <;> omega))
 clear k
 refine pw_value (by rfl) (.int .i64 0) (fun _ => rfl) ?_
 simp only [Act.put, pu]
 refine pw_nil ?_
 (repeat ((fail_if_success with_reducible refine rg ?_); go_step))
 refine wp_region_pw ?_
 refine pw_loadm (by rfl) 35 _ rfl _ 0 rfl r3.r _ (part_all _) _ Tryd.underlying35 rfl size_nat ?_
 simp only [Act.put, pu]
 refine pw_callB (by rfl) 37 _ _ rfl Tryd.func37 (by kernel_rfl) #[.agg (natC q)] rfl _ (hl _) ?_
 intro z1001 k
 simp only [Act.put, pu]
 replace r3 := k.row r3 (by simp <;> omega)
 replace r4 := k.row r4 (by simp <;> omega)
 replace sb := sb.trans (k.below w.heap.size sb.size (by simp <;> omega))
 clear k
 refine pw_value (by rfl) (.int .i64 ((L + 7 : Nat) : Int)) (exec_add_in _ _ _ _ rfl L 7 rfl rfl (by omega)) ?_
 simp only [Act.put, pu]
 refine pw_value (by rfl) (.int .i64 (n : Nat)) (y_quoI _ _ _ _ rfl ((L + 7 : Nat) : Int) 8 _ rfl rfl (by decide) hw7) ?_
 simp only [Act.put, pu]
 refine pw_as (by rfl) rfl rfl ?_
 simp only [Act.put, pu]
 refine pw_nil ?_
 clear hl
 (repeat ((fail_if_success with_reducible refine rg ?_); go_step))
 refine wp_region_pw ?_
 refine pw_value (by rfl) (.int .i64 0) (fun _ => rfl) ?_
 simp only [Act.put, pu]
 refine pw_nil ?_
 go_wp2_with fail
 go_loopg [7, 8] s.length (fun g s7 s8 wr => ∃ at' : Nat, s7 = .int .i64 at' ∧ Hid (drwR q (g + 1) (s.drop at') = drw q s) ∧ at' ≤ s.length ∧ s.length ≤ at' + g ∧ Row wr g3 (natC q) 35 ∧ Row wr g4 (natC 0) 35 ∧ Below w.heap.size w wr)
 case atStart => exact ⟨0, rfl, by show drwR q (s.length + 1) (s.drop 0) = drw q s; rw [List.drop_zero]; exact HH.out.2.2, Nat.zero_le _, by omega, r3, r4, sb⟩
 case round =>
  clear r3 r4 sb
  obtain ⟨at', rfl, hu, ha, hg, r3, r4, sb⟩ := hrel
  by_cases hle : at' + n ≤ s.length
  ·have hf : ¬ (s.drop at').length < byN q := by rw [HN.out, List.length_drop]; omega
   have htry := fun w' => htr ((s.drop at').take n) w' (by rw [List.length_take]; omega)
   have hlt : tryN q ((s.drop at').take n) < 2 ^ 256 := by
    unfold tryN
    exact Nat.lt_of_lt_of_le (Nat.mod_lt _ (Nat.two_pow_pos _)) (Nat.pow_le_pow_right (by decide) (by rw [HL.out]; exact hb256))
   have hc' := fun w' => hcmp (tryN q ((s.drop at').take n)) w' hlt
   have hneg := cmp_neg (tryN q ((s.drop at').take n)) q
   (repeat ((fail_if_success with_reducible refine rg ?_); go_step))
   refine wp_region_pw ?_
   refine pw_mv (by rfl) rfl rfl ?_
   simp only [Act.put, pu]
   refine pw_mv (by rfl) rfl rfl ?_
   simp only [Act.put, pu]
   refine pw_value (by rfl) (.int .i64 ((at' + n : Nat) : Int)) (exec_add_in _ _ _ _ rfl at' n rfl rfl (by omega)) ?_
   simp only [Act.put, pu]
   refine pw_mv (by rfl) rfl rfl ?_
   simp only [Act.put, pu]
   refine pw_value (by rfl) (.int .i64 s.length) (y_lenS _ _ rfl s rfl Tryd.underlying9) ?_
   simp only [Act.put, pu]
   refine pw_value (by rfl) (.bool true) (exec_leq_i _ _ _ _ rfl (at' + n : Nat) s.length rfl rfl true (decide_eq_true (by omega))) ?_
   simp only [Act.put, pu]
   refine pw_nil ?_
   by_cases ht : tryN q ((s.drop at').take n) < q
   ·have HD : Hid (drw q s = some (tryN q ((s.drop at').take n), s.drop (at' + n))) := by
     show drw q s = _
     rw [← hu.out, drwR_hit hf (by rw [HN.out]; exact ht), HN.out, List.drop_drop]
    rw [decide_eq_true ht] at hneg
    clear hu hlt hf ht hcmp htr
    generalize tryN q ((s.drop at').take n) = X at *
    (repeat ((fail_if_success with_reducible refine rg ?_); go_step))
    apply wp_region_mix (by kernel_rfl) [] [_, _, _, _, _, _, _, _, _, _] trivial List.nodup_nil
    ·intro p
     refine mx_move rfl rfl ?_
     simp only [Act.put, pu]
     refine mx_move rfl rfl ?_
     simp only [Act.put, pu]
     refine mx_move rfl rfl ?_
     simp only [Act.put, pu]
     refine mx_move rfl rfl ?_
     simp only [Act.put, pu]
     refine mx_val (.int .i64 ((at' + n : Nat) : Int)) ((exec_add_in _ _ _ _ rfl at' n rfl rfl (by omega))) ?_
     simp only [Act.put, pu]
     refine mx_val (.string ⟨((s.drop at').take n).toArray⟩) ((y_mid _ _ _ _ Tryd.underlying9 rfl s at' (at' + n) rfl rfl rfl (by omega) hle _ (take_mid s at' n))) ?_
     simp only [Act.put, pu]
     refine mx_load 35 _ rfl _ rfl r3 (by simp <;> omega) 4 _ Tryd.underlying35 size_nat ?_
     simp only [Act.put, pu]
     refine mx_call 47 _ _ rfl Tryd.func47 (by kernel_rfl) #[.string ⟨((s.drop at').take n).toArray⟩, .agg (natC q)] rfl _ htry ?_
     simp only [Act.put, pu]
     refine mx_new 35 rfl _ zero_nat ?_
     simp only [Act.put, pu]
     refine mx_put 17 35 _ _ rfl rfl rfl (natC X) rfl (by exact size_nat) (by simp only [natC_size]) (natC_one _) ?_
     simp only [Act.put]
     refine mx_end ?_
     intro w5 hkw hrw hnew hdis
     have n8 := hnew 8 rfl
     have zr8 : Row w5 (p 8) (natC X) 35 := hrw 17 (35, natC X) rfl
     have d3x8 := Nat.lt_of_lt_of_le r3.lt n8
     have d4x8 := Nat.lt_of_lt_of_le r4.lt n8
     replace r3 := hkw.row r3 (by simp <;> omega)
     replace r4 := hkw.row r4 (by simp <;> omega)
     have b8 := Nat.le_trans sb.size n8
     replace sb := sb.trans (hkw.below w.heap.size sb.size (by simp <;> omega))
     clear hkw hrw hnew hdis n8
     generalize p 8 = g8 at *
     have r8 := zr8
     clear zr8
     (repeat ((fail_if_success with_reducible refine rg ?_); go_step))
     refine wp_region_pw ?_
     refine pw_loadm (by rfl) 35 _ rfl _ 0 rfl r8.r _ (part_all _) _ Tryd.underlying35 rfl size_nat ?_
     simp only [Act.put, pu]
     refine pw_loadm (by rfl) 35 _ rfl _ 0 rfl r3.r _ (part_all _) _ Tryd.underlying35 rfl size_nat ?_
     simp only [Act.put, pu]
     refine pw_callB (by rfl) 48 _ _ rfl Tryd.func48 (by kernel_rfl) #[.agg (natC X), .agg (natC q)] rfl _ (hc' _) ?_
     intro z6002 k
     simp only [Act.put, pu]
     replace r3 := k.row r3 (by simp <;> omega)
     replace r4 := k.row r4 (by simp <;> omega)
     replace r8 := k.row r8 (by simp <;> omega)
     replace sb := sb.trans (k.below w.heap.size sb.size (by simp <;> omega))
     clear k
     refine pw_value (by rfl) (.bool true) (exec_lt_b _ _ _ _ rfl (cmpI X q) 0 rfl rfl true hneg) ?_
     simp only [Act.put, pu]
     refine pw_nil ?_
     (repeat ((fail_if_success with_reducible refine rg ?_); go_step))
     refine wp_region_pw ?_
     refine pw_loadm (by rfl) 35 _ rfl _ 0 rfl r8.r _ (part_all _) _ Tryd.underlying35 rfl size_nat ?_
     simp only [Act.put, pu]
     refine pw_mv (by rfl) rfl rfl ?_
     simp only [Act.put, pu]
     refine pw_mv (by rfl) rfl rfl ?_
     simp only [Act.put, pu]
     refine pw_value (by rfl) (.int .i64 ((at' + n : Nat) : Int)) (exec_add_in _ _ _ _ rfl at' n rfl rfl (by omega)) ?_
     simp only [Act.put, pu]
     refine pw_put (by rfl) 35 _ _ rfl _ rfl r4 (natC X) rfl (by exact size_nat) (by simp only [natC_size]) (natC_one _) ?_
     clear r4
     intro z7004 r4 k
     simp only [Act.put]
     replace r3 := k.row r3 (by simp <;> omega)
     replace r8 := k.row r8 (by simp <;> omega)
     replace sb := sb.trans (k.below w.heap.size sb.size (by simp <;> omega))
     clear k
     refine pw_as (by rfl) rfl rfl ?_
     simp only [Act.put, pu]
     refine pw_nil ?_
     go_wp2
     obtain ⟨e1, e2, _, _, e5⟩ := dr_some HD.out
     exact ret_row2 rfl _ rfl r4 4 _ Tryd.underlying35 (by exact size_nat) rfl _ rfl ⟨by rw [e1, e5, List.length_drop, show s.length - (s.length - (at' + n)) = at' + n by omega]; rfl, sb⟩
    ·kernel_rfl
   ·cases gk with
    | zero => exact absurd hpos (by omega)
    | succ g =>
    have hu2 : Hid (drwR q (g + 1) (s.drop (at' + n)) = drw q s) := by
     show drwR q (g + 1) (s.drop (at' + n)) = drw q s
     rw [← hu.out, drwR_miss hf (by rw [HN.out]; exact ht), HN.out, List.drop_drop]
    rw [decide_eq_false ht] at hneg
    clear hu hlt hf ht hcmp htr
    generalize tryN q ((s.drop at').take n) = X at *
    (repeat ((fail_if_success with_reducible refine rg ?_); go_step))
    apply wp_region_mix (by kernel_rfl) [] [_, _, _, _, _, _, _, _, _, _] trivial List.nodup_nil
    ·intro p
     refine mx_move rfl rfl ?_
     simp only [Act.put, pu]
     refine mx_move rfl rfl ?_
     simp only [Act.put, pu]
     refine mx_move rfl rfl ?_
     simp only [Act.put, pu]
     refine mx_move rfl rfl ?_
     simp only [Act.put, pu]
     refine mx_val (.int .i64 ((at' + n : Nat) : Int)) ((exec_add_in _ _ _ _ rfl at' n rfl rfl (by omega))) ?_
     simp only [Act.put, pu]
     refine mx_val (.string ⟨((s.drop at').take n).toArray⟩) ((y_mid _ _ _ _ Tryd.underlying9 rfl s at' (at' + n) rfl rfl rfl (by omega) hle _ (take_mid s at' n))) ?_
     simp only [Act.put, pu]
     refine mx_load 35 _ rfl _ rfl r3 (by simp <;> omega) 4 _ Tryd.underlying35 size_nat ?_
     simp only [Act.put, pu]
     refine mx_call 47 _ _ rfl Tryd.func47 (by kernel_rfl) #[.string ⟨((s.drop at').take n).toArray⟩, .agg (natC q)] rfl _ htry ?_
     simp only [Act.put, pu]
     refine mx_new 35 rfl _ zero_nat ?_
     simp only [Act.put, pu]
     refine mx_put 17 35 _ _ rfl rfl rfl (natC X) rfl (by exact size_nat) (by simp only [natC_size]) (natC_one _) ?_
     simp only [Act.put]
     refine mx_end ?_
     intro w5 hkw hrw hnew hdis
     have n8 := hnew 8 rfl
     have zr8 : Row w5 (p 8) (natC X) 35 := hrw 17 (35, natC X) rfl
     have d3x8 := Nat.lt_of_lt_of_le r3.lt n8
     have d4x8 := Nat.lt_of_lt_of_le r4.lt n8
     replace r3 := hkw.row r3 (by simp <;> omega)
     replace r4 := hkw.row r4 (by simp <;> omega)
     have b8 := Nat.le_trans sb.size n8
     replace sb := sb.trans (hkw.below w.heap.size sb.size (by simp <;> omega))
     clear hkw hrw hnew hdis n8
     generalize p 8 = g8 at *
     have r8 := zr8
     clear zr8
     (repeat ((fail_if_success with_reducible refine rg ?_); go_step))
     refine wp_region_pw ?_
     refine pw_loadm (by rfl) 35 _ rfl _ 0 rfl r8.r _ (part_all _) _ Tryd.underlying35 rfl size_nat ?_
     simp only [Act.put, pu]
     refine pw_loadm (by rfl) 35 _ rfl _ 0 rfl r3.r _ (part_all _) _ Tryd.underlying35 rfl size_nat ?_
     simp only [Act.put, pu]
     refine pw_callB (by rfl) 48 _ _ rfl Tryd.func48 (by kernel_rfl) #[.agg (natC X), .agg (natC q)] rfl _ (hc' _) ?_
     intro z6002 k
     simp only [Act.put, pu]
     replace r3 := k.row r3 (by simp <;> omega)
     replace r4 := k.row r4 (by simp <;> omega)
     replace r8 := k.row r8 (by simp <;> omega)
     replace sb := sb.trans (k.below w.heap.size sb.size (by simp <;> omega))
     clear k
     refine pw_value (by rfl) (.bool false) (exec_lt_b _ _ _ _ rfl (cmpI X q) 0 rfl rfl false hneg) ?_
     simp only [Act.put, pu]
     refine pw_nil ?_
     (repeat ((fail_if_success with_reducible refine rg ?_); go_step))
     refine wp_region_pw ?_
     refine pw_mv (by rfl) rfl rfl ?_
     simp only [Act.put, pu]
     refine pw_mv (by rfl) rfl rfl ?_
     simp only [Act.put, pu]
     refine pw_value (by rfl) (.int .i64 ((at' + n : Nat) : Int)) (exec_add_in _ _ _ _ rfl at' n rfl rfl (by omega)) ?_
     simp only [Act.put, pu]
     refine pw_as (by rfl) rfl rfl ?_
     simp only [Act.put, pu]
     refine pw_nil ?_
     go_wp2
     go_roundg g
     case measure => omega
     case rel => exact ⟨at' + n, rfl, hu2, hle, by omega, r3, r4, sb⟩
    ·kernel_rfl
  ·have hf : (s.drop at').length < byN q := by rw [HN.out, List.length_drop]; omega
   have HD : Hid (drw q s = none) := by
    show drw q s = none
    rw [← hu.out, drwR_few hf]
   clear hu hf
   (repeat ((fail_if_success with_reducible refine rg ?_); go_step))
   refine wp_region_pw ?_
   refine pw_mv (by rfl) rfl rfl ?_
   simp only [Act.put, pu]
   refine pw_mv (by rfl) rfl rfl ?_
   simp only [Act.put, pu]
   refine pw_value (by rfl) (.int .i64 ((at' + n : Nat) : Int)) (exec_add_in _ _ _ _ rfl at' n rfl rfl (by omega)) ?_
   simp only [Act.put, pu]
   refine pw_mv (by rfl) rfl rfl ?_
   simp only [Act.put, pu]
   refine pw_value (by rfl) (.int .i64 s.length) (y_lenS _ _ rfl s rfl Tryd.underlying9) ?_
   simp only [Act.put, pu]
   refine pw_value (by rfl) (.bool false) (exec_leq_i _ _ _ _ rfl (at' + n : Nat) s.length rfl rfl false (decide_eq_false (by omega))) ?_
   simp only [Act.put, pu]
   refine pw_nil ?_
   (repeat ((fail_if_success with_reducible refine rg ?_); go_step))
   refine wp_region_pw ?_
   refine pw_value (by rfl) (.agg (natC 0)) (exec_build0 _ rfl _ built_nat) ?_
   simp only [Act.put, pu]
   refine pw_put (by rfl) 35 _ _ rfl _ rfl r4 (natC 0) rfl (by exact size_nat) (by simp only [natC_size]) (natC_one _) ?_
   clear r4
   intro z8001 r4 k
   simp only [Act.put]
   replace r3 := k.row r3 (by simp <;> omega)
   replace sb := sb.trans (k.below w.heap.size sb.size (by simp <;> omega))
   clear k
   refine pw_value (by rfl) (.int .i64 0) (fun _ => rfl) ?_
   simp only [Act.put, pu]
   refine pw_nil ?_
   go_wp2
   obtain ⟨e1, e2, _, _, e5⟩ := dr_none HD.out
   exact ret_row2 rfl _ rfl r4 4 _ Tryd.underlying35 (by exact size_nat) rfl _ rfl ⟨by rw [e1, e5]; rfl, sb⟩
set_option maxRecDepth 100000 in
set_option maxHeartbeats 2000000 in
theorem rdraws_any (s : List UInt8) (q n : Nat) (w : World) (hn : n ≤ 1000) (hs : s.length ≤ 100000) (h0 : 0 < q) (h1 : q < 2 ^ 256) :
  Calls Tryd.prog 15 #[.string ⟨(s).toArray⟩, .agg (natC q), .int .i64 n] w fun e w' => ∃ vl, e = .returned (.tuple #[vl, .int .i64 (dwU q s n : Nat), .bool (dwB q s n)]) ∧ OwnN w' w.heap.size vl (dwN q s n) (dwf q s) ∧ Below w.heap.size w w' := by
 have hdr := fun (u : List UInt8) w' (hu : u.length ≤ 100000) => rdraw_any u q w' hu h0 h1
 have HQ : Hid (0 < byN q) := byN_pos h0
 obtain ⟨ie, hie, hz, hsz, _⟩ := info_nat'
 have hs1 : ¬ 1 * ie.size > 2 ^ 24 := by rw [hsz]; decide
 have hs2 : ¬ 1 * ie.size = 0 := by rw [hsz]; decide
 have hl1 := fun A => lit_one A ie.size hsz
 clear h1 h0
 go_enter Tryd.func15, Tryd.ntmps15
 (repeat ((fail_if_success with_reducible refine rg ?_); go_step))
 refine wp_region_pw ?_
 refine pw_boxr (by rfl) 35 _ rfl (_) rfl ?_
 intro g4 z0 n0 r4 k
 simp only [Act.put, pu]
 have b4 : w.heap.size ≤ g4 := n0
 clear n0
 have sb := k.below w.heap.size (Nat.le_refl _) (by simp)
 clear k
 refine pw_value (by rfl) (.slice none 0 0) ((fun _ => rfl)) ?_
 simp only [Act.put, pu]
 refine pw_value (by rfl) (.int .i64 0) (fun _ => rfl) ?_
 simp only [Act.put, pu]
 refine pw_value (by rfl) (.bool false) (fun _ => rfl) ?_
 simp only [Act.put, pu]
 refine pw_nil ?_
 (repeat ((fail_if_success with_reducible refine rg ?_); go_step))
 refine wp_region_pw ?_
 refine pw_value (by rfl) (.slice none 0 0) ((fun _ => rfl)) ?_
 simp only [Act.put, pu]
 refine pw_nil ?_
 (repeat ((fail_if_success with_reducible refine rg ?_); go_step))
 refine wp_region_pw ?_
 refine pw_value (by rfl) (.int .i64 0) (fun _ => rfl) ?_
 simp only [Act.put, pu]
 refine pw_nil ?_
 (repeat ((fail_if_success with_reducible refine rg ?_); go_step))
 refine wp_region_pw ?_
 refine pw_value (by rfl) (.int .i64 0) (fun _ => rfl) ?_
 simp only [Act.put, pu]
 refine pw_nil ?_
 go_wp2_with fail
 go_loopg [9, 10, 11, 12, 13] n (fun g s9 s10 s11 s12 s13 wr => ∃ (i : Nat) (u : List UInt8), i + g = n ∧ s11 = .int .i64 i ∧ u.length ≤ s.length ∧ s10 = .int .i64 ((s.length - u.length : Nat) : Int) ∧ Hid (dst q s i = some u) ∧ OwnN wr w.heap.size s9 i (dwf q s) ∧ s9.ownBlock ≠ some g4 ∧ Row wr g4 (natC q) 35 ∧ Below w.heap.size w wr)
 case atStart => exact ⟨0, s, by omega, rfl, Nat.le_refl _, by rw [Nat.sub_self]; rfl, (show dst q s 0 = some s from rfl), ownN_nil _ _ _, nofun, r4, sb⟩
 case round =>
  clear r4 sb
  obtain ⟨i, u, hi, rfl, hul, rfl, hu, hL, ehLx4, r4, sb⟩ := hrel
  cases gk with
  | zero =>
   obtain rfl : i = n := by omega
   clear hi hdr
   (repeat ((fail_if_success with_reducible refine rg ?_); go_step))
   refine wp_region_pw ?_
   refine pw_mv (by rfl) rfl rfl ?_
   simp only [Act.put, pu]
   refine pw_mv (by rfl) rfl rfl ?_
   simp only [Act.put, pu]
   refine pw_value (by rfl) (.bool false) (exec_lt_b _ _ _ _ rfl i i rfl rfl false (decide_eq_false (Int.lt_irrefl _))) ?_
   simp only [Act.put, pu]
   refine pw_nil ?_
   (repeat ((fail_if_success with_reducible refine rg ?_); go_step))
   refine wp_region_pw ?_
   refine pw_mv (by rfl) rfl rfl ?_
   simp only [Act.put, pu]
   refine pw_mv (by rfl) rfl rfl ?_
   simp only [Act.put, pu]
   refine pw_as (by rfl) rfl rfl ?_
   simp only [Act.put, pu]
   refine pw_as (by rfl) rfl rfl ?_
   simp only [Act.put, pu]
   refine pw_value (by rfl) (.bool true) (fun _ => rfl) ?_
   simp only [Act.put, pu]
   refine pw_nil ?_
   go_wp2
   go_ret3
   obtain ⟨e1, e2, e3, _, e5⟩ := dw_some hu.out
   exact ⟨_, by rw [e3, e5]; rfl, by rw [e1]; exact hL, sb⟩
  | succ g =>
   have hin : i < n := by omega
   have HS : Hid (u = s.drop (s.length - u.length)) := (dst_is i u hu.out).2
   (repeat ((fail_if_success with_reducible refine rg ?_); go_step))
   refine wp_region_pw ?_
   refine pw_mv (by rfl) rfl rfl ?_
   simp only [Act.put, pu]
   refine pw_mv (by rfl) rfl rfl ?_
   simp only [Act.put, pu]
   refine pw_value (by rfl) (.bool true) (exec_lt_b _ _ _ _ rfl i n rfl rfl true (decide_eq_true (by omega))) ?_
   simp only [Act.put, pu]
   refine pw_nil ?_
   cases hd : drw q u with
   | none =>
    have HD : Hid (dst q s n = none) := dst_stop hu.out hd hin
    have hdr' := fun w' => hdr u w' (by omega)
    obtain ⟨e1, _, _, _, e5⟩ := dr_none hd
    rw [e1, e5] at hdr'
    clear e1 e5 hdr hu hd hi hin
    (repeat ((fail_if_success with_reducible refine rg ?_); go_step))
    apply wp_region_mix (by kernel_rfl) [] [_, _, _, _, _, _, _, _, _, _, _] trivial List.nodup_nil
    ·intro p
     refine mx_move rfl rfl ?_
     simp only [Act.put, pu]
     refine mx_move rfl rfl ?_
     simp only [Act.put, pu]
     refine mx_val (.string ⟨(u).toArray⟩) ((fun w' => (y_from _ _ _ Tryd.underlying9 rfl s (s.length - u.length) rfl rfl (by omega) w').trans (by rw [← HS.out]))) ?_
     simp only [Act.put, pu]
     refine mx_load 35 _ rfl _ rfl r4 (by simp <;> omega) 4 _ Tryd.underlying35 size_nat ?_
     simp only [Act.put, pu]
     refine mx_call 31 _ _ rfl Tryd.func31 (by kernel_rfl) #[.string ⟨(u).toArray⟩, .agg (natC q)] rfl _ hdr' ?_
     simp only [Act.put, pu]
     refine mx_move rfl rfl ?_
     simp only [Act.put, pu]
     refine mx_ext rfl rfl rfl ?_
     simp only [Act.put, pu]
     refine mx_ext rfl rfl rfl ?_
     simp only [Act.put, pu]
     refine mx_new 35 rfl _ zero_nat ?_
     simp only [Act.put, pu]
     refine mx_put 17 35 _ _ rfl rfl rfl (natC 0) rfl (by exact size_nat) (by simp only [natC_size]) (natC_one _) ?_
     simp only [Act.put]
     refine mx_asg rfl rfl ?_
     simp only [Act.put, pu]
     refine mx_end ?_
     intro w5 hkw hrw hnew hdis
     have n12 := hnew 8 rfl
     have zr12 : Row w5 (p 8) (natC 0) 35 := hrw 17 (35, natC 0) rfl
     have ehLx12 := hL.new n12
     have d4x12 := Nat.lt_of_lt_of_le r4.lt n12
     replace r4 := hkw.row r4 (by simp <;> omega)
     replace hL := hL.on hkw (own_ne0 _)
     have b12 := Nat.le_trans sb.size n12
     replace sb := sb.trans (hkw.below w.heap.size sb.size (by simp <;> omega))
     clear hkw hrw hnew hdis n12
     generalize p 8 = g12 at *
     have r12 := zr12
     clear zr12
     (repeat ((fail_if_success with_reducible refine rg ?_); go_step))
     refine wp_region_pw ?_
     refine pw_mv (by rfl) rfl rfl ?_
     simp only [Act.put, pu]
     refine pw_value (by rfl) (.bool true) (exec_eql_k .i64 _ _ _ _ rfl (0 : Nat) 0 rfl rfl true rfl) ?_
     simp only [Act.put, pu]
     refine pw_nil ?_
     (repeat ((fail_if_success with_reducible refine rg ?_); go_step))
     refine wp_region_pw ?_
     refine pw_value (by rfl) (.slice none 0 0) ((fun _ => rfl)) ?_
     simp only [Act.put, pu]
     refine pw_value (by rfl) (.int .i64 0) (fun _ => rfl) ?_
     simp only [Act.put, pu]
     refine pw_value (by rfl) (.bool false) (fun _ => rfl) ?_
     simp only [Act.put, pu]
     refine pw_nil ?_
     go_wp2
     go_ret3
     obtain ⟨e1, _, e3, _, e5⟩ := dw_none HD.out
     exact ⟨_, by rw [e3, e5]; rfl, by rw [e1]; exact ownN_nil _ _ _, sb⟩
    ·kernel_rfl
   | some y =>
    obtain ⟨x, tl⟩ := y
    obtain ⟨hnx, hfx⟩ := dst_next hu.out hd
    obtain ⟨_, htl, _⟩ := drw_is hd
    have HP := HQ.out
    have HD : Hid (dst q s (i + 1) = some tl) := hnx
    have HF : Hid (dwf q s i = x) := hfx
    have hdr' := fun w' => hdr u w' (by omega)
    obtain ⟨e1, _, _, _, e5⟩ := dr_some hd
    rw [e1, e5] at hdr'
    have hpos : 0 < u.length - tl.length := by omega
    have hadd : s.length - u.length + (u.length - tl.length) = s.length - tl.length := by omega
    have htl2 : tl.length ≤ s.length := by omega
    clear e1 e5 hdr hu hd hnx hfx HP htl
    generalize hU : u.length - tl.length = U at *
    have hl1' := hl1 x
    (repeat ((fail_if_success with_reducible refine rg ?_); go_step))
    apply wp_region_mix (by kernel_rfl) [] [_, _, _, _, _, _, _, _, _, _, _] trivial List.nodup_nil
    ·intro p
     refine mx_move rfl rfl ?_
     simp only [Act.put, pu]
     refine mx_move rfl rfl ?_
     simp only [Act.put, pu]
     refine mx_val (.string ⟨(u).toArray⟩) ((fun w' => (y_from _ _ _ Tryd.underlying9 rfl s (s.length - u.length) rfl rfl (by omega) w').trans (by rw [← HS.out]))) ?_
     simp only [Act.put, pu]
     refine mx_load 35 _ rfl _ rfl r4 (by simp <;> omega) 4 _ Tryd.underlying35 size_nat ?_
     simp only [Act.put, pu]
     refine mx_call 31 _ _ rfl Tryd.func31 (by kernel_rfl) #[.string ⟨(u).toArray⟩, .agg (natC q)] rfl _ hdr' ?_
     simp only [Act.put, pu]
     refine mx_move rfl rfl ?_
     simp only [Act.put, pu]
     refine mx_ext rfl rfl rfl ?_
     simp only [Act.put, pu]
     refine mx_ext rfl rfl rfl ?_
     simp only [Act.put, pu]
     refine mx_new 35 rfl _ zero_nat ?_
     simp only [Act.put, pu]
     refine mx_put 17 35 _ _ rfl rfl rfl (natC x) rfl (by exact size_nat) (by simp only [natC_size]) (natC_one _) ?_
     simp only [Act.put]
     refine mx_asg rfl rfl ?_
     simp only [Act.put, pu]
     refine mx_end ?_
     intro w5 hkw hrw hnew hdis
     have n12 := hnew 8 rfl
     have zr12 : Row w5 (p 8) (natC x) 35 := hrw 17 (35, natC x) rfl
     have ehLx12 := hL.new n12
     have d4x12 := Nat.lt_of_lt_of_le r4.lt n12
     replace r4 := hkw.row r4 (by simp <;> omega)
     replace hL := hL.on hkw (own_ne0 _)
     have b12 := Nat.le_trans sb.size n12
     replace sb := sb.trans (hkw.below w.heap.size sb.size (by simp <;> omega))
     clear hkw hrw hnew hdis n12
     generalize p 8 = g12 at *
     have r12 := zr12
     clear zr12
     clear hdr'
     (repeat ((fail_if_success with_reducible refine rg ?_); go_step))
     refine wp_region_pw ?_
     refine pw_mv (by rfl) rfl rfl ?_
     simp only [Act.put, pu]
     refine pw_value (by rfl) (.bool false) (exec_eql_k .i64 _ _ _ _ rfl (U : Nat) 0 rfl rfl false (decide_eq_false (by omega))) ?_
     simp only [Act.put, pu]
     refine pw_nil ?_
     (repeat ((fail_if_success with_reducible refine rg ?_); go_step))
     refine wp_region_pw ?_
     refine pw_mv (by rfl) rfl rfl ?_
     simp only [Act.put, pu]
     refine pw_loadm (by rfl) 35 _ rfl _ 0 rfl r12.r _ (part_all _) _ Tryd.underlying35 rfl size_nat ?_
     simp only [Act.put, pu]
     refine pw_litr (by rfl) 43 35 1 _ rfl (natC x) ie _ Tryd.underlying43 hie hz hs1 hs2 [(0, .agg (natC x))] rfl hl1' ?_
     intro gX z9002 n0 rX k
     simp only [Act.put, pu]
     have d4xX := Nat.lt_of_lt_of_le r4.lt n0
     have d12xX := Nat.lt_of_lt_of_le r12.lt n0
     have ehLxX := hL.new n0
     have bX := Nat.le_trans sb.size n0
     clear n0
     replace r4 := k.row r4 (by simp <;> omega)
     replace r12 := k.row r12 (by simp <;> omega)
     replace hL := hL.on k (own_ne0 _)
     replace sb := sb.trans (k.below w.heap.size sb.size (by simp <;> omega))
     clear k
     refine pw_appN (by rfl) _ _ rfl (w.heap.size) (_) (i) (dwf q s) rfl hL gX _ rfl (by rw [HF.out]; exact rX) (by omega) sb.size ?_
     have h0 := hL
     clear hL
     intro v1 z9003 hL k hp
     simp only [Act.put, pu]
     have cr4 := r4.lt
     replace r4 := k.row r4 (by first | exact own_nin ehLx4 | exact own_nin (h0.low (by omega)))
     have cr12 := r12.lt
     replace r12 := k.row r12 (by first | exact own_nin ehLx12 | exact own_nin (h0.low (by omega)))
     have crX := rX.lt
     replace rX := k.row rX (by first | exact own_nin ehLxX | exact own_nin (h0.low (by omega)))
     (try replace ehLx4 := own_apart hp cr4 ehLx4)
     clear cr4
     (try replace ehLx12 := own_apart hp cr12 ehLx12)
     clear cr12
     (try replace ehLxX := own_apart hp crX ehLxX)
     clear crX
     clear hp
     replace sb := sb.trans (k.below w.heap.size sb.size h0.base)
     clear h0
     clear k
     refine pw_as (by rfl) rfl rfl ?_
     simp only [Act.put, pu]
     refine pw_nil ?_
     (repeat ((fail_if_success with_reducible refine rg ?_); go_step))
     refine wp_region_pw ?_
     refine pw_mv (by rfl) rfl rfl ?_
     simp only [Act.put, pu]
     refine pw_mv (by rfl) rfl rfl ?_
     simp only [Act.put, pu]
     refine pw_value (by rfl) (.int .i64 ((s.length - tl.length : Nat) : Int)) (fun w' => (exec_add_in _ _ _ _ rfl (s.length - u.length) U rfl rfl (by omega) w').trans (by rw [hadd])) ?_
     simp only [Act.put, pu]
     refine pw_as (by rfl) rfl rfl ?_
     simp only [Act.put, pu]
     refine pw_nil ?_
     (repeat ((fail_if_success with_reducible refine rg ?_); go_step))
     refine wp_region_pw ?_
     refine pw_mv (by rfl) rfl rfl ?_
     simp only [Act.put, pu]
     refine pw_value (by rfl) (.int .i64 ((i + 1 : Nat) : Int)) (exec_add_in _ _ _ _ rfl i 1 rfl rfl (by omega)) ?_
     simp only [Act.put, pu]
     refine pw_as (by rfl) rfl rfl ?_
     simp only [Act.put, pu]
     refine pw_nil ?_
     go_wp2
     go_roundg g
     case measure => omega
     case rel => exact ⟨i + 1, tl, by omega, rfl, htl2, rfl, HD, hL, ehLx4, r4, sb⟩
    ·kernel_rfl
set_option maxRecDepth 100000 in
set_option maxHeartbeats 2000000 in
theorem rsame_yes (n ca ce : Nat) (ab ae : Option Addr) (a' : Nat → Nat) (gb ob ge oe : Nat) (bcs ecs : Array Value) (tb te : TypeId) (w : World) (hn : n < 9223372036854775808) (hna : NatsAt w ab n a' gb ob bcs tb) (hnb : NatsAt w ae n a' ge oe ecs te) :
  Calls Tryd.prog 19 #[.slice ab n ca, .slice ae n ce] w fun e w' => e = .returned (.bool true) ∧ Below w.heap.size w w' := by
 have HB : Hid (NatsAt w ab n a' gb ob bcs tb) := hna
 have HE : Hid (NatsAt w ae n a' ge oe ecs te) := hnb
 clear hna hnb
 go_enter Tryd.func19, Tryd.ntmps19
 have sb := sbmk w
 (repeat ((fail_if_success with_reducible refine rg ?_); go_step))
 refine wp_region_pw ?_
 refine pw_value (by rfl) (.bool false) (fun _ => rfl) ?_
 simp only [Act.put, pu]
 refine pw_nil ?_
 (repeat ((fail_if_success with_reducible refine rg ?_); go_step))
 refine wp_region_pw ?_
 refine pw_mv (by rfl) rfl rfl ?_
 simp only [Act.put, pu]
 refine pw_value (by rfl) (.int .i64 n) (exec_len_s 43 _ rfl ab n ca rfl sl_natsX) ?_
 simp only [Act.put, pu]
 refine pw_mv (by rfl) rfl rfl ?_
 simp only [Act.put, pu]
 refine pw_value (by rfl) (.int .i64 n) (exec_len_s 43 _ rfl ae n ce rfl sl_natsX) ?_
 simp only [Act.put, pu]
 refine pw_value (by rfl) (.bool false) (exec_neq_k .i64 _ _ _ _ rfl n n rfl rfl false (by rw [decide_eq_true rfl]; rfl)) ?_
 simp only [Act.put, pu]
 refine pw_nil ?_
 (repeat ((fail_if_success with_reducible refine rg ?_); go_step))
 refine wp_region_pw ?_
 refine pw_value (by rfl) (.int .i64 0) (fun _ => rfl) ?_
 simp only [Act.put, pu]
 refine pw_nil ?_
 go_wp2_with fail
 go_loopg [5] n (fun g s5 wr => ∃ i : Nat, i + g = n ∧ s5 = .int .i64 i ∧ Below w.heap.size w wr)
 case atStart => exact ⟨0, by omega, rfl, sb⟩
 case round =>
  clear sb
  obtain ⟨i, hi, rfl, sb⟩ := hrel
  cases gk with
  | zero =>
   obtain rfl : i = n := by omega
   clear hi
   (repeat ((fail_if_success with_reducible refine rg ?_); go_step))
   refine wp_region_pw ?_
   refine pw_mv (by rfl) rfl rfl ?_
   simp only [Act.put, pu]
   refine pw_mv (by rfl) rfl rfl ?_
   simp only [Act.put, pu]
   refine pw_value (by rfl) (.int .i64 i) (exec_len_s 43 _ rfl ab i ca rfl sl_natsX) ?_
   simp only [Act.put, pu]
   refine pw_value (by rfl) (.bool false) (exec_lt_b _ _ _ _ rfl i i rfl rfl false (decide_eq_false (Int.lt_irrefl _))) ?_
   simp only [Act.put, pu]
   refine pw_nil ?_
   (repeat ((fail_if_success with_reducible refine rg ?_); go_step))
   refine wp_region_pw ?_
   refine pw_value (by rfl) (.bool true) (fun _ => rfl) ?_
   simp only [Act.put, pu]
   refine pw_nil ?_
   go_wp2
   go_ret
   exact ⟨rfl, sb⟩
  | succ g =>
   have hlt : i < n := by omega
   (repeat ((fail_if_success with_reducible refine rg ?_); go_step))
   refine wp_region_pw ?_
   refine pw_mv (by rfl) rfl rfl ?_
   simp only [Act.put, pu]
   refine pw_mv (by rfl) rfl rfl ?_
   simp only [Act.put, pu]
   refine pw_value (by rfl) (.int .i64 n) (exec_len_s 43 _ rfl ab n ca rfl sl_natsX) ?_
   simp only [Act.put, pu]
   refine pw_value (by rfl) (.bool true) (exec_lt_b _ _ _ _ rfl i n rfl rfl true (decide_eq_true (by omega))) ?_
   simp only [Act.put, pu]
   refine pw_nil ?_
   obtain h0 | ⟨rfl, rB, hbt⟩ := (HB.out.below sb).at'
   ·exact absurd h0 (by omega)
   obtain h0 | ⟨rfl, rE, het⟩ := (HE.out.below sb).at'
   ·exact absurd h0 (by omega)
   have hbt' := hbt i hlt
   have het' := het i hlt
   clear hbt het
   (repeat ((fail_if_success with_reducible refine rg ?_); go_step))
   refine wp_region_qw (by kernel_rfl) (by kernel_rfl) ?_
   refine qw_move (by rfl) rfl rfl ?_
   simp only [Act.put, pu]
   refine qw_move (by rfl) rfl rfl ?_
   simp only [Act.put, pu]
   refine qw_value (by rfl) (.pointer (some ⟨gb, ob + i * 4, none⟩)) ((exec_index_s 43 _ _ rfl gb ob n ca rfl i rfl hlt _ Tryd.underlying43 4 size_nat4)) ?_
   simp only [Act.put, pu]
   refine qw_loadmR (by rfl) 35 _ rfl _ (ob + i * 4) rfl rB (natC (a' i)) hbt' _ Tryd.underlying35 rfl size_nat ?_
   simp only [Act.put, pu]
   refine qw_move (by rfl) rfl rfl ?_
   simp only [Act.put, pu]
   refine qw_move (by rfl) rfl rfl ?_
   simp only [Act.put, pu]
   refine qw_value (by rfl) (.pointer (some ⟨ge, oe + i * 4, none⟩)) ((exec_index_s 43 _ _ rfl ge oe n ce rfl i rfl hlt _ Tryd.underlying43 4 size_nat4)) ?_
   simp only [Act.put, pu]
   refine qw_loadmR (by rfl) 35 _ rfl _ (oe + i * 4) rfl rE (natC (a' i)) het' _ Tryd.underlying35 rfl size_nat ?_
   simp only [Act.put, pu]
   refine qw_value (by rfl) (.bool false) ((fun w' => (exec_neq_nat _ _ _ rfl (a' i) (a' i) rfl rfl w').trans (by rw [neq_no]))) ?_
   simp only [Act.put, pu]
   refine qw_nil ?_
   intro w6 hqb
   replace sb := below_on sb (Nat.le_refl _) hqb
   clear hqb
   clear rB rE hbt' het'
   (repeat ((fail_if_success with_reducible refine rg ?_); go_step))
   refine wp_region_pw ?_
   refine pw_mv (by rfl) rfl rfl ?_
   simp only [Act.put, pu]
   refine pw_value (by rfl) (.int .i64 ((i + 1 : Nat) : Int)) (exec_add_in _ _ _ _ rfl i 1 rfl rfl (by omega)) ?_
   simp only [Act.put, pu]
   refine pw_as (by rfl) rfl rfl ?_
   simp only [Act.put, pu]
   refine pw_nil ?_
   go_wp2
   go_roundg g
   case measure => omega
   case rel => exact ⟨i + 1, by omega, rfl, sb⟩
end Go.Proofs.YtlacmkliofnjcaaDoor
