/- The document's Try, Draw, Draws of layer 10; its Same of layer 8. -/
import Derived.Test.YtlacmkliofnjcaaDoorTpMany
import Derived.OwnWalk
namespace Go.Proofs.YtlacmkliofnjcaaDoor
open Go.RowKit
set_option linter.unusedVariables false
theorem size1tbool : (Tryd.prog.info? 4).map (·.size) = some 1 := by kernel_rfl
theorem and_1 (x : Int) : bits .and .i64 x 1 = (((x % 2).toNat : Nat) : Int) := by
 show IntKind.i64.wrap ((BitVec.ofInt 64 x &&& BitVec.ofInt 64 1).toNat : Int) = _
 have h1 : (BitVec.ofInt 64 1).toNat = 2 ^ 1 - 1 := by decide
 rw [BitVec.toNat_and, h1, Nat.and_two_pow_sub_one_eq_mod, BitVec.toNat_ofInt]
 have e : (x % ((2 ^ 64 : Nat) : Int)).toNat % 2 ^ 1 = (x % 2).toNat := by omega
 rw [e]
 exact wrap_i64 _ (by omega)
theorem try_bit (N i k : Nat) (hk : k < 8) : decide (bits .and .i64 ((byt N i / 2 ^ k : Nat) : Int) 1 = 1) = N.testBit (8 * i + k) := by
 have h := byt_bit N i k
 rw [decide_eq_true hk, Bool.true_and] at h
 rw [and_1, ← h, Nat.testBit_eq_decide_div_mod_eq]
 generalize byt N i / 2 ^ k = y
 have e : (((y : Int) % 2).toNat : Int) = ((y % 2 : Nat) : Int) := by omega
 rw [e]
 by_cases h1 : y % 2 = 1
 ·rw [decide_eq_true h1, decide_eq_true (by omega)]
 ·rw [decide_eq_false h1, decide_eq_false (by omega)]
theorem try_end (s : List UInt8) (L : Nat) : natB s % 2 ^ (min (8 * s.length) L) = natB s % 2 ^ L := by
 have h := natB_lt s
 by_cases hl : 8 * s.length ≤ L
 ·rw [Nat.min_eq_left hl, Nat.mod_eq_of_lt h, Nat.mod_eq_of_lt (Nat.lt_of_lt_of_le h (Nat.pow_le_pow_right (by decide) hl))]
 ·rw [Nat.min_eq_right (by omega)]
theorem yb_byt (s : List UInt8) (i : Nat) (hi : i < s.length) : yb s (s.length - 1 - i) = byt (natB s) i := by
 rw [natB_byt s i hi]
 unfold yb
 rw [List.getD_eq_getElem?_getD, List.getElem?_eq_getElem (by omega)]
 rfl
set_option maxRecDepth 100000 in
set_option maxHeartbeats 2000000 in
theorem rtry_core (s : List UInt8) (q L N U : Nat) (w : World) (hs : s.length ≤ 1000) (hL : L ≤ 256) (hN : Hid (natB s = N)) (hU : Hid (N % 2 ^ (min (8 * s.length) L) = U))
  (hlen : ∀ w', Calls Tryd.prog 37 #[.agg (natC q)] w' fun e w2 => e = .returned (.int .i64 (L : Nat)) ∧ Below w'.heap.size w' w2) :
  Calls Tryd.prog 47 #[.string ⟨(s).toArray⟩, .agg (natC q)] w fun e w' => e = .returned (.agg (natC U)) ∧ Below w.heap.size w w' := by
 go_enter Tryd.func47, Tryd.ntmps47
 (repeat ((fail_if_success with_reducible refine rg ?_); go_step))
 refine wp_region_pw ?_
 refine pw_boxr (by rfl) 35 _ rfl (_) rfl ?_
 intro g3 z0 n0 r3 k
 simp only [Act.put, pu]
 have b3 : w.heap.size ≤ g3 := n0
 clear n0
 have sb := k.below w.heap.size (Nat.le_refl _) (by simp)
 clear k
 refine pw_new (by rfl) 35 rfl _ zero_nat ?_
 intro g4 z1 n0 r4 k
 simp only [Act.put, pu]
 have d3x4 := Nat.lt_of_lt_of_le r3.lt n0
 have b4 := Nat.le_trans sb.size n0
 clear n0
 replace r3 := k.row r3 (by simp <;> omega)
 replace sb := sb.trans (k.below w.heap.size sb.size (by simp <;> omega))
 clear k
 refine pw_nil ?_
 (repeat ((fail_if_success with_reducible refine rg ?_); go_step))
 refine wp_region_pw ?_
 refine pw_value (by rfl) (.agg (bitC 0)) (exec_build0 _ rfl _ built_bits) ?_
 simp only [Act.put, pu]
 refine pw_new (by rfl) 85 rfl _ zero_bits ?_
 intro g5 z1001 n0 r5 k
 simp only [Act.put, pu]
 have d3x5 := Nat.lt_of_lt_of_le r3.lt n0
 have d4x5 := Nat.lt_of_lt_of_le r4.lt n0
 have b5 := Nat.le_trans sb.size n0
 clear n0
 replace r3 := k.row r3 (by simp <;> omega)
 replace r4 := k.row r4 (by simp <;> omega)
 replace sb := sb.trans (k.below w.heap.size sb.size (by simp <;> omega))
 clear k
 refine pw_put (by rfl) 85 _ _ rfl _ rfl r5 (bitC 0) rfl (by rw [bitC_size]; exact size_bits) (by simp only [bitC_size]) (bitC_one _) ?_
 clear r5
 intro z1002 r5 k
 simp only [Act.put]
 replace r3 := k.row r3 (by simp <;> omega)
 replace r4 := k.row r4 (by simp <;> omega)
 replace sb := sb.trans (k.below w.heap.size sb.size (by simp <;> omega))
 clear k
 refine pw_nil ?_
 (repeat ((fail_if_success with_reducible refine rg ?_); go_step))
 refine wp_region_pw ?_
 refine pw_value (by rfl) (.int .i64 0) (fun _ => rfl) ?_
 simp only [Act.put, pu]
 refine pw_nil ?_
 go_wp2_with fail
 go_loopg [6, 7, 8] s.length (fun g s6 s7 s8 wr => ∃ i : Nat, i + g = s.length ∧ s6 = .int .i64 i ∧ Row wr g3 (natC q) 35 ∧ Row wr g4 (natC 0) 35 ∧ Row wr g5 (bitC (N % 2 ^ (min (8 * i) L))) 85 ∧ Below w.heap.size w wr)
 case atStart => exact ⟨0, by omega, rfl, r3, r4, by rw [Nat.mul_zero, Nat.zero_min, Nat.pow_zero, Nat.mod_one]; exact r5, sb⟩
 case round =>
  clear r3 r4 r5 sb
  obtain ⟨i, hi, rfl, r3, r4, r5, sb⟩ := hrel
  cases gk with
  | zero =>
   obtain rfl : i = s.length := by omega
   clear hi
   have hn := fun w' => rnat_any U w'
   rw [hU.out] at r5
   (repeat ((fail_if_success with_reducible refine rg ?_); go_step))
   refine wp_region_pw ?_
   refine pw_mv (by rfl) rfl rfl ?_
   simp only [Act.put, pu]
   refine pw_mv (by rfl) rfl rfl ?_
   simp only [Act.put, pu]
   refine pw_value (by rfl) (.int .i64 s.length) (y_lenS _ _ rfl s rfl Tryd.underlying9) ?_
   simp only [Act.put, pu]
   refine pw_value (by rfl) (.bool false) (exec_lt_b _ _ _ _ rfl s.length s.length rfl rfl false (decide_eq_false (Int.lt_irrefl _))) ?_
   simp only [Act.put, pu]
   refine pw_nil ?_
   (repeat ((fail_if_success with_reducible refine rg ?_); go_step))
   refine wp_region_pw ?_
   refine pw_loadm (by rfl) 85 _ rfl _ 0 rfl r5.r _ (part_all _) _ Tryd.underlying85 rfl (by rw [bitC_size]; exact size_bits) ?_
   simp only [Act.put, pu]
   refine pw_callB (by rfl) 40 _ _ rfl Tryd.func40 (by kernel_rfl) #[.agg (bitC U)] rfl _ (hn _) ?_
   intro z10001 k
   simp only [Act.put, pu]
   replace r3 := k.row r3 (by simp <;> omega)
   replace r4 := k.row r4 (by simp <;> omega)
   replace r5 := k.row r5 (by simp <;> omega)
   replace sb := sb.trans (k.below w.heap.size sb.size (by simp <;> omega))
   clear k
   refine pw_put (by rfl) 35 _ _ rfl _ rfl r4 (natC U) rfl (by exact size_nat) (by simp only [natC_size]) (natC_one _) ?_
   clear r4
   intro z10002 r4 k
   simp only [Act.put]
   replace r3 := k.row r3 (by simp <;> omega)
   replace r5 := k.row r5 (by simp <;> omega)
   replace sb := sb.trans (k.below w.heap.size sb.size (by simp <;> omega))
   clear k
   refine pw_nil ?_
   go_wp2
   exact ret_row rfl _ rfl r4 4 _ Tryd.underlying35 (by exact size_nat) rfl ⟨rfl, sb⟩
  | succ g =>
   have hin : i < s.length := by omega
   have hyb : Hid (yb s (s.length - 1 - i) = byt N i) := by
    show yb s (s.length - 1 - i) = byt N i
    rw [yb_byt s i hin, hN.out]
   have hc := yb_lt s (s.length - 1 - i)
   generalize hC : yb s (s.length - 1 - i) = C at *
   (repeat ((fail_if_success with_reducible refine rg ?_); go_step))
   refine wp_region_pw ?_
   refine pw_mv (by rfl) rfl rfl ?_
   simp only [Act.put, pu]
   refine pw_mv (by rfl) rfl rfl ?_
   simp only [Act.put, pu]
   refine pw_value (by rfl) (.int .i64 s.length) (y_lenS _ _ rfl s rfl Tryd.underlying9) ?_
   simp only [Act.put, pu]
   refine pw_value (by rfl) (.bool true) (exec_lt_b _ _ _ _ rfl i s.length rfl rfl true (decide_eq_true (by omega))) ?_
   simp only [Act.put, pu]
   refine pw_nil ?_
   (repeat ((fail_if_success with_reducible refine rg ?_); go_step))
   refine wp_region_pw ?_
   refine pw_mv (by rfl) rfl rfl ?_
   simp only [Act.put, pu]
   refine pw_mv (by rfl) rfl rfl ?_
   simp only [Act.put, pu]
   refine pw_value (by rfl) (.int .i64 s.length) (y_lenS _ _ rfl s rfl Tryd.underlying9) ?_
   simp only [Act.put, pu]
   refine pw_value (by rfl) (.int .i64 ((s.length - 1 : Nat) : Int)) (exec_sub_in _ _ _ _ rfl s.length 1 rfl rfl (by omega) (by omega)) ?_
   simp only [Act.put, pu]
   refine pw_mv (by rfl) rfl rfl ?_
   simp only [Act.put, pu]
   refine pw_value (by rfl) (.int .i64 ((s.length - 1 - i : Nat) : Int)) (exec_sub_in _ _ _ _ rfl (s.length - 1) i rfl rfl (by omega) (by omega)) ?_
   simp only [Act.put, pu]
   refine pw_value (by rfl) (.int .u8 (C : Nat)) (fun w' => (y_index _ _ _ rfl Tryd.underlying9 s rfl .i64 (s.length - 1 - i) rfl (by omega) w').trans (by rw [hC])) ?_
   simp only [Act.put, pu]
   refine pw_value (by rfl) (.int .i64 (C : Nat)) (y_conv _ _ _ rfl .u8 .i64 Tryd.underlying5 Tryd.underlying3 (C : Nat) _ rfl (by rw [IntKind.wrap_i64]; omega)) ?_
   simp only [Act.put, pu]
   refine pw_as (by rfl) rfl rfl ?_
   simp only [Act.put, pu]
   refine pw_nil ?_
   clear hC
   (repeat ((fail_if_success with_reducible refine rg ?_); go_step))
   refine wp_region_pw ?_
   refine pw_value (by rfl) (.int .i64 0) (fun _ => rfl) ?_
   simp only [Act.put, pu]
   refine pw_nil ?_
   go_wp2_with fail
   go_loopg [8] 8 (fun g2 s8 wr2 => ∃ k : Nat, k + g2 = 8 ∧ s8 = .int .i64 k ∧ Row wr2 g3 (natC q) 35 ∧ Row wr2 g4 (natC 0) 35 ∧ Row wr2 g5 (bitC (N % 2 ^ (min (8 * i + k) L))) 85 ∧ Below w.heap.size w wr2)
   case atStart => exact ⟨0, by omega, rfl, r3, r4, r5, sb⟩
   case round =>
    clear r3 r4 r5 sb
    obtain ⟨k, hk, rfl, r3, r4, r5, sb⟩ := hrel
    by_cases hk8 : k < 8
    ·by_cases hkL : 8 * i + k < L
     ·rw [Nat.min_eq_left (by omega)] at r5
      have hsn := bitC_snoc N (8 * i + k) (N.testBit (8 * i + k)) rfl
      have htb := try_bit N i k hk8
      rw [← hyb.out] at htb
      (repeat ((fail_if_success with_reducible refine rg ?_); go_step))
      refine wp_region_pw ?_
      refine pw_mv (by rfl) rfl rfl ?_
      simp only [Act.put, pu]
      refine pw_value (by rfl) (.bool true) (exec_lt_b _ _ _ _ rfl k 8 rfl rfl true (decide_eq_true (by omega))) ?_
      simp only [Act.put, pu]
      refine pw_mv (by rfl) rfl rfl ?_
      simp only [Act.put, pu]
      refine pw_mv (by rfl) rfl rfl ?_
      simp only [Act.put, pu]
      refine pw_value (by rfl) (.int .i64 ((8 * i : Nat) : Int)) (exec_mul_in _ _ _ _ rfl 8 i (8 * i) rfl rfl rfl (by omega)) ?_
      simp only [Act.put, pu]
      refine pw_mv (by rfl) rfl rfl ?_
      simp only [Act.put, pu]
      refine pw_value (by rfl) (.int .i64 ((8 * i + k : Nat) : Int)) (exec_add_in _ _ _ _ rfl (8 * i) k rfl rfl (by omega)) ?_
      simp only [Act.put, pu]
      refine pw_loadm (by rfl) 35 _ rfl _ 0 rfl r3.r _ (part_all _) _ Tryd.underlying35 rfl size_nat ?_
      simp only [Act.put, pu]
      refine pw_callB (by rfl) 37 _ _ rfl Tryd.func37 (by kernel_rfl) #[.agg (natC q)] rfl _ (hlen _) ?_
      intro z7008 k
      simp only [Act.put, pu]
      replace r3 := k.row r3 (by simp <;> omega)
      replace r4 := k.row r4 (by simp <;> omega)
      replace r5 := k.row r5 (by simp <;> omega)
      replace sb := sb.trans (k.below w.heap.size sb.size (by simp <;> omega))
      clear k
      refine pw_value (by rfl) (.bool true) (exec_lt_b _ _ _ _ rfl (8 * i + k : Nat) L rfl rfl true (decide_eq_true (by omega))) ?_
      simp only [Act.put, pu]
      refine pw_pick (by rfl) true (v := .bool true) rfl rfl rfl ?_
      simp only [Act.put, pu]
      refine pw_nil ?_
      (repeat ((fail_if_success with_reducible refine rg ?_); go_step))
      refine wp_region_pw ?_
      refine pw_mv (by rfl) rfl rfl ?_
      simp only [Act.put, pu]
      refine pw_value (by rfl) (.int .i64 ((8 * i : Nat) : Int)) (exec_mul_in _ _ _ _ rfl 8 i (8 * i) rfl rfl rfl (by omega)) ?_
      simp only [Act.put, pu]
      refine pw_mv (by rfl) rfl rfl ?_
      simp only [Act.put, pu]
      refine pw_value (by rfl) (.int .i64 ((8 * i + k : Nat) : Int)) (exec_add_in _ _ _ _ rfl (8 * i) k rfl rfl (by omega)) ?_
      simp only [Act.put, pu]
      refine pw_mv (by rfl) rfl rfl ?_
      simp only [Act.put, pu]
      refine pw_mv (by rfl) rfl rfl ?_
      simp only [Act.put, pu]
      refine pw_value (by rfl) (.int .i64 ((C / 2 ^ k : Nat) : Int)) (exec_shr_i _ _ _ _ rfl C k rfl rfl (by omega)) ?_
      simp only [Act.put, pu]
      refine pw_value (by rfl) (.int .i64 (bits .and .i64 ((C / 2 ^ k : Nat) : Int) 1)) (exec_bits_i .and _ _ _ _ (.inl rfl) rfl _ _ rfl rfl) ?_
      simp only [Act.put, pu]
      refine pw_value (by rfl) (.bool (N.testBit (8 * i + k))) (exec_eql_k .i64 _ _ _ _ rfl _ 1 rfl rfl _ htb) ?_
      simp only [Act.put, pu]
      refine pw_value (by rfl) (.pointer (some ⟨g5, 0 + (8 * i + k) * 1, none⟩)) (exec_index_g 85 _ _ rfl g5 0 rfl (8 * i + k) 256 rfl (by omega) _ Tryd.underlying85 1 Tryd.sizeOf4) ?_
      simp only [Act.put, pu]
      refine pw_putv (by rfl) 4 _ _ rfl _ (0 + (8 * i + k) * 1) rfl r5 (.bool (N.testBit (8 * i + k))) rfl rfl rfl size1tbool (by rw [bitC_size]; omega) (bitC (N % 2 ^ (8 * i + k + 1))) (by rw [Nat.mul_one, Nat.zero_add]; exact hsn) ?_
      clear r5
      intro z9010 r5 k
      simp only [Act.put]
      replace r3 := k.row r3 (by simp <;> omega)
      replace r4 := k.row r4 (by simp <;> omega)
      replace sb := sb.trans (k.below w.heap.size sb.size (by simp <;> omega))
      clear k
      refine pw_nil ?_
      have hm : min (8 * i + (k + 1)) L = 8 * i + k + 1 := by omega
      (repeat ((fail_if_success with_reducible refine rg ?_); go_step))
      refine wp_region_pw ?_
      refine pw_mv (by rfl) rfl rfl ?_
      simp only [Act.put, pu]
      refine pw_value (by rfl) (.int .i64 ((k + 1 : Nat) : Int)) (exec_add_in _ _ _ _ rfl k 1 rfl rfl (by omega)) ?_
      simp only [Act.put, pu]
      refine pw_as (by rfl) rfl rfl ?_
      simp only [Act.put, pu]
      refine pw_nil ?_
      rw [← hm] at r5
      clear hm hsn htb
      cases gk with
      | zero => exact absurd hk8 (by omega)
      | succ g2 =>
      go_wp2
      go_roundg g2
      case measure => omega
      case rel => exact ⟨k + 1, by omega, rfl, r3, r4, r5, sb⟩
     ·have hm : min (8 * i + k) L = min (8 * (i + 1)) L := by omega
      rw [hm] at r5
      clear hm
      (repeat ((fail_if_success with_reducible refine rg ?_); go_step))
      refine wp_region_pw ?_
      refine pw_mv (by rfl) rfl rfl ?_
      simp only [Act.put, pu]
      refine pw_value (by rfl) (.bool true) (exec_lt_b _ _ _ _ rfl k 8 rfl rfl true (decide_eq_true (by omega))) ?_
      simp only [Act.put, pu]
      refine pw_mv (by rfl) rfl rfl ?_
      simp only [Act.put, pu]
      refine pw_mv (by rfl) rfl rfl ?_
      simp only [Act.put, pu]
      refine pw_value (by rfl) (.int .i64 ((8 * i : Nat) : Int)) (exec_mul_in _ _ _ _ rfl 8 i (8 * i) rfl rfl rfl (by omega)) ?_
      simp only [Act.put, pu]
      refine pw_mv (by rfl) rfl rfl ?_
      simp only [Act.put, pu]
      refine pw_value (by rfl) (.int .i64 ((8 * i + k : Nat) : Int)) (exec_add_in _ _ _ _ rfl (8 * i) k rfl rfl (by omega)) ?_
      simp only [Act.put, pu]
      refine pw_loadm (by rfl) 35 _ rfl _ 0 rfl r3.r _ (part_all _) _ Tryd.underlying35 rfl size_nat ?_
      simp only [Act.put, pu]
      refine pw_callB (by rfl) 37 _ _ rfl Tryd.func37 (by kernel_rfl) #[.agg (natC q)] rfl _ (hlen _) ?_
      intro z7008 k
      simp only [Act.put, pu]
      replace r3 := k.row r3 (by simp <;> omega)
      replace r4 := k.row r4 (by simp <;> omega)
      replace r5 := k.row r5 (by simp <;> omega)
      replace sb := sb.trans (k.below w.heap.size sb.size (by simp <;> omega))
      clear k
      refine pw_value (by rfl) (.bool false) (exec_lt_b _ _ _ _ rfl (8 * i + k : Nat) L rfl rfl false (decide_eq_false (by omega))) ?_
      simp only [Act.put, pu]
      refine pw_pick (by rfl) true (v := .bool false) rfl rfl rfl ?_
      simp only [Act.put, pu]
      refine pw_nil ?_
      clear hkL hk8 hk
      (repeat ((fail_if_success with_reducible refine rg ?_); go_step))
      refine wp_region_pw ?_
      refine pw_mv (by rfl) rfl rfl ?_
      simp only [Act.put, pu]
      refine pw_value (by rfl) (.int .i64 ((i + 1 : Nat) : Int)) (exec_add_in _ _ _ _ rfl i 1 rfl rfl (by omega)) ?_
      simp only [Act.put, pu]
      refine pw_as (by rfl) rfl rfl ?_
      simp only [Act.put, pu]
      refine pw_nil ?_
      go_wp2
      go_roundg g
      case measure => omega
      case rel => exact ⟨i + 1, by omega, rfl, r3, r4, r5, sb⟩
    ·obtain rfl : k = 8 := by omega
     clear hk8 hk
     (repeat ((fail_if_success with_reducible refine rg ?_); go_step))
     refine wp_region_pw ?_
     refine pw_mv (by rfl) rfl rfl ?_
     simp only [Act.put, pu]
     refine pw_value (by rfl) (.bool false) (exec_lt_b _ _ _ _ rfl 8 8 rfl rfl false rfl) ?_
     simp only [Act.put, pu]
     refine pw_mv (by rfl) rfl rfl ?_
     simp only [Act.put, pu]
     refine pw_skip (by rfl) ?_
     simp only [Act.put, pu]
     refine pw_skip (by rfl) ?_
     simp only [Act.put, pu]
     refine pw_skip (by rfl) ?_
     simp only [Act.put, pu]
     refine pw_skip (by rfl) ?_
     simp only [Act.put, pu]
     refine pw_skip (by rfl) ?_
     simp only [Act.put, pu]
     refine pw_skip (by rfl) ?_
     simp only [Act.put, pu]
     refine pw_skip (by rfl) ?_
     simp only [Act.put, pu]
     refine pw_pick (by rfl) false (v := .bool false) rfl rfl rfl ?_
     simp only [Act.put, pu]
     refine pw_nil ?_
     (repeat ((fail_if_success with_reducible refine rg ?_); go_step))
     refine wp_region_pw ?_
     refine pw_mv (by rfl) rfl rfl ?_
     simp only [Act.put, pu]
     refine pw_value (by rfl) (.int .i64 ((i + 1 : Nat) : Int)) (exec_add_in _ _ _ _ rfl i 1 rfl rfl (by omega)) ?_
     simp only [Act.put, pu]
     refine pw_as (by rfl) rfl rfl ?_
     simp only [Act.put, pu]
     refine pw_nil ?_
     go_wp2
     go_roundg g
     case measure => omega
     case rel => exact ⟨i + 1, by omega, rfl, r3, r4, r5, sb⟩
theorem rtry_any (s : List UInt8) (q : Nat) (w : World) (hs : s.length ≤ 1000) (hq : q < 2 ^ 256) :
  Calls Tryd.prog 47 #[.string ⟨(s).toArray⟩, .agg (natC q)] w fun e w' => e = .returned (.agg (natC (tryN q s))) ∧ Below w.heap.size w w' :=
 rtry_core s q (bitLen q) (natB s) (tryN q s) w hs (bitLen_256 hq) (show natB s = natB s from rfl) (show natB s % 2 ^ (min (8 * s.length) (bitLen q)) = tryN q s from try_end s _) (fun w' => rlen_any q w' hq)
end Go.Proofs.YtlacmkliofnjcaaDoor
