/- prime.Small; the document's Plain and Small. -/
import Derived.Test.YtcgeimbfijpocaaPMath
import Derived.Test.YtcgeimbfijpocaaMPow
import Derived.WalkMore
namespace Go.Proofs.Ytcgeimbfijpocaa
open Go.RowKit
theorem exec_mul_in {P : Program} {o : Oper} {ρ : Operand → Value} (t : TypeId) (x y : Operand) (u : TypeId) (ho : o.op = .binOp .mul t x y u) (n m r : Nat) (hx : ρ x = .int .i64 n) (hy : ρ y = .int .i64 m) (hr : n * m = r) (h : r < 9223372036854775808) (w : World) :
  (execOp ρ o).run P w = .ok (.value (.int .i64 (r : Int))) w := by
 subst hr
 unfold execOp
 simp only [ho, hx, hy]
 simp [go_sem]
 rw [← Int.natCast_mul, IntKind.wrap_i64]
 omega
theorem exec_leq_i {P : Program} {o : Oper} {ρ : Operand → Value} (t : TypeId) (x y : Operand) (u : TypeId) (ho : o.op = .binOp .leq t x y u) (n m : Int) (hx : ρ x = .int .i64 n) (hy : ρ y = .int .i64 m) (b : Bool) (hb : decide (n ≤ m) = b) (w : World) :
  (execOp ρ o).run P w = .ok (.value (.bool b)) w := by
 subst hb
 unfold execOp
 simp only [ho, hx, hy]
 simp [go_sem]
theorem exec_lt_b {P : Program} {o : Oper} {ρ : Operand → Value} (t : TypeId) (x y : Operand) (u : TypeId) (ho : o.op = .binOp .lss t x y u) (n m : Int) (hx : ρ x = .int .i64 n) (hy : ρ y = .int .i64 m) (b : Bool) (hb : decide (n < m) = b) (w : World) :
  (execOp ρ o).run P w = .ok (.value (.bool b)) w := by
 subst hb
 unfold execOp
 simp only [ho, hx, hy]
 simp [go_sem]
theorem sq_lt (d : Nat) (h : d ≤ 65537) : d * d < 9223372036854775808 := by
 have := Nat.mul_le_mul h h
 omega
set_option maxRecDepth 100000 in
set_option maxHeartbeats 1000000 in
theorem small_less (z : Int) (w : World) (h : z < 2) :
  Calls Try.prog 72 #[.int .i64 z] w fun e w' => e = .returned (.bool false) ∧ Below w.heap.size w w' := by
 go_enter Try.func72, Try.ntmps72
 (repeat ((fail_if_success with_reducible refine rg ?_); go_step))
 apply wp_region_mixp [] [_] trivial List.nodup_nil
 ·intro p
  refine mx_val (.bool false) (fun _ => rfl) ?_
  simp only [Act.put, pu]
  refine mx_end ?_
  intro w2 hkw hrw hnew hdis
  have sb := hkw.below w.heap.size (Nat.le_refl _) (by simp)
  clear hkw hrw hnew hdis
  (repeat ((fail_if_success with_reducible refine rg ?_); go_step))
  go_step3
  (repeat ((fail_if_success with_reducible refine rg ?_); go_step))
  refine wp_region_qp ?_
  refine qw_move (by rfl) rfl rfl ?_
  simp only [Act.put, pu]
  refine qw_value (by rfl) (.bool true) (exec_lt_b _ _ _ _ rfl z 2 rfl rfl true (decide_eq_true h)) ?_
  simp only [Act.put, pu]
  refine qw_move (by rfl) rfl rfl ?_
  simp only [Act.put, pu]
  refine qw_skip (by rfl) ?_
  simp only [Act.put, pu]
  refine qw_skip (by rfl) ?_
  simp only [Act.put, pu]
  refine qw_pick true (v := .bool true) (by rfl) rfl rfl rfl ?_
  simp only [Act.put, pu]
  refine qw_nil ?_
  intro w3 hqb
  replace sb := below_on sb (Nat.le_refl _) hqb
  clear hqb
  go_wp2
  rw [Exit.noGoto_ret]
  go_ret
  exact ⟨rfl, sb⟩
 ·rfl
set_option maxRecDepth 100000 in
set_option maxHeartbeats 1000000 in
theorem small_great (z : Int) (w : World) (h : 65536 ≤ z) :
  Calls Try.prog 72 #[.int .i64 z] w fun e w' => e = .returned (.bool false) ∧ Below w.heap.size w w' := by
 go_enter Try.func72, Try.ntmps72
 (repeat ((fail_if_success with_reducible refine rg ?_); go_step))
 apply wp_region_mixp [] [_] trivial List.nodup_nil
 ·intro p
  refine mx_val (.bool false) (fun _ => rfl) ?_
  simp only [Act.put, pu]
  refine mx_end ?_
  intro w2 hkw hrw hnew hdis
  have sb := hkw.below w.heap.size (Nat.le_refl _) (by simp)
  clear hkw hrw hnew hdis
  (repeat ((fail_if_success with_reducible refine rg ?_); go_step))
  go_step3
  (repeat ((fail_if_success with_reducible refine rg ?_); go_step))
  refine wp_region_qp ?_
  refine qw_move (by rfl) rfl rfl ?_
  simp only [Act.put, pu]
  refine qw_value (by rfl) (.bool false) (exec_lt_b _ _ _ _ rfl z 2 rfl rfl false (decide_eq_false (by omega))) ?_
  simp only [Act.put, pu]
  refine qw_move (by rfl) rfl rfl ?_
  simp only [Act.put, pu]
  refine qw_move (by rfl) rfl rfl ?_
  simp only [Act.put, pu]
  refine qw_value (by rfl) (.bool true) (exec_geq_i _ _ _ _ rfl z 65536 rfl rfl true (decide_eq_true h)) ?_
  simp only [Act.put, pu]
  refine qw_pick false (v := .bool true) (by rfl) rfl rfl rfl ?_
  simp only [Act.put, pu]
  refine qw_nil ?_
  intro w3 hqb
  replace sb := below_on sb (Nat.le_refl _) hqb
  clear hqb
  go_wp2
  rw [Exit.noGoto_ret]
  go_ret
  exact ⟨rfl, sb⟩
 ·rfl
set_option maxRecDepth 100000 in
set_option maxHeartbeats 1000000 in
theorem small_mid (n : Nat) (B : Bool) (w : World) (h2 : 2 ≤ n) (h : n < 65536) (hB : sieve n n 2 = B) :
  Calls Try.prog 72 #[.int .i64 n] w fun e w' => e = .returned (.bool B) ∧ Below w.heap.size w w' := by
 have HB : Hid (sieve n n (0 + 2) = B) := hB
 clear hB
 go_enter Try.func72, Try.ntmps72
 (repeat ((fail_if_success with_reducible refine rg ?_); go_step))
 apply wp_region_mixp [] [_] trivial List.nodup_nil
 ·intro p
  refine mx_val (.bool false) (fun _ => rfl) ?_
  simp only [Act.put, pu]
  refine mx_end ?_
  intro w2 hkw hrw hnew hdis
  have sb := hkw.below w.heap.size (Nat.le_refl _) (by simp)
  clear hkw hrw hnew hdis
  (repeat ((fail_if_success with_reducible refine rg ?_); go_step))
  go_step3
  (repeat ((fail_if_success with_reducible refine rg ?_); go_step))
  refine wp_region_qp ?_
  refine qw_move (by rfl) rfl rfl ?_
  simp only [Act.put, pu]
  refine qw_value (by rfl) (.bool false) (exec_lt_b _ _ _ _ rfl n 2 rfl rfl false (decide_eq_false (by omega))) ?_
  simp only [Act.put, pu]
  refine qw_move (by rfl) rfl rfl ?_
  simp only [Act.put, pu]
  refine qw_move (by rfl) rfl rfl ?_
  simp only [Act.put, pu]
  refine qw_value (by rfl) (.bool false) (exec_geq_i _ _ _ _ rfl n 65536 rfl rfl false (decide_eq_false (by omega))) ?_
  simp only [Act.put, pu]
  refine qw_pick false (v := .bool false) (by rfl) rfl rfl rfl ?_
  simp only [Act.put, pu]
  refine qw_nil ?_
  intro w3 hqb
  replace sb := below_on sb (Nat.le_refl _) hqb
  clear hqb
  go_wp2_with fail
  (repeat ((fail_if_success with_reducible refine rg ?_); go_step))
  go_step3
  go_wp2_with fail
  go_loopg [3, 13] n (fun g s3 s13 wr => ∃ k : Nat, k + g = n ∧ s3 = .bool true ∧ s13 = .int .i64 k ∧ sieve n g (k + 2) = B ∧ Below w.heap.size w wr)
  case atStart => exact ⟨0, by omega, rfl, rfl, HB.out, sb⟩
  case round =>
   clear sb HB
   obtain ⟨k, hk, rfl, rfl, hs, sb⟩ := hrel
   cases gk with
   | zero =>
    obtain rfl : k = n := by omega
    obtain rfl : true = B := hs
    (repeat ((fail_if_success with_reducible refine rg ?_); go_step))
    apply wp_region_mixp [] [_] trivial List.nodup_nil
    ·intro p
     refine mx_val (.bool false) (exec_lt_b _ _ _ _ rfl k k rfl rfl false (decide_eq_false (Int.lt_irrefl _))) ?_
     simp only [Act.put, pu]
     refine mx_end ?_
     intro w4 hkw hrw hnew hdis
     replace sb := sb.trans (hkw.below w.heap.size sb.size (by simp <;> omega))
     clear hkw hrw hnew hdis
     go_wp2
     (try rw [Exit.noGoto_ret])
     go_ret
     exact ⟨rfl, sb⟩
    ·rfl
   | succ g =>
    have hsq := sq_lt (2 + k) (by omega)
    unfold sieve at hs
    rw [Nat.add_comm k 2] at hs
    (repeat ((fail_if_success with_reducible refine rg ?_); go_step))
    apply wp_region_mixp [] [_] trivial List.nodup_nil
    ·intro p
     refine mx_val (.bool true) (exec_lt_b _ _ _ _ rfl k n rfl rfl true (decide_eq_true (by omega))) ?_
     simp only [Act.put, pu]
     refine mx_end ?_
     intro w4 hkw hrw hnew hdis
     replace sb := sb.trans (hkw.below w.heap.size sb.size (by simp <;> omega))
     clear hkw hrw hnew hdis
     (repeat ((fail_if_success with_reducible refine rg ?_); go_step))
     apply wp_region_mixp [] [_, _] trivial List.nodup_nil
     ·intro p
      refine mx_move rfl rfl ?_
      simp only [Act.put, pu]
      refine mx_asg rfl rfl ?_
      simp only [Act.put, pu]
      refine mx_end ?_
      intro w5 hkw hrw hnew hdis
      replace sb := sb.trans (hkw.below w.heap.size sb.size (by simp <;> omega))
      clear hkw hrw hnew hdis
      (repeat ((fail_if_success with_reducible refine rg ?_); go_step))
      apply wp_region_mixp [] [_, _, _] trivial List.nodup_nil
      ·intro p
       refine mx_move rfl rfl ?_
       simp only [Act.put, pu]
       refine mx_val (.int .i64 ((2 + k : Nat) : Int)) (exec_add_in _ _ _ _ rfl 2 k rfl rfl (by omega)) ?_
       simp only [Act.put, pu]
       refine mx_asg rfl rfl ?_
       simp only [Act.put, pu]
       refine mx_end ?_
       intro w6 hkw hrw hnew hdis
       replace sb := sb.trans (hkw.below w.heap.size sb.size (by simp <;> omega))
       clear hkw hrw hnew hdis
       by_cases hbig : n < (2 + k) * (2 + k)
       ·rw [if_pos hbig] at hs
        subst hs
        generalize hd : (2 + k) * (2 + k) = D at *
        (repeat ((fail_if_success with_reducible refine rg ?_); go_step))
        apply wp_region_mixp [] [_, _, _, _, _, _] trivial List.nodup_nil
        ·intro p
         refine mx_move rfl rfl ?_
         simp only [Act.put, pu]
         refine mx_move rfl rfl ?_
         simp only [Act.put, pu]
         refine mx_val (.int .i64 D) (exec_mul_in _ _ _ _ rfl (2 + k) (2 + k) D rfl rfl hd hsq) ?_
         simp only [Act.put, pu]
         refine mx_move rfl rfl ?_
         simp only [Act.put, pu]
         refine mx_val (.bool true) (exec_gt_i _ _ _ _ rfl D n rfl rfl true (decide_eq_true (by omega))) ?_
         simp only [Act.put, pu]
         refine mx_asg rfl rfl ?_
         simp only [Act.put, pu]
         refine mx_end ?_
         intro w7 hkw hrw hnew hdis
         replace sb := sb.trans (hkw.below w.heap.size sb.size (by simp <;> omega))
         clear hkw hrw hnew hdis
         go_wp2
         (try rw [Exit.noGoto_ret])
         go_ret
         exact ⟨rfl, sb⟩
        ·rfl
       rw [if_neg hbig] at hs
       have hd0 : 0 < 2 + k := by omega
       by_cases hz : n % (2 + k) = 0
       ·rw [if_pos hz] at hs
        subst hs
        generalize hd : (2 + k) * (2 + k) = D at *
        (repeat ((fail_if_success with_reducible refine rg ?_); go_step))
        apply wp_region_mixp [] [_, _, _, _, _, _] trivial List.nodup_nil
        ·intro p
         refine mx_move rfl rfl ?_
         simp only [Act.put, pu]
         refine mx_move rfl rfl ?_
         simp only [Act.put, pu]
         refine mx_val (.int .i64 D) (exec_mul_in _ _ _ _ rfl (2 + k) (2 + k) D rfl rfl hd hsq) ?_
         simp only [Act.put, pu]
         refine mx_move rfl rfl ?_
         simp only [Act.put, pu]
         refine mx_val (.bool false) (exec_gt_i _ _ _ _ rfl D n rfl rfl false (decide_eq_false (by omega))) ?_
         simp only [Act.put, pu]
         refine mx_asg rfl rfl ?_
         simp only [Act.put, pu]
         refine mx_end ?_
         intro w7 hkw hrw hnew hdis
         replace sb := sb.trans (hkw.below w.heap.size sb.size (by simp <;> omega))
         clear hkw hrw hnew hdis
         (repeat ((fail_if_success with_reducible refine rg ?_); go_step))
         apply wp_region_mixp [] [_, _, _, _, _] trivial List.nodup_nil
         ·intro p
          refine mx_move rfl rfl ?_
          simp only [Act.put, pu]
          refine mx_move rfl rfl ?_
          simp only [Act.put, pu]
          refine mx_val (.int .i64 (n % (2 + k) : Nat)) (exec_rem_i _ _ _ _ rfl n (2 + k) rfl rfl hd0) ?_
          simp only [Act.put, pu]
          refine mx_val (.bool true) (exec_eql_k .i64 _ _ _ _ rfl (n % (2 + k) : Nat) 0 rfl rfl true (decide_eq_true (by omega))) ?_
          simp only [Act.put, pu]
          refine mx_asg rfl rfl ?_
          simp only [Act.put, pu]
          refine mx_end ?_
          intro w8 hkw hrw hnew hdis
          replace sb := sb.trans (hkw.below w.heap.size sb.size (by simp <;> omega))
          clear hkw hrw hnew hdis
          go_wp2
          (try rw [Exit.noGoto_ret])
          go_ret
          exact ⟨rfl, sb⟩
         ·rfl
        ·rfl
       ·rw [if_neg hz] at hs
        generalize hd : (2 + k) * (2 + k) = D at *
        (repeat ((fail_if_success with_reducible refine rg ?_); go_step))
        apply wp_region_mixp [] [_, _, _, _, _, _] trivial List.nodup_nil
        ·intro p
         refine mx_move rfl rfl ?_
         simp only [Act.put, pu]
         refine mx_move rfl rfl ?_
         simp only [Act.put, pu]
         refine mx_val (.int .i64 D) (exec_mul_in _ _ _ _ rfl (2 + k) (2 + k) D rfl rfl hd hsq) ?_
         simp only [Act.put, pu]
         refine mx_move rfl rfl ?_
         simp only [Act.put, pu]
         refine mx_val (.bool false) (exec_gt_i _ _ _ _ rfl D n rfl rfl false (decide_eq_false (by omega))) ?_
         simp only [Act.put, pu]
         refine mx_asg rfl rfl ?_
         simp only [Act.put, pu]
         refine mx_end ?_
         intro w7 hkw hrw hnew hdis
         replace sb := sb.trans (hkw.below w.heap.size sb.size (by simp <;> omega))
         clear hkw hrw hnew hdis
         (repeat ((fail_if_success with_reducible refine rg ?_); go_step))
         apply wp_region_mixp [] [_, _, _, _, _] trivial List.nodup_nil
         ·intro p
          refine mx_move rfl rfl ?_
          simp only [Act.put, pu]
          refine mx_move rfl rfl ?_
          simp only [Act.put, pu]
          refine mx_val (.int .i64 (n % (2 + k) : Nat)) (exec_rem_i _ _ _ _ rfl n (2 + k) rfl rfl hd0) ?_
          simp only [Act.put, pu]
          refine mx_val (.bool false) (exec_eql_k .i64 _ _ _ _ rfl (n % (2 + k) : Nat) 0 rfl rfl false (decide_eq_false (by omega))) ?_
          simp only [Act.put, pu]
          refine mx_asg rfl rfl ?_
          simp only [Act.put, pu]
          refine mx_end ?_
          intro w8 hkw hrw hnew hdis
          replace sb := sb.trans (hkw.below w.heap.size sb.size (by simp <;> omega))
          clear hkw hrw hnew hdis
          (repeat ((fail_if_success with_reducible refine rg ?_); go_step))
          apply wp_region_mixp [] [_, _] trivial List.nodup_nil
          ·intro p
           refine mx_val (.int .i64 ((k + 1 : Nat) : Int)) (exec_add_in _ _ _ _ rfl k 1 rfl rfl (by omega)) ?_
           simp only [Act.put, pu]
           refine mx_move rfl rfl ?_
           simp only [Act.put, pu]
           refine mx_end ?_
           intro w9 hkw hrw hnew hdis
           replace sb := sb.trans (hkw.below w.heap.size sb.size (by simp <;> omega))
           clear hkw hrw hnew hdis
           go_wp2
           go_roundg g
           case measure => omega
           case rel => exact ⟨k + 1, by omega, rfl, rfl, by rw [← hs, show k + 1 + 2 = 2 + k + 1 by omega], sb⟩
          ·rfl
         ·rfl
        ·rfl
      ·rfl
     ·rfl
    ·rfl
 ·rfl
/-- Small: whether a number is a prime below 2^16. -/
theorem small_any (z : Int) (w : World) :
  Calls Try.prog 72 #[.int .i64 z] w fun e w' => e = .returned (.bool (smI z)) ∧ Below w.heap.size w w' := by
 unfold smI
 by_cases h1 : z < 2
 ·rw [decide_eq_false (show ¬ 2 ≤ z by omega)]
  exact small_less z w h1
 by_cases h2 : 65536 ≤ z
 ·rw [decide_eq_false (show ¬ z < 65536 by omega), Bool.false_and, Bool.and_false]
  exact small_great z w h2
 obtain ⟨n, rfl⟩ := Int.eq_ofNat_of_zero_le (show 0 ≤ z by omega)
 rw [decide_eq_true (show (2 : Int) ≤ n by omega), decide_eq_true (show (n : Int) < 65536 by omega), Int.toNat_natCast, Bool.true_and, Bool.true_and]
 exact small_mid n _ w (by omega) (by omega) rfl
/-- Plain: whether a number up to 2^32 is a prime. -/
def plI (z : Int) : Bool := decide (2 ≤ z) && (decide (z ≤ 4294967296) && sieve z.toNat 65534 2)
theorem plI_isP {n : Nat} (h : n ≤ 4294967296) (hp : IsP n) : plI (n : Int) = true := by
 unfold plI
 have h2 := hp.1
 rw [decide_eq_true (show (2 : Int) ≤ n by omega), decide_eq_true (show (n : Int) ≤ 4294967296 by omega), Int.toNat_natCast, Bool.true_and, Bool.true_and, sieve_iff]
 exact fun e h1 _ h3 => tried_of_isP hp e h1 h3
theorem plI_small (z : Int) (h : z < 65536) : plI z = smI z := by
 unfold plI smI
 by_cases h1 : z < 2
 ·rw [decide_eq_false (show ¬ 2 ≤ z by omega), Bool.false_and, Bool.false_and]
 obtain ⟨n, rfl⟩ := Int.eq_ofNat_of_zero_le (show 0 ≤ z by omega)
 rw [decide_eq_true h, decide_eq_true (show (n : Int) ≤ 4294967296 by omega), Int.toNat_natCast, sieve_same n (by omega)]
theorem smI_great (z : Int) (h : ¬ z < 65536) : smI z = false := by
 unfold smI
 rw [decide_eq_false h, Bool.false_and, Bool.and_false]
end Go.Proofs.Ytcgeimbfijpocaa
