/- The document's Try, Draw, Draws of layer 10; its Same of layer 8. -/
import Derived.Test.YtdemabfpcepnfaaGreatDoorTC
import Derived.OwnWalk
namespace Go.Proofs.YtdemabfpcepnfaaGreatDoor
open Go.RowKit
set_option linter.unusedVariables false
theorem size1tbool : (Tryz.prog.info? 4).map (·.size) = some 1 := by kernel_rfl
theorem and_1 (x : Int) : bits .and .i64 x 1 = (((x % 2).toNat : Nat) : Int) := by
 show IntKind.i64.wrap ((BitVec.ofInt 64 x &&& BitVec.ofInt 64 1).toNat : Int) = _
 have h1 : (BitVec.ofInt 64 1).toNat = 2 ^ 1 - 1 := by decide
 rw [BitVec.toNat_and, h1, Nat.and_two_pow_sub_one_eq_mod, BitVec.toNat_ofInt]
 have e : (x % ((2 ^ 64 : Nat) : Int)).toNat % 2 ^ 1 = (x % 2).toNat := by omega
 rw [e]
 exact wrap_i64 _ (by omega)
theorem try_bit (N i k : Nat) (hk : k < 8) : decide (bits .and .i64 ((byt N i / 2 ^ k : Nat) : Int) 1 = 1) = N.testBit (8 * i + k) := by
 have h := byt_bit N i k
 rw [decide_eq_true hk, Bool.true_and] at h
 rw [and_1, ← h, Nat.testBit_eq_decide_div_mod_eq]
 generalize byt N i / 2 ^ k = y
 have e : (((y : Int) % 2).toNat : Int) = ((y % 2 : Nat) : Int) := by omega
 rw [e]
 by_cases h1 : y % 2 = 1
 ·rw [decide_eq_true h1, decide_eq_true (by omega)]
 ·rw [decide_eq_false h1, decide_eq_false (by omega)]
theorem try_end (s : List UInt8) (L : Nat) : natB s % 2 ^ (min (8 * s.length) L) = natB s % 2 ^ L := by
 have h := natB_lt s
 by_cases hl : 8 * s.length ≤ L
 ·rw [Nat.min_eq_left hl, Nat.mod_eq_of_lt h, Nat.mod_eq_of_lt (Nat.lt_of_lt_of_le h (Nat.pow_le_pow_right (by decide) hl))]
 ·rw [Nat.min_eq_right (by omega)]
theorem yb_byt (s : List UInt8) (i : Nat) (hi : i < s.length) : yb s (s.length - 1 - i) = byt (natB s) i := by
 rw [natB_byt s i hi]
 unfold yb
 rw [List.getD_eq_getElem?_getD, List.getElem?_eq_getElem (by omega)]
 rfl
end Go.Proofs.YtdemabfpcepnfaaGreatDoor
/- The document's Draw, Draws of layer 10; its Same of layer 8. -/
namespace Go.Proofs.YtdemabfpcepnfaaGreatDoor
open Go.RowKit
set_option linter.unusedVariables false
theorem take_mid (s : List UInt8) (a n : Nat) : (s.take (a + n)).drop a = (s.drop a).take n := by
 rw [List.drop_take, Nat.add_sub_cancel_left]
set_option maxRecDepth 100000 in
set_option maxHeartbeats 2000000 in
theorem rsame_yes (n ca ce : Nat) (ab ae : Option Addr) (a' : Nat → Nat) (gb ob ge oe : Nat) (bcs ecs : Array Value) (tb te : TypeId) (w : World) (hn : n < 9223372036854775808) (hna : NatsAt w ab n a' gb ob bcs tb) (hnb : NatsAt w ae n a' ge oe ecs te) :
  Calls Tryz.prog 11 #[.slice ab n ca, .slice ae n ce] w fun e w' => e = .returned (.bool true) ∧ Below w.heap.size w w' := by
 have HB : Hid (NatsAt w ab n a' gb ob bcs tb) := hna
 have HE : Hid (NatsAt w ae n a' ge oe ecs te) := hnb
 clear hna hnb
 go_enter Tryz.func11, Tryz.ntmps11
 have sb := sbmk w
 (repeat ((fail_if_success with_reducible refine rg ?_); go_step))
 refine wp_region_pw ?_
 refine pw_value (by rfl) (.bool false) (fun _ => rfl) ?_
 simp only [Act.put, pu]
 refine pw_nil ?_
 (repeat ((fail_if_success with_reducible refine rg ?_); go_step))
 refine wp_region_pw ?_
 refine pw_mv (by rfl) rfl rfl ?_
 simp only [Act.put, pu]
 refine pw_value (by rfl) (.int .i64 n) (exec_len_s 34 _ rfl ab n ca rfl sl_natsX) ?_
 simp only [Act.put, pu]
 refine pw_mv (by rfl) rfl rfl ?_
 simp only [Act.put, pu]
 refine pw_value (by rfl) (.int .i64 n) (exec_len_s 34 _ rfl ae n ce rfl sl_natsX) ?_
 simp only [Act.put, pu]
 refine pw_value (by rfl) (.bool false) (exec_neq_k .i64 _ _ _ _ rfl n n rfl rfl false (by rw [decide_eq_true rfl]; rfl)) ?_
 simp only [Act.put, pu]
 refine pw_nil ?_
 (repeat ((fail_if_success with_reducible refine rg ?_); go_step))
 refine wp_region_pw ?_
 refine pw_value (by rfl) (.int .i64 0) (fun _ => rfl) ?_
 simp only [Act.put, pu]
 refine pw_nil ?_
 go_wp2_with fail
 go_loopg [5] n (fun g s5 wr => ∃ i : Nat, i + g = n ∧ s5 = .int .i64 i ∧ Below w.heap.size w wr)
 case atStart => exact ⟨0, by omega, rfl, sb⟩
 case round =>
  clear sb
  obtain ⟨i, hi, rfl, sb⟩ := hrel
  cases gk with
  | zero =>
   obtain rfl : i = n := by omega
   clear hi
   (repeat ((fail_if_success with_reducible refine rg ?_); go_step))
   refine wp_region_pw ?_
   refine pw_mv (by rfl) rfl rfl ?_
   simp only [Act.put, pu]
   refine pw_mv (by rfl) rfl rfl ?_
   simp only [Act.put, pu]
   refine pw_value (by rfl) (.int .i64 i) (exec_len_s 34 _ rfl ab i ca rfl sl_natsX) ?_
   simp only [Act.put, pu]
   refine pw_value (by rfl) (.bool false) (exec_lt_b _ _ _ _ rfl i i rfl rfl false (decide_eq_false (Int.lt_irrefl _))) ?_
   simp only [Act.put, pu]
   refine pw_nil ?_
   (repeat ((fail_if_success with_reducible refine rg ?_); go_step))
   refine wp_region_pw ?_
   refine pw_value (by rfl) (.bool true) (fun _ => rfl) ?_
   simp only [Act.put, pu]
   refine pw_nil ?_
   go_wp2
   go_ret
   exact ⟨rfl, sb⟩
  | succ g =>
   have hlt : i < n := by omega
   (repeat ((fail_if_success with_reducible refine rg ?_); go_step))
   refine wp_region_pw ?_
   refine pw_mv (by rfl) rfl rfl ?_
   simp only [Act.put, pu]
   refine pw_mv (by rfl) rfl rfl ?_
   simp only [Act.put, pu]
   refine pw_value (by rfl) (.int .i64 n) (exec_len_s 34 _ rfl ab n ca rfl sl_natsX) ?_
   simp only [Act.put, pu]
   refine pw_value (by rfl) (.bool true) (exec_lt_b _ _ _ _ rfl i n rfl rfl true (decide_eq_true (by omega))) ?_
   simp only [Act.put, pu]
   refine pw_nil ?_
   obtain h0 | ⟨rfl, rB, hbt⟩ := (HB.out.below sb).at'
   ·exact absurd h0 (by omega)
   obtain h0 | ⟨rfl, rE, het⟩ := (HE.out.below sb).at'
   ·exact absurd h0 (by omega)
   have hbt' := hbt i hlt
   have het' := het i hlt
   clear hbt het
   (repeat ((fail_if_success with_reducible refine rg ?_); go_step))
   refine wp_region_qw (by kernel_rfl) (by kernel_rfl) ?_
   refine qw_move (by rfl) rfl rfl ?_
   simp only [Act.put, pu]
   refine qw_move (by rfl) rfl rfl ?_
   simp only [Act.put, pu]
   refine qw_value (by rfl) (.pointer (some ⟨gb, ob + i * 4, none⟩)) ((exec_index_s 34 _ _ rfl gb ob n ca rfl i rfl hlt _ Tryz.underlying34 4 size_nat4)) ?_
   simp only [Act.put, pu]
   refine qw_loadmR (by rfl) 26 _ rfl _ (ob + i * 4) rfl rB (natC (a' i)) hbt' _ Tryz.underlying26 rfl size_nat ?_
   simp only [Act.put, pu]
   refine qw_move (by rfl) rfl rfl ?_
   simp only [Act.put, pu]
   refine qw_move (by rfl) rfl rfl ?_
   simp only [Act.put, pu]
   refine qw_value (by rfl) (.pointer (some ⟨ge, oe + i * 4, none⟩)) ((exec_index_s 34 _ _ rfl ge oe n ce rfl i rfl hlt _ Tryz.underlying34 4 size_nat4)) ?_
   simp only [Act.put, pu]
   refine qw_loadmR (by rfl) 26 _ rfl _ (oe + i * 4) rfl rE (natC (a' i)) het' _ Tryz.underlying26 rfl size_nat ?_
   simp only [Act.put, pu]
   refine qw_value (by rfl) (.bool false) ((fun w' => (exec_neq_nat _ _ _ rfl (a' i) (a' i) rfl rfl w').trans (by rw [neq_no]))) ?_
   simp only [Act.put, pu]
   refine qw_nil ?_
   intro w6 hqb
   replace sb := below_on sb (Nat.le_refl _) hqb
   clear hqb
   clear rB rE hbt' het'
   (repeat ((fail_if_success with_reducible refine rg ?_); go_step))
   refine wp_region_pw ?_
   refine pw_mv (by rfl) rfl rfl ?_
   simp only [Act.put, pu]
   refine pw_value (by rfl) (.int .i64 ((i + 1 : Nat) : Int)) (exec_add_in _ _ _ _ rfl i 1 rfl rfl (by omega)) ?_
   simp only [Act.put, pu]
   refine pw_as (by rfl) rfl rfl ?_
   simp only [Act.put, pu]
   refine pw_nil ?_
   go_wp2
   go_roundg g
   case measure => omega
   case rel => exact ⟨i + 1, by omega, rfl, sb⟩
end Go.Proofs.YtdemabfpcepnfaaGreatDoor
