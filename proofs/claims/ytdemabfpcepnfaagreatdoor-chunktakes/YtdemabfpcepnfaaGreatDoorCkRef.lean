/- The document's bytes, Count, Put of layer 11. -/
import Derived.Test.YtdemabfpcepnfaaGreatDoorCkFun
import Derived.Test.YtdemabfpcepnfaaGreatDoorRTake
namespace Go.Proofs.YtdemabfpcepnfaaGreatDoor
open Go.RowKit
set_option linter.unusedVariables false
theorem pad_stop {L z : Nat} (hz : 0 < z) : (L + (pN L z * z - L)) % z = 0 := by
 have := pN_ge (n := L) hz
 rw [show L + (pN L z * z - L) = pN L z * z by omega, Nat.mul_mod_left]
theorem pad_go {L z j : Nat} (hz : 0 < z) (hj : j < pN L z * z - L) : ¬ (L + j) % z = 0 := by
 intro h0
 have h1 := Nat.div_add_mod (L + j) z
 rw [h0, Nat.add_zero, Nat.mul_comm] at h1
 have h2 := pN_lt (n := L) hz
 have h3 : (L + j) / z * z < pN L z * z := by omega
 have h4 : (L + j) / z < pN L z := Nat.lt_of_mul_lt_mul_right h3
 have h5 : ((L + j) / z + 1) * z ≤ pN L z * z := Nat.mul_le_mul_right _ h4
 rw [Nat.add_mul, Nat.one_mul] at h5
 omega
theorem take_snoc (l : List UInt8) (j : Nat) (h : j < l.length) : natB (l.take (j + 1)) = natB (l.take j) * 256 + yb l j := by
 rw [List.take_succ_eq_append_getElem h, natB_snoc]
 unfold yb
 rw [List.getD_eq_getElem?_getD, List.getElem?_eq_getElem h]
 rfl
theorem prt_yb (s : List UInt8) (z k j : Nat) (hj : j < z) : yb (prt s z k) j = yb (padz s z) (k * z + j) := by
 unfold yb prt
 rw [List.getD_eq_getElem?_getD, List.getD_eq_getElem?_getD, List.getElem?_take, if_pos hj, List.getElem?_drop]
/-- What the document's Size answers. -/
def SzR (w : World) (p : Value) (z : Int) : Prop := ∀ w', Below w.heap.size w w' → Calls Tryz.prog 30 #[p] w' fun e w2 => e = .returned (.int .i64 z) ∧ Below w'.heap.size w' w2
theorem SzR.below {w w' : World} {p : Value} {z : Int} (h : SzR w p z) (hb : Below w.heap.size w w') : SzR w' p z := fun w2 h2 => h w2 (below_on hb (Nat.le_refl _) h2)
set_option maxRecDepth 100000 in
set_option maxHeartbeats 2000000 in
theorem rb11_none (s : List UInt8) (z N D : Nat) (w : World) (hz : 0 < z) (hNb : N ≤ 25) (hDb : D ≤ 100) (HS : Hid ((N + D) % z = 0 ∧ ∀ j, j < D → ¬ (N + j) % z = 0)) (hN : [(0 : UInt8)].length = N) :
  Calls Tryz.prog 31 #[.string ⟨(s).toArray⟩, .bool false, .int .i64 z] w fun e w' => e = .returned (.string ⟨(([0] : List UInt8) ++ List.replicate D 0).toArray⟩) ∧ Below w.heap.size w w' := by
 go_enter Tryz.func31, Tryz.ntmps31
 have sb := sbmk w
 (repeat ((fail_if_success with_reducible refine rg ?_); go_step))
 refine wp_region_pw ?_
 refine pw_move (by rfl) (.inr rfl) rfl ?_
 simp only [Act.put, pu]
 refine pw_nil ?_
 (repeat ((fail_if_success with_reducible refine rg ?_); go_step))
 refine wp_region_pw ?_
 refine pw_move (by rfl) (.inr rfl) rfl ?_
 simp only [Act.put, pu]
 refine pw_nil ?_
 (repeat ((fail_if_success with_reducible refine rg ?_); go_step))
 refine wp_region_pw ?_
 refine pw_mv (by rfl) rfl rfl ?_
 simp only [Act.put, pu]
 refine pw_nil ?_
 go_wp2_with fail
 go_loopg [7] (D) (fun g s7 wr => ∃ j : Nat, j + g = D ∧ s7 = .string ⟨(([0] : List UInt8) ++ List.replicate j 0).toArray⟩ ∧ Below w.heap.size w wr)
 case atStart => exact ⟨0, by omega, by rw [List.replicate_zero, List.append_nil] <;> rfl, sb⟩
 case round =>
  clear sb
  obtain ⟨j, hj, rfl, sb⟩ := hrel
  have hl : (([0] : List UInt8) ++ List.replicate j 0).length = N + j := by rw [List.length_append, List.length_replicate, hN]
  cases gk with
  | zero =>
   obtain rfl : j = D := by omega
   have hm := HS.out.1
   (repeat ((fail_if_success with_reducible refine rg ?_); go_step))
   refine wp_region_pw ?_
   refine pw_mv (by rfl) rfl rfl ?_
   simp only [Act.put, pu]
   refine pw_value (by rfl) (.int .i64 ((N + j : Nat) : Int)) (fun w' => (y_lenS _ _ rfl (([0] : List UInt8) ++ List.replicate j 0) rfl Tryz.underlying9 w').trans (by rw [hl])) ?_
   simp only [Act.put, pu]
   refine pw_mv (by rfl) rfl rfl ?_
   simp only [Act.put, pu]
   refine pw_value (by rfl) (.int .i64 (0 : Nat)) (fun w' => (exec_rem_i _ _ _ _ rfl (N + j) z rfl rfl hz w').trans (by rw [hm])) ?_
   simp only [Act.put, pu]
   refine pw_value (by rfl) (.bool false) (exec_neq_k .i64 _ _ _ _ rfl (0 : Nat) 0 rfl rfl false rfl) ?_
   simp only [Act.put, pu]
   refine pw_nil ?_
   (repeat ((fail_if_success with_reducible refine rg ?_); go_step))
   refine wp_region_pw ?_
   refine pw_mv (by rfl) rfl rfl ?_
   simp only [Act.put, pu]
   refine pw_as (by rfl) rfl rfl ?_
   simp only [Act.put, pu]
   refine pw_nil ?_
   go_wp2
   go_ret
   exact ⟨rfl, sb⟩
  | succ g =>
   have hm := HS.out.2 j (by omega)
   obtain ⟨R, hR⟩ : ∃ R, (N + j) % z = R := ⟨_, rfl⟩
   rw [hR] at hm
   (repeat ((fail_if_success with_reducible refine rg ?_); go_step))
   refine wp_region_pw ?_
   refine pw_mv (by rfl) rfl rfl ?_
   simp only [Act.put, pu]
   refine pw_value (by rfl) (.int .i64 ((N + j : Nat) : Int)) (fun w' => (y_lenS _ _ rfl (([0] : List UInt8) ++ List.replicate j 0) rfl Tryz.underlying9 w').trans (by rw [hl])) ?_
   simp only [Act.put, pu]
   refine pw_mv (by rfl) rfl rfl ?_
   simp only [Act.put, pu]
   refine pw_value (by rfl) (.int .i64 (R : Nat)) (fun w' => (exec_rem_i _ _ _ _ rfl (N + j) z rfl rfl hz w').trans (by rw [hR])) ?_
   simp only [Act.put, pu]
   refine pw_value (by rfl) (.bool true) (exec_neq_k .i64 _ _ _ _ rfl (R : Nat) 0 rfl rfl true (by rw [decide_eq_false (by omega)]; rfl)) ?_
   simp only [Act.put, pu]
   refine pw_nil ?_
   (repeat ((fail_if_success with_reducible refine rg ?_); go_step))
   refine wp_region_pw ?_
   refine pw_mv (by rfl) rfl rfl ?_
   simp only [Act.put, pu]
   refine pw_value (by rfl) (.string ⟨(([0] : List UInt8) ++ List.replicate (j + 1) 0).toArray⟩) (fun w' => (y_cat _ _ _ _ rfl (([0] : List UInt8) ++ List.replicate j 0) [0] rfl rfl (by rw [hl]; simp; omega) w').trans (by rw [List.append_assoc, ← List.replicate_succ'])) ?_
   simp only [Act.put, pu]
   refine pw_as (by rfl) rfl rfl ?_
   simp only [Act.put, pu]
   refine pw_nil ?_
   go_wp2
   go_roundg g
   case measure => omega
   case rel => exact ⟨j + 1, by omega, rfl, sb⟩
set_option maxRecDepth 100000 in
set_option maxHeartbeats 2000000 in
theorem rb11_some (s C : List UInt8) (z N D : Nat) (w : World) (hz : 0 < z) (hNb : N ≤ 25) (hDb : D ≤ 100) (HS : Hid ((N + D) % z = 0 ∧ ∀ j, j < D → ¬ (N + j) % z = 0)) (hs : s.length ≤ 24) (hC : [UInt8.ofNat (s.length + 1)] ++ s = C) (hN : C.length = N) :
  Calls Tryz.prog 31 #[.string ⟨(s).toArray⟩, .bool true, .int .i64 z] w fun e w' => e = .returned (.string ⟨(C ++ List.replicate D 0).toArray⟩) ∧ Below w.heap.size w w' := by
 obtain ⟨ie, hie, hze, hsz⟩ := info_u8k
 have hs1 : ¬ 1 * ie.size > 2 ^ 24 := by rw [hsz]; decide
 have hs2 : ¬ 1 * ie.size = 0 := by rw [hsz]; decide
 go_enter Tryz.func31, Tryz.ntmps31
 have sb := sbmk w
 (repeat ((fail_if_success with_reducible refine rg ?_); go_step))
 refine wp_region_pw ?_
 refine pw_move (by rfl) (.inr rfl) rfl ?_
 simp only [Act.put, pu]
 refine pw_nil ?_
 (repeat ((fail_if_success with_reducible refine rg ?_); go_step))
 refine wp_region_pw ?_
 refine pw_move (by rfl) (.inr rfl) rfl ?_
 simp only [Act.put, pu]
 refine pw_nil ?_
 (repeat ((fail_if_success with_reducible refine rg ?_); go_step))
 refine wp_region_pw ?_
 refine pw_mv (by rfl) rfl rfl ?_
 simp only [Act.put, pu]
 refine pw_nil ?_
 (repeat ((fail_if_success with_reducible refine rg ?_); go_step))
 refine wp_region_pw ?_
 refine pw_mv (by rfl) rfl rfl ?_
 simp only [Act.put, pu]
 refine pw_value (by rfl) (.int .i64 s.length) (y_lenS _ _ rfl s rfl Tryz.underlying9) ?_
 simp only [Act.put, pu]
 refine pw_value (by rfl) (.int .i64 ((s.length + 1 : Nat) : Int)) (exec_add_in _ _ _ _ rfl s.length 1 rfl rfl (by omega)) ?_
 simp only [Act.put, pu]
 refine pw_value (by rfl) (.int .u8 ((s.length + 1 : Nat) : Int)) (y_conv _ _ _ rfl .i64 .u8 Tryz.underlying3 Tryz.underlying5 ((s.length + 1 : Nat) : Int) _ rfl (wr8k _ (by omega))) ?_
 simp only [Act.put, pu]
 refine pw_litr (by rfl) 64 5 1 _ rfl #[.int .u8 ((s.length + 1 : Nat) : Int)] ie _ Tryz.underlying64 hie hze hs1 hs2 [(0, .int .u8 ((s.length + 1 : Nat) : Int))] rfl (lit_b1 _ _ hsz) ?_
 intro gB z3004 n0 rB k
 simp only [Act.put, pu]
 have bB := Nat.le_trans sb.size n0
 clear n0
 replace sb := sb.trans (k.below w.heap.size sb.size (by simp <;> omega))
 clear k
 refine pw_run (by rfl) (.string ⟨([UInt8.ofNat (s.length + 1)]).toArray⟩) _ (y_str _ rfl gB 0 1 1 [UInt8.ofNat (s.length + 1)] rfl rfl _ rB.r (cell_b1 _ (by omega))) ?_
 simp only [Act.put, pu]
 refine pw_mv (by rfl) rfl rfl ?_
 simp only [Act.put, pu]
 refine pw_value (by rfl) (.string ⟨(C).toArray⟩) (fun w' => (y_cat _ _ _ _ rfl [UInt8.ofNat (s.length + 1)] s rfl rfl (by simp; omega) w').trans (by rw [hC])) ?_
 simp only [Act.put, pu]
 refine pw_as (by rfl) rfl rfl ?_
 simp only [Act.put, pu]
 refine pw_nil ?_
 clear rB
 go_wp2_with fail
 go_loopg [7] (D) (fun g s7 wr => ∃ j : Nat, j + g = D ∧ s7 = .string ⟨(C ++ List.replicate j 0).toArray⟩ ∧ Below w.heap.size w wr)
 case atStart => exact ⟨0, by omega, by rw [List.replicate_zero, List.append_nil] <;> rfl, sb⟩
 case round =>
  clear sb
  obtain ⟨j, hj, rfl, sb⟩ := hrel
  have hl : (C ++ List.replicate j 0).length = N + j := by rw [List.length_append, List.length_replicate, hN]
  cases gk with
  | zero =>
   obtain rfl : j = D := by omega
   have hm := HS.out.1
   (repeat ((fail_if_success with_reducible refine rg ?_); go_step))
   refine wp_region_pw ?_
   refine pw_mv (by rfl) rfl rfl ?_
   simp only [Act.put, pu]
   refine pw_value (by rfl) (.int .i64 ((N + j : Nat) : Int)) (fun w' => (y_lenS _ _ rfl (C ++ List.replicate j 0) rfl Tryz.underlying9 w').trans (by rw [hl])) ?_
   simp only [Act.put, pu]
   refine pw_mv (by rfl) rfl rfl ?_
   simp only [Act.put, pu]
   refine pw_value (by rfl) (.int .i64 (0 : Nat)) (fun w' => (exec_rem_i _ _ _ _ rfl (N + j) z rfl rfl hz w').trans (by rw [hm])) ?_
   simp only [Act.put, pu]
   refine pw_value (by rfl) (.bool false) (exec_neq_k .i64 _ _ _ _ rfl (0 : Nat) 0 rfl rfl false rfl) ?_
   simp only [Act.put, pu]
   refine pw_nil ?_
   (repeat ((fail_if_success with_reducible refine rg ?_); go_step))
   refine wp_region_pw ?_
   refine pw_mv (by rfl) rfl rfl ?_
   simp only [Act.put, pu]
   refine pw_as (by rfl) rfl rfl ?_
   simp only [Act.put, pu]
   refine pw_nil ?_
   go_wp2
   go_ret
   exact ⟨rfl, sb⟩
  | succ g =>
   have hm := HS.out.2 j (by omega)
   obtain ⟨R, hR⟩ : ∃ R, (N + j) % z = R := ⟨_, rfl⟩
   rw [hR] at hm
   (repeat ((fail_if_success with_reducible refine rg ?_); go_step))
   refine wp_region_pw ?_
   refine pw_mv (by rfl) rfl rfl ?_
   simp only [Act.put, pu]
   refine pw_value (by rfl) (.int .i64 ((N + j : Nat) : Int)) (fun w' => (y_lenS _ _ rfl (C ++ List.replicate j 0) rfl Tryz.underlying9 w').trans (by rw [hl])) ?_
   simp only [Act.put, pu]
   refine pw_mv (by rfl) rfl rfl ?_
   simp only [Act.put, pu]
   refine pw_value (by rfl) (.int .i64 (R : Nat)) (fun w' => (exec_rem_i _ _ _ _ rfl (N + j) z rfl rfl hz w').trans (by rw [hR])) ?_
   simp only [Act.put, pu]
   refine pw_value (by rfl) (.bool true) (exec_neq_k .i64 _ _ _ _ rfl (R : Nat) 0 rfl rfl true (by rw [decide_eq_false (by omega)]; rfl)) ?_
   simp only [Act.put, pu]
   refine pw_nil ?_
   (repeat ((fail_if_success with_reducible refine rg ?_); go_step))
   refine wp_region_pw ?_
   refine pw_mv (by rfl) rfl rfl ?_
   simp only [Act.put, pu]
   refine pw_value (by rfl) (.string ⟨(C ++ List.replicate (j + 1) 0).toArray⟩) (fun w' => (y_cat _ _ _ _ rfl (C ++ List.replicate j 0) [0] rfl rfl (by rw [hl]; simp; omega) w').trans (by rw [List.append_assoc, ← List.replicate_succ'])) ?_
   simp only [Act.put, pu]
   refine pw_as (by rfl) rfl rfl ?_
   simp only [Act.put, pu]
   refine pw_nil ?_
   go_wp2
   go_roundg g
   case measure => omega
   case rel => exact ⟨j + 1, by omega, rfl, sb⟩
theorem rb11_any (s : List UInt8) (b : Bool) (z : Nat) (w : World) (hz : 0 < z) (hz2 : z ≤ 32) (hs : b = true → s.length ≤ 24) :
  Calls Tryz.prog 31 #[.string ⟨(s).toArray⟩, .bool b, .int .i64 z] w fun e w' => e = .returned (.string ⟨(padz (ckL s b) z).toArray⟩) ∧ Below w.heap.size w w' := by
 have h3 := pN_lt (n := (ckL s b).length) hz
 have hl : (ckL s b).length ≤ 25 := by
  cases b with
  | false => exact (by decide : 1 ≤ 25)
  | true => exact ckL_len true (hs rfl)
 have HS : Hid (((ckL s b).length + (pN (ckL s b).length z * z - (ckL s b).length)) % z = 0 ∧ ∀ j, j < pN (ckL s b).length z * z - (ckL s b).length → ¬ ((ckL s b).length + j) % z = 0) := ⟨pad_stop hz, fun j hj => pad_go hz hj⟩
 cases b with
 | false => exact rb11_none s z _ (pN (ckL s false).length z * z - (ckL s false).length) w hz hl (by omega) HS rfl
 | true => exact rb11_some s (ckL s true) z _ (pN (ckL s true).length z * z - (ckL s true).length) w hz hl (by omega) HS (hs rfl) rfl rfl
theorem count_wrap {m z : Nat} (hz : 0 < z) (hb : m < 1000) : IntKind.i64.wrap (((m + z : Nat) : Int).tdiv (z : Int)) = ((pN (m + 1) z : Nat) : Int) := by
 have := parts_wrap (n := m + 1) hz (by omega)
 rw [show m + 1 + z - 1 = m + z by omega] at this
 exact this
set_option maxRecDepth 100000 in
set_option maxHeartbeats 2000000 in
theorem rCount_any (ab : Option Addr) (n c G z : Nat) (x : Int) (w : World) (hz : 0 < z) (hz2 : z ≤ 32) (h : SzR w (.agg (paC ab n c G)) z) :
  Calls Tryz.prog 13 #[.agg (paC ab n c G), .int .i64 x] w fun e w' => e = .returned (.int .i64 (ckN z x)) ∧ Below w.heap.size w w' := by
 go_enter Tryz.func13, Tryz.ntmps13
 (repeat ((fail_if_success with_reducible refine rg ?_); go_step))
 refine wp_region_pw ?_
 refine pw_boxr (by rfl) 28 _ rfl (_) rfl ?_
 intro g2 z0 n0 r2 k
 simp only [Act.put, pu]
 have b2 : w.heap.size ≤ g2 := n0
 clear n0
 have sb := k.below w.heap.size (Nat.le_refl _) (by simp)
 clear k
 refine pw_value (by rfl) (.int .i64 0) (fun _ => rfl) ?_
 simp only [Act.put, pu]
 refine pw_nil ?_
 by_cases h0 : x < 0
 ·(repeat ((fail_if_success with_reducible refine rg ?_); go_step))
  refine wp_region_pw ?_
  refine pw_mv (by rfl) rfl rfl ?_
  simp only [Act.put, pu]
  refine pw_value (by rfl) (.bool true) (exec_lt_b _ _ _ _ rfl x 0 rfl rfl true (decide_eq_true h0)) ?_
  simp only [Act.put, pu]
  refine pw_mv (by rfl) rfl rfl ?_
  simp only [Act.put, pu]
  refine pw_skip (by rfl) ?_
  simp only [Act.put, pu]
  refine pw_skip (by rfl) ?_
  simp only [Act.put, pu]
  refine pw_pick (by rfl) true (v := .bool true) rfl rfl rfl ?_
  simp only [Act.put, pu]
  refine pw_nil ?_
  (repeat ((fail_if_success with_reducible refine rg ?_); go_step))
  refine wp_region_pw ?_
  refine pw_value (by rfl) (.int .i64 0) (fun _ => rfl) ?_
  simp only [Act.put, pu]
  refine pw_nil ?_
  go_wp2
  go_ret
  exact ⟨by rw [show ckN z x = 0 from if_neg (by omega)]; rfl, sb⟩
 by_cases h1 : 24 < x
 ·(repeat ((fail_if_success with_reducible refine rg ?_); go_step))
  refine wp_region_pw ?_
  refine pw_mv (by rfl) rfl rfl ?_
  simp only [Act.put, pu]
  refine pw_value (by rfl) (.bool false) (exec_lt_b _ _ _ _ rfl x 0 rfl rfl false (decide_eq_false h0)) ?_
  simp only [Act.put, pu]
  refine pw_mv (by rfl) rfl rfl ?_
  simp only [Act.put, pu]
  refine pw_mv (by rfl) rfl rfl ?_
  simp only [Act.put, pu]
  refine pw_value (by rfl) (.bool true) (exec_gt_i _ _ _ _ rfl x 24 rfl rfl true (decide_eq_true h1)) ?_
  simp only [Act.put, pu]
  refine pw_pick (by rfl) false (v := .bool true) rfl rfl rfl ?_
  simp only [Act.put, pu]
  refine pw_nil ?_
  (repeat ((fail_if_success with_reducible refine rg ?_); go_step))
  refine wp_region_pw ?_
  refine pw_value (by rfl) (.int .i64 0) (fun _ => rfl) ?_
  simp only [Act.put, pu]
  refine pw_nil ?_
  go_wp2
  go_ret
  exact ⟨by rw [show ckN z x = 0 from if_neg (by omega)]; rfl, sb⟩
 obtain ⟨m, rfl⟩ : ∃ m : Nat, x = m := ⟨x.toNat, by omega⟩
 have hw := count_wrap (m := m) hz (by omega)
 have hc : ckN z (m : Int) = ((pN (m + 1) z : Nat) : Int) := by
  unfold ckN
  rw [if_pos (by omega), Int.toNat_natCast]
 generalize hX : pN (m + 1) z = X at *
 ·(repeat ((fail_if_success with_reducible refine rg ?_); go_step))
  refine wp_region_pw ?_
  refine pw_mv (by rfl) rfl rfl ?_
  simp only [Act.put, pu]
  refine pw_value (by rfl) (.bool false) (exec_lt_b _ _ _ _ rfl m 0 rfl rfl false (decide_eq_false h0)) ?_
  simp only [Act.put, pu]
  refine pw_mv (by rfl) rfl rfl ?_
  simp only [Act.put, pu]
  refine pw_mv (by rfl) rfl rfl ?_
  simp only [Act.put, pu]
  refine pw_value (by rfl) (.bool false) (exec_gt_i _ _ _ _ rfl m 24 rfl rfl false (decide_eq_false h1)) ?_
  simp only [Act.put, pu]
  refine pw_pick (by rfl) false (v := .bool false) rfl rfl rfl ?_
  simp only [Act.put, pu]
  refine pw_nil ?_
  (repeat ((fail_if_success with_reducible refine rg ?_); go_step))
  refine wp_region_qw (by kernel_rfl) (by kernel_rfl) ?_
  refine qw_move (by rfl) rfl rfl ?_
  simp only [Act.put, pu]
  refine qw_loadm (by rfl) 28 _ rfl _ (0) rfl r2 (paC ab n c G) (part_all _) _ Tryz.underlying28 rfl size_pa ?_
  simp only [Act.put, pu]
  refine qw_callK (by rfl) 30 _ _ rfl Tryz.func30 (by kernel_rfl) #[.agg (paC ab n c G)] rfl _ (fun w' hb => h w' (below_on sb (Nat.le_refl _) hb)) ?_
  simp only [Act.put, pu]
  refine qw_value (by rfl) (.int .i64 ((m + z : Nat) : Int)) ((exec_add_in _ _ _ _ rfl m z rfl rfl (by omega))) ?_
  simp only [Act.put, pu]
  refine qw_loadm (by rfl) 28 _ rfl _ (0) rfl r2 (paC ab n c G) (part_all _) _ Tryz.underlying28 rfl size_pa ?_
  simp only [Act.put, pu]
  refine qw_callK (by rfl) 30 _ _ rfl Tryz.func30 (by kernel_rfl) #[.agg (paC ab n c G)] rfl _ (fun w' hb => h w' (below_on sb (Nat.le_refl _) hb)) ?_
  simp only [Act.put, pu]
  refine qw_value (by rfl) (.int .i64 (X : Nat)) ((y_quoI _ _ _ _ rfl ((m + z : Nat) : Int) z _ rfl rfl (by omega) hw)) ?_
  simp only [Act.put, pu]
  refine qw_asg (by rfl) rfl rfl ?_
  simp only [Act.put, pu]
  refine qw_nil ?_
  intro w6 hqb
  replace sb := below_on sb (Nat.le_refl _) hqb
  clear hqb
  go_wp2
  go_ret
  exact ⟨by first | rfl | (rw [hc]; rfl), sb⟩
set_option maxRecDepth 100000 in
set_option maxHeartbeats 2000000 in
theorem rput_big (ab : Option Addr) (n c G : Nat) (s : List UInt8) (w : World) (hs : 24 < s.length) :
  Calls Tryz.prog 10 #[.agg (paC ab n c G), .string ⟨(s).toArray⟩, .bool true] w fun e w' => e = .returned (.tuple #[.slice none 0 0, .int .i64 6]) ∧ Below w.heap.size w w' := by
 go_enter Tryz.func10, Tryz.ntmps10
 (repeat ((fail_if_success with_reducible refine rg ?_); go_step))
 refine wp_region_pw ?_
 refine pw_boxr (by rfl) 28 _ rfl (_) rfl ?_
 intro g3 z0 n0 r3 k
 simp only [Act.put, pu]
 have b3 : w.heap.size ≤ g3 := n0
 clear n0
 have sb := k.below w.heap.size (Nat.le_refl _) (by simp)
 clear k
 refine pw_value (by rfl) (.slice none 0 0) ((fun _ => rfl)) ?_
 simp only [Act.put, pu]
 refine pw_value (by rfl) (.int .i64 0) (fun _ => rfl) ?_
 simp only [Act.put, pu]
 refine pw_nil ?_
 (repeat ((fail_if_success with_reducible refine rg ?_); go_step))
 refine wp_region_pw ?_
 refine pw_mv (by rfl) rfl rfl ?_
 simp only [Act.put, pu]
 refine pw_mv (by rfl) rfl rfl ?_
 simp only [Act.put, pu]
 refine pw_mv (by rfl) rfl rfl ?_
 simp only [Act.put, pu]
 refine pw_value (by rfl) (.int .i64 s.length) (y_lenS _ _ rfl s rfl Tryz.underlying9) ?_
 simp only [Act.put, pu]
 refine pw_value (by rfl) (.bool true) (exec_gt_i _ _ _ _ rfl s.length 24 rfl rfl true (decide_eq_true (by omega))) ?_
 simp only [Act.put, pu]
 refine pw_pick (by rfl) true (v := .bool true) rfl rfl rfl ?_
 simp only [Act.put, pu]
 refine pw_nil ?_
 (repeat ((fail_if_success with_reducible refine rg ?_); go_step))
 refine wp_region_pw ?_
 refine pw_value (by rfl) (.slice none 0 0) ((fun _ => rfl)) ?_
 simp only [Act.put, pu]
 refine pw_value (by rfl) (.int .i64 6) (fun _ => rfl) ?_
 simp only [Act.put, pu]
 refine pw_nil ?_
 go_wp2
 go_ret2
 exact ⟨rfl, sb⟩
set_option maxRecDepth 100000 in
set_option maxHeartbeats 2000000 in
theorem rput_some (ab : Option Addr) (n c G z m M : Nat) (s S : List UInt8) (F' : Nat → Nat) (w : World) (hz : 0 < z) (hz2 : z ≤ 32) (hs : s.length ≤ 24) (hM : m * z = M) (hMb : M ≤ 1000) (hm : m ≤ 100) (hS : S.length = M) (h : SzR w (.agg (paC ab n c G)) z)
  (hby : ∀ w', Calls Tryz.prog 31 #[.string ⟨(s).toArray⟩, .bool true, .int .i64 z] w' fun e w2 => e = .returned (.string ⟨(S).toArray⟩) ∧ Below w'.heap.size w' w2) (HF : Hid (∀ i, i < m → F' i = natB ((S.drop (i * z)).take z))) :
  Calls Tryz.prog 10 #[.agg (paC ab n c G), .string ⟨(s).toArray⟩, .bool true] w fun e w' => ∃ vl, e = .returned (.tuple #[vl, .int .i64 0]) ∧ OwnN w' w.heap.size vl m F' ∧ Below w.heap.size w w' := by
 obtain ⟨ie, hie, hze, hsz, _⟩ := info_nat'
 have hs1 : ¬ 1 * ie.size > 2 ^ 24 := by rw [hsz]; decide
 have hs2 : ¬ 1 * ie.size = 0 := by rw [hsz]; decide
 have hl1 := fun A => lit_one A ie.size hsz
 have HM : Hid (∀ i, i < m → i * z + z ≤ M) := fun i hi => by
  have := Nat.mul_le_mul_right z (show i + 1 ≤ m from hi)
  rw [Nat.add_mul, Nat.one_mul, hM] at this
  exact this
 go_enter Tryz.func10, Tryz.ntmps10
 (repeat ((fail_if_success with_reducible refine rg ?_); go_step))
 refine wp_region_pw ?_
 refine pw_boxr (by rfl) 28 _ rfl (_) rfl ?_
 intro g3 z0 n0 r3 k
 simp only [Act.put, pu]
 have b3 : w.heap.size ≤ g3 := n0
 clear n0
 have sb := k.below w.heap.size (Nat.le_refl _) (by simp)
 clear k
 refine pw_value (by rfl) (.slice none 0 0) ((fun _ => rfl)) ?_
 simp only [Act.put, pu]
 refine pw_value (by rfl) (.int .i64 0) (fun _ => rfl) ?_
 simp only [Act.put, pu]
 refine pw_nil ?_
 (repeat ((fail_if_success with_reducible refine rg ?_); go_step))
 refine wp_region_pw ?_
 refine pw_mv (by rfl) rfl rfl ?_
 simp only [Act.put, pu]
 refine pw_mv (by rfl) rfl rfl ?_
 simp only [Act.put, pu]
 refine pw_mv (by rfl) rfl rfl ?_
 simp only [Act.put, pu]
 refine pw_value (by rfl) (.int .i64 s.length) (y_lenS _ _ rfl s rfl Tryz.underlying9) ?_
 simp only [Act.put, pu]
 refine pw_value (by rfl) (.bool false) (exec_gt_i _ _ _ _ rfl s.length 24 rfl rfl false (decide_eq_false (by omega))) ?_
 simp only [Act.put, pu]
 refine pw_pick (by rfl) true (v := .bool false) rfl rfl rfl ?_
 simp only [Act.put, pu]
 refine pw_nil ?_
 (repeat ((fail_if_success with_reducible refine rg ?_); go_step))
 refine wp_region_pw ?_
 refine pw_loadm (by rfl) 28 _ rfl _ 0 rfl r3.r _ (part_all _) _ Tryz.underlying28 rfl size_pa ?_
 simp only [Act.put, pu]
 refine pw_callB (by rfl) 30 _ _ rfl Tryz.func30 (by kernel_rfl) #[.agg (paC ab n c G)] rfl _ (h _ sb) ?_
 intro z3001 k
 simp only [Act.put, pu]
 replace r3 := k.row r3 (by simp <;> omega)
 replace sb := sb.trans (k.below w.heap.size sb.size (by simp <;> omega))
 clear k
 refine pw_as (by rfl) rfl rfl ?_
 simp only [Act.put, pu]
 refine pw_nil ?_
 clear r3
 (repeat ((fail_if_success with_reducible refine rg ?_); go_step))
 refine wp_region_pw ?_
 refine pw_mv (by rfl) rfl rfl ?_
 simp only [Act.put, pu]
 refine pw_mv (by rfl) rfl rfl ?_
 simp only [Act.put, pu]
 refine pw_mv (by rfl) rfl rfl ?_
 simp only [Act.put, pu]
 refine pw_callB (by rfl) 31 _ _ rfl Tryz.func31 (by kernel_rfl) #[.string ⟨(s).toArray⟩, .bool true, .int .i64 (z : Nat)] rfl _ (hby _) ?_
 intro z4003 k
 simp only [Act.put, pu]
 replace sb := sb.trans (k.below w.heap.size sb.size (by simp <;> omega))
 clear k
 refine pw_as (by rfl) rfl rfl ?_
 simp only [Act.put, pu]
 refine pw_nil ?_
 clear hby h
 (repeat ((fail_if_success with_reducible refine rg ?_); go_step))
 refine wp_region_pw ?_
 refine pw_value (by rfl) (.slice none 0 0) ((fun _ => rfl)) ?_
 simp only [Act.put, pu]
 refine pw_nil ?_
 (repeat ((fail_if_success with_reducible refine rg ?_); go_step))
 refine wp_region_pw ?_
 refine pw_value (by rfl) (.int .i64 0) (fun _ => rfl) ?_
 simp only [Act.put, pu]
 refine pw_nil ?_
 go_wp2_with fail
 go_loopg [10, 11, 12, 13, 14, 15] m (fun g s10 s11 s12 s13 s14 s15 wr => ∃ i : Nat, i + g = m ∧ s11 = .int .i64 ((i * z : Nat) : Int) ∧ OwnN wr w.heap.size s10 i F' ∧ Below w.heap.size w wr)
 case atStart => exact ⟨0, by omega, by rw [Nat.zero_mul]; rfl, ownN_nil _ _ _, sb⟩
 case round =>
  clear sb
  obtain ⟨i, hi, rfl, hL, sb⟩ := hrel
  cases gk with
  | zero =>
   obtain rfl : i = m := by omega
   rw [hM]
   clear hi HM HF
   (repeat ((fail_if_success with_reducible refine rg ?_); go_step))
   refine wp_region_pw ?_
   refine pw_mv (by rfl) rfl rfl ?_
   simp only [Act.put, pu]
   refine pw_mv (by rfl) rfl rfl ?_
   simp only [Act.put, pu]
   refine pw_value (by rfl) (.int .i64 M) (fun w' => (y_lenS _ _ rfl S rfl Tryz.underlying9 w').trans (by rw [hS])) ?_
   simp only [Act.put, pu]
   refine pw_value (by rfl) (.bool false) (exec_lt_b _ _ _ _ rfl M M rfl rfl false (decide_eq_false (Int.lt_irrefl _))) ?_
   simp only [Act.put, pu]
   refine pw_nil ?_
   (repeat ((fail_if_success with_reducible refine rg ?_); go_step))
   refine wp_region_pw ?_
   refine pw_mv (by rfl) rfl rfl ?_
   simp only [Act.put, pu]
   refine pw_as (by rfl) rfl rfl ?_
   simp only [Act.put, pu]
   refine pw_value (by rfl) (.int .i64 0) (fun _ => rfl) ?_
   simp only [Act.put, pu]
   refine pw_nil ?_
   go_wp2
   go_ret2
   exact ⟨_, rfl, hL, sb⟩
  | succ g =>
   have him : i < m := by omega
   have hA0 := HM.out i him
   have hFi := HF.out i him
   have hadd : (i + 1) * z = i * z + z := by rw [Nat.add_mul, Nat.one_mul]
   obtain ⟨A, hA⟩ : ∃ A, i * z = A := ⟨_, rfl⟩
   rw [hA] at hA0 hFi hadd
   rw [hA]
   have hPl : ((S.drop A).take z).length = z := by rw [List.length_take, List.length_drop]; omega
   have HY : Hid (∀ j, j < z → yb ((S.drop A).take z) j = yb S (A + j)) := fun j hj => by
    unfold yb
    rw [List.getD_eq_getElem?_getD, List.getD_eq_getElem?_getD, List.getElem?_take, if_pos hj, List.getElem?_drop]
   have HFi : Hid (F' i = natB ((S.drop A).take z)) := hFi
   clear hFi hA
   generalize (S.drop A).take z = p0 at *
   (repeat ((fail_if_success with_reducible refine rg ?_); go_step))
   refine wp_region_pw ?_
   refine pw_mv (by rfl) rfl rfl ?_
   simp only [Act.put, pu]
   refine pw_mv (by rfl) rfl rfl ?_
   simp only [Act.put, pu]
   refine pw_value (by rfl) (.int .i64 M) (fun w' => (y_lenS _ _ rfl S rfl Tryz.underlying9 w').trans (by rw [hS])) ?_
   simp only [Act.put, pu]
   refine pw_value (by rfl) (.bool true) (exec_lt_b _ _ _ _ rfl A M rfl rfl true (decide_eq_true (by omega))) ?_
   simp only [Act.put, pu]
   refine pw_nil ?_
   (repeat ((fail_if_success with_reducible refine rg ?_); go_step))
   refine wp_region_pw ?_
   refine pw_value (by rfl) (.agg (natC 0)) (exec_build0 _ rfl _ built_nat) ?_
   simp only [Act.put, pu]
   refine pw_new (by rfl) 26 rfl _ zero_nat ?_
   intro g12 z9001 n0 r12 k
   simp only [Act.put, pu]
   have ehLx12 := hL.new n0
   have b12 := Nat.le_trans sb.size n0
   clear n0
   replace hL := hL.on k (own_ne0 _)
   replace sb := sb.trans (k.below w.heap.size sb.size (by simp <;> omega))
   clear k
   refine pw_put (by rfl) 26 _ _ rfl _ rfl r12 (natC 0) rfl (by exact size_nat) (by simp only [natC_size]) (natC_one _) ?_
   clear r12
   intro z9002 r12 k
   simp only [Act.put]
   replace hL := hL.on k (own_ne1 ehLx12)
   replace sb := sb.trans (k.below w.heap.size sb.size (by simp <;> omega))
   clear k
   refine pw_nil ?_
   (repeat ((fail_if_success with_reducible refine rg ?_); go_step))
   refine wp_region_pw ?_
   refine pw_value (by rfl) (.int .i64 0) (fun _ => rfl) ?_
   simp only [Act.put, pu]
   refine pw_nil ?_
   go_wp2_with fail
   go_loopg [13, 14, 15] z (fun g2 s13 s14 s15 wr2 => ∃ j : Nat, j + g2 = z ∧ s13 = .int .i64 j ∧ Row wr2 g12 (natC (natB (p0.take j))) 26 ∧ OwnN wr2 w.heap.size u10 i F' ∧ Below w.heap.size w wr2)
   case atStart => exact ⟨0, by omega, rfl, r12, hL, sb⟩
   case round =>
    clear r12 hL sb
    obtain ⟨j, hj, rfl, r12, hL, sb⟩ := hrel
    cases gk with
    | zero =>
     obtain rfl : j = z := by omega
     rw [List.take_of_length_le (by omega), ← HFi.out] at r12
     have hl1' := hl1 (F' i)
     (repeat ((fail_if_success with_reducible refine rg ?_); go_step))
     refine wp_region_pw ?_
     refine pw_mv (by rfl) rfl rfl ?_
     simp only [Act.put, pu]
     refine pw_mv (by rfl) rfl rfl ?_
     simp only [Act.put, pu]
     refine pw_value (by rfl) (.bool false) (exec_lt_b _ _ _ _ rfl j j rfl rfl false (decide_eq_false (Int.lt_irrefl _))) ?_
     simp only [Act.put, pu]
     refine pw_nil ?_
     (repeat ((fail_if_success with_reducible refine rg ?_); go_step))
     refine wp_region_pw ?_
     refine pw_mv (by rfl) rfl rfl ?_
     simp only [Act.put, pu]
     refine pw_loadm (by rfl) 26 _ rfl _ 0 rfl r12.r _ (part_all _) _ Tryz.underlying26 rfl size_nat ?_
     simp only [Act.put, pu]
     refine pw_litr (by rfl) 34 26 1 _ rfl (natC (F' i)) ie _ Tryz.underlying34 hie hze hs1 hs2 [(0, .agg (natC (F' i)))] rfl hl1' ?_
     intro gX z15002 n0 rX k
     simp only [Act.put, pu]
     have d12xX := Nat.lt_of_lt_of_le r12.lt n0
     have ehLxX := hL.new n0
     have bX := Nat.le_trans sb.size n0
     clear n0
     replace r12 := k.row r12 (by simp <;> omega)
     replace hL := hL.on k (own_ne0 _)
     replace sb := sb.trans (k.below w.heap.size sb.size (by simp <;> omega))
     clear k
     refine pw_appN (by rfl) _ _ rfl (w.heap.size) (_) (i) (F') rfl hL gX _ rfl rX (by omega) sb.size ?_
     have h0 := hL
     clear hL
     intro v1 z15003 hL k hp
     simp only [Act.put, pu]
     have cr12 := r12.lt
     replace r12 := k.row r12 (by first | exact own_nin ehLx12 | exact own_nin (h0.low (by omega)))
     (try replace ehLx12 := own_apart hp cr12 ehLx12)
     clear cr12
     clear hp
     replace sb := sb.trans (k.below w.heap.size sb.size h0.base)
     clear h0
     clear k
     refine pw_as (by rfl) rfl rfl ?_
     simp only [Act.put, pu]
     refine pw_nil ?_
     (repeat ((fail_if_success with_reducible refine rg ?_); go_step))
     refine wp_region_pw ?_
     refine pw_mv (by rfl) rfl rfl ?_
     simp only [Act.put, pu]
     refine pw_mv (by rfl) rfl rfl ?_
     simp only [Act.put, pu]
     refine pw_value (by rfl) (.int .i64 (((i + 1) * j : Nat) : Int)) (fun w' => (exec_add_in _ _ _ _ rfl A j rfl rfl (by omega) w').trans (by rw [hadd])) ?_
     simp only [Act.put, pu]
     refine pw_as (by rfl) rfl rfl ?_
     simp only [Act.put, pu]
     refine pw_nil ?_
     go_wp2
     go_roundg g
     case measure => omega
     case rel => exact ⟨i + 1, by omega, rfl, hL, sb⟩
    | succ g2 =>
     have hjz : j < z := by omega
     have hsn := take_snoc p0 j (by omega)
     rw [HY.out j hjz] at hsn
     have hc := yb_lt S (A + j)
     have hyi : Hid (yb S (A + j) = yb S (A + j)) := rfl
     generalize hC : yb S (A + j) = C at *
     have hup := fun w' => rup8 (natB (p0.take j)) w'
     have hin := fun w' => rint_nat C hc w'
     have had := fun w' => radd_any (natB (p0.take j) * 256) C w'
     rw [← hsn] at had
     generalize natB (p0.take j) = NJ at *
     generalize hNX : natB (p0.take (j + 1)) = NX at *
     have HNX : Hid (natB (p0.take (j + 1)) = NX) := hNX
     clear hNX
     clear hsn hyi
     (repeat ((fail_if_success with_reducible refine rg ?_); go_step))
     refine wp_region_pw ?_
     refine pw_mv (by rfl) rfl rfl ?_
     simp only [Act.put, pu]
     refine pw_mv (by rfl) rfl rfl ?_
     simp only [Act.put, pu]
     refine pw_value (by rfl) (.bool true) (exec_lt_b _ _ _ _ rfl j z rfl rfl true (decide_eq_true (by omega))) ?_
     simp only [Act.put, pu]
     refine pw_nil ?_
     (repeat ((fail_if_success with_reducible refine rg ?_); go_step))
     apply wp_region_mix (by kernel_rfl) [] [_, _, _, _, _, _, _, _, _, _, _, _, _, _, _, _] trivial List.nodup_nil
     ·intro p
      refine mx_load 26 _ rfl _ rfl r12 (by simp <;> omega) 4 _ Tryz.underlying26 size_nat ?_
      simp only [Act.put, pu]
      refine mx_call 33 _ _ rfl Tryz.func33 (by kernel_rfl) #[.agg (natC NJ), .int .i64 8] rfl _ hup ?_
      simp only [Act.put, pu]
      refine mx_move rfl rfl ?_
      simp only [Act.put, pu]
      refine mx_move rfl rfl ?_
      simp only [Act.put, pu]
      refine mx_move rfl rfl ?_
      simp only [Act.put, pu]
      refine mx_val (.int .i64 ((A + j : Nat) : Int)) ((exec_add_in _ _ _ _ rfl A j rfl rfl (by omega))) ?_
      simp only [Act.put, pu]
      refine mx_val (.int .u8 (C : Nat)) ((fun w' => (y_index _ _ _ rfl Tryz.underlying9 S rfl .i64 (A + j) rfl (by omega) w').trans (by rw [hC]))) ?_
      simp only [Act.put, pu]
      refine mx_val (.int .i64 (C : Nat)) ((y_conv _ _ _ rfl .u8 .i64 Tryz.underlying5 Tryz.underlying3 (C : Nat) _ rfl (by rw [IntKind.wrap_i64]; omega))) ?_
      simp only [Act.put, pu]
      refine mx_call 19 _ _ rfl Tryz.func19 (by kernel_rfl) #[.int .i64 (C : Nat)] rfl _ hin ?_
      simp only [Act.put, pu]
      refine mx_call 32 _ _ rfl Tryz.func32 (by kernel_rfl) #[.agg (natC (NJ * 256)), .agg (natC C)] rfl _ had ?_
      simp only [Act.put, pu]
      refine mx_move rfl rfl ?_
      simp only [Act.put, pu]
      refine mx_ext rfl rfl rfl ?_
      simp only [Act.put, pu]
      refine mx_ext rfl rfl rfl ?_
      simp only [Act.put, pu]
      refine mx_new 26 rfl _ zero_nat ?_
      simp only [Act.put, pu]
      refine mx_put 27 26 _ _ rfl rfl rfl (natC NX) rfl (by exact size_nat) (by simp only [natC_size]) (natC_one _) ?_
      simp only [Act.put]
      refine mx_asg rfl rfl ?_
      simp only [Act.put, pu]
      refine mx_end ?_
      intro w5 hkw hrw hnew hdis
      have n14 := hnew 13 rfl
      have zr14 : Row w5 (p 13) (natC NX) 26 := hrw 27 (26, natC NX) rfl
      have ehLx14 := hL.new n14
      have d12x14 := Nat.lt_of_lt_of_le r12.lt n14
      replace r12 := hkw.row r12 (by simp <;> omega)
      replace hL := hL.on hkw (own_ne0 _)
      have b14 := Nat.le_trans sb.size n14
      replace sb := sb.trans (hkw.below w.heap.size sb.size (by simp <;> omega))
      clear hkw hrw hnew hdis n14
      generalize p 13 = g14 at *
      have r14 := zr14
      clear zr14
      (repeat ((fail_if_success with_reducible refine rg ?_); go_step))
      refine wp_region_pw ?_
      refine pw_loadm (by rfl) 26 _ rfl _ 0 rfl r14.r _ (part_all _) _ Tryz.underlying26 rfl size_nat ?_
      simp only [Act.put, pu]
      refine pw_put (by rfl) 26 _ _ rfl _ rfl r12 (natC NX) rfl (by exact size_nat) (by simp only [natC_size]) (natC_one _) ?_
      clear r12
      intro z14001 r12 k
      simp only [Act.put]
      replace r14 := k.row r14 (by simp <;> omega)
      replace hL := hL.on k (own_ne1 ehLx12)
      replace sb := sb.trans (k.below w.heap.size sb.size (by simp <;> omega))
      clear k
      refine pw_nil ?_
      (repeat ((fail_if_success with_reducible refine rg ?_); go_step))
      refine wp_region_pw ?_
      refine pw_mv (by rfl) rfl rfl ?_
      simp only [Act.put, pu]
      refine pw_value (by rfl) (.int .i64 ((j + 1 : Nat) : Int)) (exec_add_in _ _ _ _ rfl j 1 rfl rfl (by omega)) ?_
      simp only [Act.put, pu]
      refine pw_as (by rfl) rfl rfl ?_
      simp only [Act.put, pu]
      refine pw_nil ?_
      go_wp2
      go_roundg g2
      case measure => omega
      case rel => exact ⟨j + 1, by omega, rfl, by rw [HNX.out]; exact r12, hL, sb⟩
     ·kernel_rfl
set_option maxRecDepth 100000 in
set_option maxHeartbeats 2000000 in
theorem rput_none (ab : Option Addr) (n c G z m M : Nat) (s S : List UInt8) (F' : Nat → Nat) (w : World) (hz : 0 < z) (hz2 : z ≤ 32) (hM : m * z = M) (hMb : M ≤ 1000) (hm : m ≤ 100) (hS : S.length = M) (h : SzR w (.agg (paC ab n c G)) z)
  (hby : ∀ w', Calls Tryz.prog 31 #[.string ⟨(s).toArray⟩, .bool false, .int .i64 z] w' fun e w2 => e = .returned (.string ⟨(S).toArray⟩) ∧ Below w'.heap.size w' w2) (HF : Hid (∀ i, i < m → F' i = natB ((S.drop (i * z)).take z))) :
  Calls Tryz.prog 10 #[.agg (paC ab n c G), .string ⟨(s).toArray⟩, .bool false] w fun e w' => ∃ vl, e = .returned (.tuple #[vl, .int .i64 0]) ∧ OwnN w' w.heap.size vl m F' ∧ Below w.heap.size w w' := by
 obtain ⟨ie, hie, hze, hsz, _⟩ := info_nat'
 have hs1 : ¬ 1 * ie.size > 2 ^ 24 := by rw [hsz]; decide
 have hs2 : ¬ 1 * ie.size = 0 := by rw [hsz]; decide
 have hl1 := fun A => lit_one A ie.size hsz
 have HM : Hid (∀ i, i < m → i * z + z ≤ M) := fun i hi => by
  have := Nat.mul_le_mul_right z (show i + 1 ≤ m from hi)
  rw [Nat.add_mul, Nat.one_mul, hM] at this
  exact this
 go_enter Tryz.func10, Tryz.ntmps10
 (repeat ((fail_if_success with_reducible refine rg ?_); go_step))
 refine wp_region_pw ?_
 refine pw_boxr (by rfl) 28 _ rfl (_) rfl ?_
 intro g3 z0 n0 r3 k
 simp only [Act.put, pu]
 have b3 : w.heap.size ≤ g3 := n0
 clear n0
 have sb := k.below w.heap.size (Nat.le_refl _) (by simp)
 clear k
 refine pw_value (by rfl) (.slice none 0 0) ((fun _ => rfl)) ?_
 simp only [Act.put, pu]
 refine pw_value (by rfl) (.int .i64 0) (fun _ => rfl) ?_
 simp only [Act.put, pu]
 refine pw_nil ?_
 (repeat ((fail_if_success with_reducible refine rg ?_); go_step))
 refine wp_region_pw ?_
 refine pw_mv (by rfl) rfl rfl ?_
 simp only [Act.put, pu]
 refine pw_mv (by rfl) rfl rfl ?_
 simp only [Act.put, pu]
 refine pw_skip (by rfl) ?_
 simp only [Act.put, pu]
 refine pw_skip (by rfl) ?_
 simp only [Act.put, pu]
 refine pw_skip (by rfl) ?_
 simp only [Act.put, pu]
 refine pw_pick (by rfl) false (v := .bool false) rfl rfl rfl ?_
 simp only [Act.put, pu]
 refine pw_nil ?_
 (repeat ((fail_if_success with_reducible refine rg ?_); go_step))
 refine wp_region_pw ?_
 refine pw_loadm (by rfl) 28 _ rfl _ 0 rfl r3.r _ (part_all _) _ Tryz.underlying28 rfl size_pa ?_
 simp only [Act.put, pu]
 refine pw_callB (by rfl) 30 _ _ rfl Tryz.func30 (by kernel_rfl) #[.agg (paC ab n c G)] rfl _ (h _ sb) ?_
 intro z3001 k
 simp only [Act.put, pu]
 replace r3 := k.row r3 (by simp <;> omega)
 replace sb := sb.trans (k.below w.heap.size sb.size (by simp <;> omega))
 clear k
 refine pw_as (by rfl) rfl rfl ?_
 simp only [Act.put, pu]
 refine pw_nil ?_
 clear r3
 (repeat ((fail_if_success with_reducible refine rg ?_); go_step))
 refine wp_region_pw ?_
 refine pw_mv (by rfl) rfl rfl ?_
 simp only [Act.put, pu]
 refine pw_mv (by rfl) rfl rfl ?_
 simp only [Act.put, pu]
 refine pw_mv (by rfl) rfl rfl ?_
 simp only [Act.put, pu]
 refine pw_callB (by rfl) 31 _ _ rfl Tryz.func31 (by kernel_rfl) #[.string ⟨(s).toArray⟩, .bool false, .int .i64 (z : Nat)] rfl _ (hby _) ?_
 intro z4003 k
 simp only [Act.put, pu]
 replace sb := sb.trans (k.below w.heap.size sb.size (by simp <;> omega))
 clear k
 refine pw_as (by rfl) rfl rfl ?_
 simp only [Act.put, pu]
 refine pw_nil ?_
 clear hby h
 (repeat ((fail_if_success with_reducible refine rg ?_); go_step))
 refine wp_region_pw ?_
 refine pw_value (by rfl) (.slice none 0 0) ((fun _ => rfl)) ?_
 simp only [Act.put, pu]
 refine pw_nil ?_
 (repeat ((fail_if_success with_reducible refine rg ?_); go_step))
 refine wp_region_pw ?_
 refine pw_value (by rfl) (.int .i64 0) (fun _ => rfl) ?_
 simp only [Act.put, pu]
 refine pw_nil ?_
 go_wp2_with fail
 go_loopg [10, 11, 12, 13, 14, 15] m (fun g s10 s11 s12 s13 s14 s15 wr => ∃ i : Nat, i + g = m ∧ s11 = .int .i64 ((i * z : Nat) : Int) ∧ OwnN wr w.heap.size s10 i F' ∧ Below w.heap.size w wr)
 case atStart => exact ⟨0, by omega, by rw [Nat.zero_mul]; rfl, ownN_nil _ _ _, sb⟩
 case round =>
  clear sb
  obtain ⟨i, hi, rfl, hL, sb⟩ := hrel
  cases gk with
  | zero =>
   obtain rfl : i = m := by omega
   rw [hM]
   clear hi HM HF
   (repeat ((fail_if_success with_reducible refine rg ?_); go_step))
   refine wp_region_pw ?_
   refine pw_mv (by rfl) rfl rfl ?_
   simp only [Act.put, pu]
   refine pw_mv (by rfl) rfl rfl ?_
   simp only [Act.put, pu]
   refine pw_value (by rfl) (.int .i64 M) (fun w' => (y_lenS _ _ rfl S rfl Tryz.underlying9 w').trans (by rw [hS])) ?_
   simp only [Act.put, pu]
   refine pw_value (by rfl) (.bool false) (exec_lt_b _ _ _ _ rfl M M rfl rfl false (decide_eq_false (Int.lt_irrefl _))) ?_
   simp only [Act.put, pu]
   refine pw_nil ?_
   (repeat ((fail_if_success with_reducible refine rg ?_); go_step))
   refine wp_region_pw ?_
   refine pw_mv (by rfl) rfl rfl ?_
   simp only [Act.put, pu]
   refine pw_as (by rfl) rfl rfl ?_
   simp only [Act.put, pu]
   refine pw_value (by rfl) (.int .i64 0) (fun _ => rfl) ?_
   simp only [Act.put, pu]
   refine pw_nil ?_
   go_wp2
   go_ret2
   exact ⟨_, rfl, hL, sb⟩
  | succ g =>
   have him : i < m := by omega
   have hA0 := HM.out i him
   have hFi := HF.out i him
   have hadd : (i + 1) * z = i * z + z := by rw [Nat.add_mul, Nat.one_mul]
   obtain ⟨A, hA⟩ : ∃ A, i * z = A := ⟨_, rfl⟩
   rw [hA] at hA0 hFi hadd
   rw [hA]
   have hPl : ((S.drop A).take z).length = z := by rw [List.length_take, List.length_drop]; omega
   have HY : Hid (∀ j, j < z → yb ((S.drop A).take z) j = yb S (A + j)) := fun j hj => by
    unfold yb
    rw [List.getD_eq_getElem?_getD, List.getD_eq_getElem?_getD, List.getElem?_take, if_pos hj, List.getElem?_drop]
   have HFi : Hid (F' i = natB ((S.drop A).take z)) := hFi
   clear hFi hA
   generalize (S.drop A).take z = p0 at *
   (repeat ((fail_if_success with_reducible refine rg ?_); go_step))
   refine wp_region_pw ?_
   refine pw_mv (by rfl) rfl rfl ?_
   simp only [Act.put, pu]
   refine pw_mv (by rfl) rfl rfl ?_
   simp only [Act.put, pu]
   refine pw_value (by rfl) (.int .i64 M) (fun w' => (y_lenS _ _ rfl S rfl Tryz.underlying9 w').trans (by rw [hS])) ?_
   simp only [Act.put, pu]
   refine pw_value (by rfl) (.bool true) (exec_lt_b _ _ _ _ rfl A M rfl rfl true (decide_eq_true (by omega))) ?_
   simp only [Act.put, pu]
   refine pw_nil ?_
   (repeat ((fail_if_success with_reducible refine rg ?_); go_step))
   refine wp_region_pw ?_
   refine pw_value (by rfl) (.agg (natC 0)) (exec_build0 _ rfl _ built_nat) ?_
   simp only [Act.put, pu]
   refine pw_new (by rfl) 26 rfl _ zero_nat ?_
   intro g12 z9001 n0 r12 k
   simp only [Act.put, pu]
   have ehLx12 := hL.new n0
   have b12 := Nat.le_trans sb.size n0
   clear n0
   replace hL := hL.on k (own_ne0 _)
   replace sb := sb.trans (k.below w.heap.size sb.size (by simp <;> omega))
   clear k
   refine pw_put (by rfl) 26 _ _ rfl _ rfl r12 (natC 0) rfl (by exact size_nat) (by simp only [natC_size]) (natC_one _) ?_
   clear r12
   intro z9002 r12 k
   simp only [Act.put]
   replace hL := hL.on k (own_ne1 ehLx12)
   replace sb := sb.trans (k.below w.heap.size sb.size (by simp <;> omega))
   clear k
   refine pw_nil ?_
   (repeat ((fail_if_success with_reducible refine rg ?_); go_step))
   refine wp_region_pw ?_
   refine pw_value (by rfl) (.int .i64 0) (fun _ => rfl) ?_
   simp only [Act.put, pu]
   refine pw_nil ?_
   go_wp2_with fail
   go_loopg [13, 14, 15] z (fun g2 s13 s14 s15 wr2 => ∃ j : Nat, j + g2 = z ∧ s13 = .int .i64 j ∧ Row wr2 g12 (natC (natB (p0.take j))) 26 ∧ OwnN wr2 w.heap.size u10 i F' ∧ Below w.heap.size w wr2)
   case atStart => exact ⟨0, by omega, rfl, r12, hL, sb⟩
   case round =>
    clear r12 hL sb
    obtain ⟨j, hj, rfl, r12, hL, sb⟩ := hrel
    cases gk with
    | zero =>
     obtain rfl : j = z := by omega
     rw [List.take_of_length_le (by omega), ← HFi.out] at r12
     have hl1' := hl1 (F' i)
     (repeat ((fail_if_success with_reducible refine rg ?_); go_step))
     refine wp_region_pw ?_
     refine pw_mv (by rfl) rfl rfl ?_
     simp only [Act.put, pu]
     refine pw_mv (by rfl) rfl rfl ?_
     simp only [Act.put, pu]
     refine pw_value (by rfl) (.bool false) (exec_lt_b _ _ _ _ rfl j j rfl rfl false (decide_eq_false (Int.lt_irrefl _))) ?_
     simp only [Act.put, pu]
     refine pw_nil ?_
     (repeat ((fail_if_success with_reducible refine rg ?_); go_step))
     refine wp_region_pw ?_
     refine pw_mv (by rfl) rfl rfl ?_
     simp only [Act.put, pu]
     refine pw_loadm (by rfl) 26 _ rfl _ 0 rfl r12.r _ (part_all _) _ Tryz.underlying26 rfl size_nat ?_
     simp only [Act.put, pu]
     refine pw_litr (by rfl) 34 26 1 _ rfl (natC (F' i)) ie _ Tryz.underlying34 hie hze hs1 hs2 [(0, .agg (natC (F' i)))] rfl hl1' ?_
     intro gX z15002 n0 rX k
     simp only [Act.put, pu]
     have d12xX := Nat.lt_of_lt_of_le r12.lt n0
     have ehLxX := hL.new n0
     have bX := Nat.le_trans sb.size n0
     clear n0
     replace r12 := k.row r12 (by simp <;> omega)
     replace hL := hL.on k (own_ne0 _)
     replace sb := sb.trans (k.below w.heap.size sb.size (by simp <;> omega))
     clear k
     refine pw_appN (by rfl) _ _ rfl (w.heap.size) (_) (i) (F') rfl hL gX _ rfl rX (by omega) sb.size ?_
     have h0 := hL
     clear hL
     intro v1 z15003 hL k hp
     simp only [Act.put, pu]
     have cr12 := r12.lt
     replace r12 := k.row r12 (by first | exact own_nin ehLx12 | exact own_nin (h0.low (by omega)))
     (try replace ehLx12 := own_apart hp cr12 ehLx12)
     clear cr12
     clear hp
     replace sb := sb.trans (k.below w.heap.size sb.size h0.base)
     clear h0
     clear k
     refine pw_as (by rfl) rfl rfl ?_
     simp only [Act.put, pu]
     refine pw_nil ?_
     (repeat ((fail_if_success with_reducible refine rg ?_); go_step))
     refine wp_region_pw ?_
     refine pw_mv (by rfl) rfl rfl ?_
     simp only [Act.put, pu]
     refine pw_mv (by rfl) rfl rfl ?_
     simp only [Act.put, pu]
     refine pw_value (by rfl) (.int .i64 (((i + 1) * j : Nat) : Int)) (fun w' => (exec_add_in _ _ _ _ rfl A j rfl rfl (by omega) w').trans (by rw [hadd])) ?_
     simp only [Act.put, pu]
     refine pw_as (by rfl) rfl rfl ?_
     simp only [Act.put, pu]
     refine pw_nil ?_
     go_wp2
     go_roundg g
     case measure => omega
     case rel => exact ⟨i + 1, by omega, rfl, hL, sb⟩
    | succ g2 =>
     have hjz : j < z := by omega
     have hsn := take_snoc p0 j (by omega)
     rw [HY.out j hjz] at hsn
     have hc := yb_lt S (A + j)
     have hyi : Hid (yb S (A + j) = yb S (A + j)) := rfl
     generalize hC : yb S (A + j) = C at *
     have hup := fun w' => rup8 (natB (p0.take j)) w'
     have hin := fun w' => rint_nat C hc w'
     have had := fun w' => radd_any (natB (p0.take j) * 256) C w'
     rw [← hsn] at had
     generalize natB (p0.take j) = NJ at *
     generalize hNX : natB (p0.take (j + 1)) = NX at *
     have HNX : Hid (natB (p0.take (j + 1)) = NX) := hNX
     clear hNX
     clear hsn hyi
     (repeat ((fail_if_success with_reducible refine rg ?_); go_step))
     refine wp_region_pw ?_
     refine pw_mv (by rfl) rfl rfl ?_
     simp only [Act.put, pu]
     refine pw_mv (by rfl) rfl rfl ?_
     simp only [Act.put, pu]
     refine pw_value (by rfl) (.bool true) (exec_lt_b _ _ _ _ rfl j z rfl rfl true (decide_eq_true (by omega))) ?_
     simp only [Act.put, pu]
     refine pw_nil ?_
     (repeat ((fail_if_success with_reducible refine rg ?_); go_step))
     apply wp_region_mix (by kernel_rfl) [] [_, _, _, _, _, _, _, _, _, _, _, _, _, _, _, _] trivial List.nodup_nil
     ·intro p
      refine mx_load 26 _ rfl _ rfl r12 (by simp <;> omega) 4 _ Tryz.underlying26 size_nat ?_
      simp only [Act.put, pu]
      refine mx_call 33 _ _ rfl Tryz.func33 (by kernel_rfl) #[.agg (natC NJ), .int .i64 8] rfl _ hup ?_
      simp only [Act.put, pu]
      refine mx_move rfl rfl ?_
      simp only [Act.put, pu]
      refine mx_move rfl rfl ?_
      simp only [Act.put, pu]
      refine mx_move rfl rfl ?_
      simp only [Act.put, pu]
      refine mx_val (.int .i64 ((A + j : Nat) : Int)) ((exec_add_in _ _ _ _ rfl A j rfl rfl (by omega))) ?_
      simp only [Act.put, pu]
      refine mx_val (.int .u8 (C : Nat)) ((fun w' => (y_index _ _ _ rfl Tryz.underlying9 S rfl .i64 (A + j) rfl (by omega) w').trans (by rw [hC]))) ?_
      simp only [Act.put, pu]
      refine mx_val (.int .i64 (C : Nat)) ((y_conv _ _ _ rfl .u8 .i64 Tryz.underlying5 Tryz.underlying3 (C : Nat) _ rfl (by rw [IntKind.wrap_i64]; omega))) ?_
      simp only [Act.put, pu]
      refine mx_call 19 _ _ rfl Tryz.func19 (by kernel_rfl) #[.int .i64 (C : Nat)] rfl _ hin ?_
      simp only [Act.put, pu]
      refine mx_call 32 _ _ rfl Tryz.func32 (by kernel_rfl) #[.agg (natC (NJ * 256)), .agg (natC C)] rfl _ had ?_
      simp only [Act.put, pu]
      refine mx_move rfl rfl ?_
      simp only [Act.put, pu]
      refine mx_ext rfl rfl rfl ?_
      simp only [Act.put, pu]
      refine mx_ext rfl rfl rfl ?_
      simp only [Act.put, pu]
      refine mx_new 26 rfl _ zero_nat ?_
      simp only [Act.put, pu]
      refine mx_put 27 26 _ _ rfl rfl rfl (natC NX) rfl (by exact size_nat) (by simp only [natC_size]) (natC_one _) ?_
      simp only [Act.put]
      refine mx_asg rfl rfl ?_
      simp only [Act.put, pu]
      refine mx_end ?_
      intro w5 hkw hrw hnew hdis
      have n14 := hnew 13 rfl
      have zr14 : Row w5 (p 13) (natC NX) 26 := hrw 27 (26, natC NX) rfl
      have ehLx14 := hL.new n14
      have d12x14 := Nat.lt_of_lt_of_le r12.lt n14
      replace r12 := hkw.row r12 (by simp <;> omega)
      replace hL := hL.on hkw (own_ne0 _)
      have b14 := Nat.le_trans sb.size n14
      replace sb := sb.trans (hkw.below w.heap.size sb.size (by simp <;> omega))
      clear hkw hrw hnew hdis n14
      generalize p 13 = g14 at *
      have r14 := zr14
      clear zr14
      (repeat ((fail_if_success with_reducible refine rg ?_); go_step))
      refine wp_region_pw ?_
      refine pw_loadm (by rfl) 26 _ rfl _ 0 rfl r14.r _ (part_all _) _ Tryz.underlying26 rfl size_nat ?_
      simp only [Act.put, pu]
      refine pw_put (by rfl) 26 _ _ rfl _ rfl r12 (natC NX) rfl (by exact size_nat) (by simp only [natC_size]) (natC_one _) ?_
      clear r12
      intro z14001 r12 k
      simp only [Act.put]
      replace r14 := k.row r14 (by simp <;> omega)
      replace hL := hL.on k (own_ne1 ehLx12)
      replace sb := sb.trans (k.below w.heap.size sb.size (by simp <;> omega))
      clear k
      refine pw_nil ?_
      (repeat ((fail_if_success with_reducible refine rg ?_); go_step))
      refine wp_region_pw ?_
      refine pw_mv (by rfl) rfl rfl ?_
      simp only [Act.put, pu]
      refine pw_value (by rfl) (.int .i64 ((j + 1 : Nat) : Int)) (exec_add_in _ _ _ _ rfl j 1 rfl rfl (by omega)) ?_
      simp only [Act.put, pu]
      refine pw_as (by rfl) rfl rfl ?_
      simp only [Act.put, pu]
      refine pw_nil ?_
      go_wp2
      go_roundg g2
      case measure => omega
      case rel => exact ⟨j + 1, by omega, rfl, by rw [HNX.out]; exact r12, hL, sb⟩
     ·kernel_rfl
theorem rput_any (ab : Option Addr) (n c G z : Nat) (s : List UInt8) (b : Bool) (w : World) (hz : 0 < z) (hz2 : z ≤ 32) (hs : b = true → s.length ≤ 24) (h : SzR w (.agg (paC ab n c G)) z) :
  Calls Tryz.prog 10 #[.agg (paC ab n c G), .string ⟨(s).toArray⟩, .bool b] w fun e w' => ∃ vl, e = .returned (.tuple #[vl, .int .i64 0]) ∧ OwnN w' w.heap.size vl (pN (ckL s b).length z) (ckF (ckL s b) z) ∧ Below w.heap.size w w' := by
 have hby := fun w' => rb11_any s b z w' hz hz2 hs
 have h3 := pN_lt (n := (ckL s b).length) hz
 have h2 := pN_le (n := (ckL s b).length) hz
 have hl : (ckL s b).length ≤ 25 := by
  cases b with
  | false => exact (by decide : 1 ≤ 25)
  | true => exact ckL_len true (hs rfl)
 cases b with
 | false => exact rput_none ab n c G z _ _ s _ _ w hz hz2 rfl (by omega) (by omega) (padz_length hz) h hby (fun i _ => rfl)
 | true => exact rput_some ab n c G z _ _ s _ _ w hz hz2 (hs rfl) rfl (by omega) (by omega) (padz_length hz) h hby (fun i _ => rfl)
end Go.Proofs.YtdemabfpcepnfaaGreatDoor
