/- The document's bytes, Count, Put of layer 11. -/
import Derived.Test.YtdemabfpcepnfaaGreatDoorCA
import Derived.Test.YtdemabfpcepnfaaGreatDoorBT
namespace Go.Proofs.YtdemabfpcepnfaaGreatDoor
open Go.RowKit
set_option linter.unusedVariables false
theorem pad_stop {L z : Nat} (hz : 0 < z) : (L + (pN L z * z - L)) % z = 0 := by
 have := pN_ge (n := L) hz
 rw [show L + (pN L z * z - L) = pN L z * z by omega, Nat.mul_mod_left]
theorem pad_go {L z j : Nat} (hz : 0 < z) (hj : j < pN L z * z - L) : ¬ (L + j) % z = 0 := by
 intro h0
 have h1 := Nat.div_add_mod (L + j) z
 rw [h0, Nat.add_zero, Nat.mul_comm] at h1
 have h2 := pN_lt (n := L) hz
 have h3 : (L + j) / z * z < pN L z * z := by omega
 have h4 : (L + j) / z < pN L z := Nat.lt_of_mul_lt_mul_right h3
 have h5 : ((L + j) / z + 1) * z ≤ pN L z * z := Nat.mul_le_mul_right _ h4
 rw [Nat.add_mul, Nat.one_mul] at h5
 omega
theorem take_snoc (l : List UInt8) (j : Nat) (h : j < l.length) : natB (l.take (j + 1)) = natB (l.take j) * 256 + yb l j := by
 rw [List.take_succ_eq_append_getElem h, natB_snoc]
 unfold yb
 rw [List.getD_eq_getElem?_getD, List.getElem?_eq_getElem h]
 rfl
theorem prt_yb (s : List UInt8) (z k j : Nat) (hj : j < z) : yb (prt s z k) j = yb (padz s z) (k * z + j) := by
 unfold yb prt
 rw [List.getD_eq_getElem?_getD, List.getD_eq_getElem?_getD, List.getElem?_take, if_pos hj, List.getElem?_drop]
/-- What the document's Size answers. -/
def SzR (w : World) (p : Value) (z : Int) : Prop := ∀ w', Below w.heap.size w w' → Calls Tryz.prog 30 #[p] w' fun e w2 => e = .returned (.int .i64 z) ∧ Below w'.heap.size w' w2
theorem SzR.below {w w' : World} {p : Value} {z : Int} (h : SzR w p z) (hb : Below w.heap.size w w') : SzR w' p z := fun w2 h2 => h w2 (below_on hb (Nat.le_refl _) h2)
set_option maxRecDepth 100000 in
set_option maxHeartbeats 2000000 in
theorem rb11_none (s : List UInt8) (z N D : Nat) (w : World) (hz : 0 < z) (hNb : N ≤ 25) (hDb : D ≤ 100) (HS : Hid ((N + D) % z = 0 ∧ ∀ j, j < D → ¬ (N + j) % z = 0)) (hN : [(0 : UInt8)].length = N) :
  Calls Tryz.prog 31 #[.string ⟨(s).toArray⟩, .bool false, .int .i64 z] w fun e w' => e = .returned (.string ⟨(([0] : List UInt8) ++ List.replicate D 0).toArray⟩) ∧ Below w.heap.size w w' := by
 go_enter Tryz.func31, Tryz.ntmps31
 have sb := sbmk w
 (repeat ((fail_if_success with_reducible refine rg ?_); go_step))
 refine wp_region_pw ?_
 refine pw_move (by rfl) (.inr rfl) rfl ?_
 simp only [Act.put, pu]
 refine pw_nil ?_
 (repeat ((fail_if_success with_reducible refine rg ?_); go_step))
 refine wp_region_pw ?_
 refine pw_move (by rfl) (.inr rfl) rfl ?_
 simp only [Act.put, pu]
 refine pw_nil ?_
 (repeat ((fail_if_success with_reducible refine rg ?_); go_step))
 refine wp_region_pw ?_
 refine pw_mv (by rfl) rfl rfl ?_
 simp only [Act.put, pu]
 refine pw_nil ?_
 go_wp2_with fail
 go_loopg [7] (D) (fun g s7 wr => ∃ j : Nat, j + g = D ∧ s7 = .string ⟨(([0] : List UInt8) ++ List.replicate j 0).toArray⟩ ∧ Below w.heap.size w wr)
 case atStart => exact ⟨0, by omega, by rw [List.replicate_zero, List.append_nil] <;> rfl, sb⟩
 case round =>
  clear sb
  obtain ⟨j, hj, rfl, sb⟩ := hrel
  have hl : (([0] : List UInt8) ++ List.replicate j 0).length = N + j := by rw [List.length_append, List.length_replicate, hN]
  cases gk with
  | zero =>
   obtain rfl : j = D := by omega
   have hm := HS.out.1
   (repeat ((fail_if_success with_reducible refine rg ?_); go_step))
   refine wp_region_pw ?_
   refine pw_mv (by rfl) rfl rfl ?_
   simp only [Act.put, pu]
   refine pw_value (by rfl) (.int .i64 ((N + j : Nat) : Int)) (fun w' => (y_lenS _ _ rfl (([0] : List UInt8) ++ List.replicate j 0) rfl Tryz.underlying9 w').trans (by rw [hl])) ?_
   simp only [Act.put, pu]
   refine pw_mv (by rfl) rfl rfl ?_
   simp only [Act.put, pu]
   refine pw_value (by rfl) (.int .i64 (0 : Nat)) (fun w' => (exec_rem_i _ _ _ _ rfl (N + j) z rfl rfl hz w').trans (by rw [hm])) ?_
   simp only [Act.put, pu]
   refine pw_value (by rfl) (.bool false) (exec_neq_k .i64 _ _ _ _ rfl (0 : Nat) 0 rfl rfl false rfl) ?_
   simp only [Act.put, pu]
   refine pw_nil ?_
   (repeat ((fail_if_success with_reducible refine rg ?_); go_step))
   refine wp_region_pw ?_
   refine pw_mv (by rfl) rfl rfl ?_
   simp only [Act.put, pu]
   refine pw_as (by rfl) rfl rfl ?_
   simp only [Act.put, pu]
   refine pw_nil ?_
   go_wp2
   go_ret
   exact ⟨rfl, sb⟩
  | succ g =>
   have hm := HS.out.2 j (by omega)
   obtain ⟨R, hR⟩ : ∃ R, (N + j) % z = R := ⟨_, rfl⟩
   rw [hR] at hm
   (repeat ((fail_if_success with_reducible refine rg ?_); go_step))
   refine wp_region_pw ?_
   refine pw_mv (by rfl) rfl rfl ?_
   simp only [Act.put, pu]
   refine pw_value (by rfl) (.int .i64 ((N + j : Nat) : Int)) (fun w' => (y_lenS _ _ rfl (([0] : List UInt8) ++ List.replicate j 0) rfl Tryz.underlying9 w').trans (by rw [hl])) ?_
   simp only [Act.put, pu]
   refine pw_mv (by rfl) rfl rfl ?_
   simp only [Act.put, pu]
   refine pw_value (by rfl) (.int .i64 (R : Nat)) (fun w' => (exec_rem_i _ _ _ _ rfl (N + j) z rfl rfl hz w').trans (by rw [hR])) ?_
   simp only [Act.put, pu]
   refine pw_value (by rfl) (.bool true) (exec_neq_k .i64 _ _ _ _ rfl (R : Nat) 0 rfl rfl true (by rw [decide_eq_false (by omega)]; rfl)) ?_
   simp only [Act.put, pu]
   refine pw_nil ?_
   (repeat ((fail_if_success with_reducible refine rg ?_); go_step))
   refine wp_region_pw ?_
   refine pw_mv (by rfl) rfl rfl ?_
   simp only [Act.put, pu]
   refine pw_value (by rfl) (.string ⟨(([0] : List UInt8) ++ List.replicate (j + 1) 0).toArray⟩) (fun w' => (y_cat _ _ _ _ rfl (([0] : List UInt8) ++ List.replicate j 0) [0] rfl rfl (by rw [hl]; simp; omega) w').trans (by rw [List.append_assoc, ← List.replicate_succ'])) ?_
   simp only [Act.put, pu]
   refine pw_as (by rfl) rfl rfl ?_
   simp only [Act.put, pu]
   refine pw_nil ?_
   go_wp2
   go_roundg g
   case measure => omega
   case rel => exact ⟨j + 1, by omega, rfl, sb⟩
set_option maxRecDepth 100000 in
set_option maxHeartbeats 2000000 in
theorem rb11_some (s C : List UInt8) (z N D : Nat) (w : World) (hz : 0 < z) (hNb : N ≤ 25) (hDb : D ≤ 100) (HS : Hid ((N + D) % z = 0 ∧ ∀ j, j < D → ¬ (N + j) % z = 0)) (hs : s.length ≤ 24) (hC : [UInt8.ofNat (s.length + 1)] ++ s = C) (hN : C.length = N) :
  Calls Tryz.prog 31 #[.string ⟨(s).toArray⟩, .bool true, .int .i64 z] w fun e w' => e = .returned (.string ⟨(C ++ List.replicate D 0).toArray⟩) ∧ Below w.heap.size w w' := by
 obtain ⟨ie, hie, hze, hsz⟩ := info_u8k
 have hs1 : ¬ 1 * ie.size > 2 ^ 24 := by rw [hsz]; decide
 have hs2 : ¬ 1 * ie.size = 0 := by rw [hsz]; decide
 go_enter Tryz.func31, Tryz.ntmps31
 have sb := sbmk w
 (repeat ((fail_if_success with_reducible refine rg ?_); go_step))
 refine wp_region_pw ?_
 refine pw_move (by rfl) (.inr rfl) rfl ?_
 simp only [Act.put, pu]
 refine pw_nil ?_
 (repeat ((fail_if_success with_reducible refine rg ?_); go_step))
 refine wp_region_pw ?_
 refine pw_move (by rfl) (.inr rfl) rfl ?_
 simp only [Act.put, pu]
 refine pw_nil ?_
 (repeat ((fail_if_success with_reducible refine rg ?_); go_step))
 refine wp_region_pw ?_
 refine pw_mv (by rfl) rfl rfl ?_
 simp only [Act.put, pu]
 refine pw_nil ?_
 (repeat ((fail_if_success with_reducible refine rg ?_); go_step))
 refine wp_region_pw ?_
 refine pw_mv (by rfl) rfl rfl ?_
 simp only [Act.put, pu]
 refine pw_value (by rfl) (.int .i64 s.length) (y_lenS _ _ rfl s rfl Tryz.underlying9) ?_
 simp only [Act.put, pu]
 refine pw_value (by rfl) (.int .i64 ((s.length + 1 : Nat) : Int)) (exec_add_in _ _ _ _ rfl s.length 1 rfl rfl (by omega)) ?_
 simp only [Act.put, pu]
 refine pw_value (by rfl) (.int .u8 ((s.length + 1 : Nat) : Int)) (y_conv _ _ _ rfl .i64 .u8 Tryz.underlying3 Tryz.underlying5 ((s.length + 1 : Nat) : Int) _ rfl (wr8k _ (by omega))) ?_
 simp only [Act.put, pu]
 refine pw_litr (by rfl) 64 5 1 _ rfl #[.int .u8 ((s.length + 1 : Nat) : Int)] ie _ Tryz.underlying64 hie hze hs1 hs2 [(0, .int .u8 ((s.length + 1 : Nat) : Int))] rfl (lit_b1 _ _ hsz) ?_
 intro gB z3004 n0 rB k
 simp only [Act.put, pu]
 have bB := Nat.le_trans sb.size n0
 clear n0
 replace sb := sb.trans (k.below w.heap.size sb.size (by simp <;> omega))
 clear k
 refine pw_run (by rfl) (.string ⟨([UInt8.ofNat (s.length + 1)]).toArray⟩) _ (y_str _ rfl gB 0 1 1 [UInt8.ofNat (s.length + 1)] rfl rfl _ rB.r (cell_b1 _ (by omega))) ?_
 simp only [Act.put, pu]
 refine pw_mv (by rfl) rfl rfl ?_
 simp only [Act.put, pu]
 refine pw_value (by rfl) (.string ⟨(C).toArray⟩) (fun w' => (y_cat _ _ _ _ rfl [UInt8.ofNat (s.length + 1)] s rfl rfl (by simp; omega) w').trans (by rw [hC])) ?_
 simp only [Act.put, pu]
 refine pw_as (by rfl) rfl rfl ?_
 simp only [Act.put, pu]
 refine pw_nil ?_
 clear rB
 go_wp2_with fail
 go_loopg [7] (D) (fun g s7 wr => ∃ j : Nat, j + g = D ∧ s7 = .string ⟨(C ++ List.replicate j 0).toArray⟩ ∧ Below w.heap.size w wr)
 case atStart => exact ⟨0, by omega, by rw [List.replicate_zero, List.append_nil] <;> rfl, sb⟩
 case round =>
  clear sb
  obtain ⟨j, hj, rfl, sb⟩ := hrel
  have hl : (C ++ List.replicate j 0).length = N + j := by rw [List.length_append, List.length_replicate, hN]
  cases gk with
  | zero =>
   obtain rfl : j = D := by omega
   have hm := HS.out.1
   (repeat ((fail_if_success with_reducible refine rg ?_); go_step))
   refine wp_region_pw ?_
   refine pw_mv (by rfl) rfl rfl ?_
   simp only [Act.put, pu]
   refine pw_value (by rfl) (.int .i64 ((N + j : Nat) : Int)) (fun w' => (y_lenS _ _ rfl (C ++ List.replicate j 0) rfl Tryz.underlying9 w').trans (by rw [hl])) ?_
   simp only [Act.put, pu]
   refine pw_mv (by rfl) rfl rfl ?_
   simp only [Act.put, pu]
   refine pw_value (by rfl) (.int .i64 (0 : Nat)) (fun w' => (exec_rem_i _ _ _ _ rfl (N + j) z rfl rfl hz w').trans (by rw [hm])) ?_
   simp only [Act.put, pu]
   refine pw_value (by rfl) (.bool false) (exec_neq_k .i64 _ _ _ _ rfl (0 : Nat) 0 rfl rfl false rfl) ?_
   simp only [Act.put, pu]
   refine pw_nil ?_
   (repeat ((fail_if_success with_reducible refine rg ?_); go_step))
   refine wp_region_pw ?_
   refine pw_mv (by rfl) rfl rfl ?_
   simp only [Act.put, pu]
   refine pw_as (by rfl) rfl rfl ?_
   simp only [Act.put, pu]
   refine pw_nil ?_
   go_wp2
   go_ret
   exact ⟨rfl, sb⟩
  | succ g =>
   have hm := HS.out.2 j (by omega)
   obtain ⟨R, hR⟩ : ∃ R, (N + j) % z = R := ⟨_, rfl⟩
   rw [hR] at hm
   (repeat ((fail_if_success with_reducible refine rg ?_); go_step))
   refine wp_region_pw ?_
   refine pw_mv (by rfl) rfl rfl ?_
   simp only [Act.put, pu]
   refine pw_value (by rfl) (.int .i64 ((N + j : Nat) : Int)) (fun w' => (y_lenS _ _ rfl (C ++ List.replicate j 0) rfl Tryz.underlying9 w').trans (by rw [hl])) ?_
   simp only [Act.put, pu]
   refine pw_mv (by rfl) rfl rfl ?_
   simp only [Act.put, pu]
   refine pw_value (by rfl) (.int .i64 (R : Nat)) (fun w' => (exec_rem_i _ _ _ _ rfl (N + j) z rfl rfl hz w').trans (by rw [hR])) ?_
   simp only [Act.put, pu]
   refine pw_value (by rfl) (.bool true) (exec_neq_k .i64 _ _ _ _ rfl (R : Nat) 0 rfl rfl true (by rw [decide_eq_false (by omega)]; rfl)) ?_
   simp only [Act.put, pu]
   refine pw_nil ?_
   (repeat ((fail_if_success with_reducible refine rg ?_); go_step))
   refine wp_region_pw ?_
   refine pw_mv (by rfl) rfl rfl ?_
   simp only [Act.put, pu]
   refine pw_value (by rfl) (.string ⟨(C ++ List.replicate (j + 1) 0).toArray⟩) (fun w' => (y_cat _ _ _ _ rfl (C ++ List.replicate j 0) [0] rfl rfl (by rw [hl]; simp; omega) w').trans (by rw [List.append_assoc, ← List.replicate_succ'])) ?_
   simp only [Act.put, pu]
   refine pw_as (by rfl) rfl rfl ?_
   simp only [Act.put, pu]
   refine pw_nil ?_
   go_wp2
   go_roundg g
   case measure => omega
   case rel => exact ⟨j + 1, by omega, rfl, sb⟩
theorem rb11_any (s : List UInt8) (b : Bool) (z : Nat) (w : World) (hz : 0 < z) (hz2 : z ≤ 32) (hs : b = true → s.length ≤ 24) :
  Calls Tryz.prog 31 #[.string ⟨(s).toArray⟩, .bool b, .int .i64 z] w fun e w' => e = .returned (.string ⟨(padz (ckL s b) z).toArray⟩) ∧ Below w.heap.size w w' := by
 have h3 := pN_lt (n := (ckL s b).length) hz
 have hl : (ckL s b).length ≤ 25 := by
  cases b with
  | false => exact (by decide : 1 ≤ 25)
  | true => exact ckL_len true (hs rfl)
 have HS : Hid (((ckL s b).length + (pN (ckL s b).length z * z - (ckL s b).length)) % z = 0 ∧ ∀ j, j < pN (ckL s b).length z * z - (ckL s b).length → ¬ ((ckL s b).length + j) % z = 0) := ⟨pad_stop hz, fun j hj => pad_go hz hj⟩
 cases b with
 | false => exact rb11_none s z _ (pN (ckL s false).length z * z - (ckL s false).length) w hz hl (by omega) HS rfl
 | true => exact rb11_some s (ckL s true) z _ (pN (ckL s true).length z * z - (ckL s true).length) w hz hl (by omega) HS (hs rfl) rfl rfl
theorem count_wrap {m z : Nat} (hz : 0 < z) (hb : m < 1000) : IntKind.i64.wrap (((m + z : Nat) : Int).tdiv (z : Int)) = ((pN (m + 1) z : Nat) : Int) := by
 have := parts_wrap (n := m + 1) hz (by omega)
 rw [show m + 1 + z - 1 = m + z by omega] at this
 exact this
set_option maxRecDepth 100000 in
set_option maxHeartbeats 2000000 in
theorem rCount_any (ab : Option Addr) (n c G z : Nat) (x : Int) (w : World) (hz : 0 < z) (hz2 : z ≤ 32) (h : SzR w (.agg (paC ab n c G)) z) :
  Calls Tryz.prog 13 #[.agg (paC ab n c G), .int .i64 x] w fun e w' => e = .returned (.int .i64 (ckN z x)) ∧ Below w.heap.size w w' := by
 go_enter Tryz.func13, Tryz.ntmps13
 (repeat ((fail_if_success with_reducible refine rg ?_); go_step))
 refine wp_region_pw ?_
 refine pw_boxr (by rfl) 28 _ rfl (_) rfl ?_
 intro g2 z0 n0 r2 k
 simp only [Act.put, pu]
 have b2 : w.heap.size ≤ g2 := n0
 clear n0
 have sb := k.below w.heap.size (Nat.le_refl _) (by simp)
 clear k
 refine pw_value (by rfl) (.int .i64 0) (fun _ => rfl) ?_
 simp only [Act.put, pu]
 refine pw_nil ?_
 by_cases h0 : x < 0
 ·(repeat ((fail_if_success with_reducible refine rg ?_); go_step))
  refine wp_region_pw ?_
  refine pw_mv (by rfl) rfl rfl ?_
  simp only [Act.put, pu]
  refine pw_value (by rfl) (.bool true) (exec_lt_b _ _ _ _ rfl x 0 rfl rfl true (decide_eq_true h0)) ?_
  simp only [Act.put, pu]
  refine pw_mv (by rfl) rfl rfl ?_
  simp only [Act.put, pu]
  refine pw_skip (by rfl) ?_
  simp only [Act.put, pu]
  refine pw_skip (by rfl) ?_
  simp only [Act.put, pu]
  refine pw_pick (by rfl) true (v := .bool true) rfl rfl rfl ?_
  simp only [Act.put, pu]
  refine pw_nil ?_
  (repeat ((fail_if_success with_reducible refine rg ?_); go_step))
  refine wp_region_pw ?_
  refine pw_value (by rfl) (.int .i64 0) (fun _ => rfl) ?_
  simp only [Act.put, pu]
  refine pw_nil ?_
  go_wp2
  go_ret
  exact ⟨by rw [show ckN z x = 0 from if_neg (by omega)]; rfl, sb⟩
 by_cases h1 : 24 < x
 ·(repeat ((fail_if_success with_reducible refine rg ?_); go_step))
  refine wp_region_pw ?_
  refine pw_mv (by rfl) rfl rfl ?_
  simp only [Act.put, pu]
  refine pw_value (by rfl) (.bool false) (exec_lt_b _ _ _ _ rfl x 0 rfl rfl false (decide_eq_false h0)) ?_
  simp only [Act.put, pu]
  refine pw_mv (by rfl) rfl rfl ?_
  simp only [Act.put, pu]
  refine pw_mv (by rfl) rfl rfl ?_
  simp only [Act.put, pu]
  refine pw_value (by rfl) (.bool true) (exec_gt_i _ _ _ _ rfl x 24 rfl rfl true (decide_eq_true h1)) ?_
  simp only [Act.put, pu]
  refine pw_pick (by rfl) false (v := .bool true) rfl rfl rfl ?_
  simp only [Act.put, pu]
  refine pw_nil ?_
  (repeat ((fail_if_success with_reducible refine rg ?_); go_step))
  refine wp_region_pw ?_
  refine pw_value (by rfl) (.int .i64 0) (fun _ => rfl) ?_
  simp only [Act.put, pu]
  refine pw_nil ?_
  go_wp2
  go_ret
  exact ⟨by rw [show ckN z x = 0 from if_neg (by omega)]; rfl, sb⟩
 obtain ⟨m, rfl⟩ : ∃ m : Nat, x = m := ⟨x.toNat, by omega⟩
 have hw := count_wrap (m := m) hz (by omega)
 have hc : ckN z (m : Int) = ((pN (m + 1) z : Nat) : Int) := by
  unfold ckN
  rw [if_pos (by omega), Int.toNat_natCast]
 generalize hX : pN (m + 1) z = X at *
 ·(repeat ((fail_if_success with_reducible refine rg ?_); go_step))
  refine wp_region_pw ?_
  refine pw_mv (by rfl) rfl rfl ?_
  simp only [Act.put, pu]
  refine pw_value (by rfl) (.bool false) (exec_lt_b _ _ _ _ rfl m 0 rfl rfl false (decide_eq_false h0)) ?_
  simp only [Act.put, pu]
  refine pw_mv (by rfl) rfl rfl ?_
  simp only [Act.put, pu]
  refine pw_mv (by rfl) rfl rfl ?_
  simp only [Act.put, pu]
  refine pw_value (by rfl) (.bool false) (exec_gt_i _ _ _ _ rfl m 24 rfl rfl false (decide_eq_false h1)) ?_
  simp only [Act.put, pu]
  refine pw_pick (by rfl) false (v := .bool false) rfl rfl rfl ?_
  simp only [Act.put, pu]
  refine pw_nil ?_
  (repeat ((fail_if_success with_reducible refine rg ?_); go_step))
  refine wp_region_qw (by kernel_rfl) (by kernel_rfl) ?_
  refine qw_move (by rfl) rfl rfl ?_
  simp only [Act.put, pu]
  refine qw_loadm (by rfl) 28 _ rfl _ (0) rfl r2 (paC ab n c G) (part_all _) _ Tryz.underlying28 rfl size_pa ?_
  simp only [Act.put, pu]
  refine qw_callK (by rfl) 30 _ _ rfl Tryz.func30 (by kernel_rfl) #[.agg (paC ab n c G)] rfl _ (fun w' hb => h w' (below_on sb (Nat.le_refl _) hb)) ?_
  simp only [Act.put, pu]
  refine qw_value (by rfl) (.int .i64 ((m + z : Nat) : Int)) ((exec_add_in _ _ _ _ rfl m z rfl rfl (by omega))) ?_
  simp only [Act.put, pu]
  refine qw_loadm (by rfl) 28 _ rfl _ (0) rfl r2 (paC ab n c G) (part_all _) _ Tryz.underlying28 rfl size_pa ?_
  simp only [Act.put, pu]
  refine qw_callK (by rfl) 30 _ _ rfl Tryz.func30 (by kernel_rfl) #[.agg (paC ab n c G)] rfl _ (fun w' hb => h w' (below_on sb (Nat.le_refl _) hb)) ?_
  simp only [Act.put, pu]
  refine qw_value (by rfl) (.int .i64 (X : Nat)) ((y_quoI _ _ _ _ rfl ((m + z : Nat) : Int) z _ rfl rfl (by omega) hw)) ?_
  simp only [Act.put, pu]
  refine qw_asg (by rfl) rfl rfl ?_
  simp only [Act.put, pu]
  refine qw_nil ?_
  intro w6 hqb
  replace sb := below_on sb (Nat.le_refl _) hqb
  clear hqb
  go_wp2
  go_ret
  exact ⟨by first | rfl | (rw [hc]; rfl), sb⟩
set_option maxRecDepth 100000 in
set_option maxHeartbeats 2000000 in
theorem rput_big (ab : Option Addr) (n c G : Nat) (s : List UInt8) (w : World) (hs : 24 < s.length) :
  Calls Tryz.prog 10 #[.agg (paC ab n c G), .string ⟨(s).toArray⟩, .bool true] w fun e w' => e = .returned (.tuple #[.slice none 0 0, .int .i64 6]) ∧ Below w.heap.size w w' := by
 go_enter Tryz.func10, Tryz.ntmps10
 (repeat ((fail_if_success with_reducible refine rg ?_); go_step))
 refine wp_region_pw ?_
 refine pw_boxr (by rfl) 28 _ rfl (_) rfl ?_
 intro g3 z0 n0 r3 k
 simp only [Act.put, pu]
 have b3 : w.heap.size ≤ g3 := n0
 clear n0
 have sb := k.below w.heap.size (Nat.le_refl _) (by simp)
 clear k
 refine pw_value (by rfl) (.slice none 0 0) ((fun _ => rfl)) ?_
 simp only [Act.put, pu]
 refine pw_value (by rfl) (.int .i64 0) (fun _ => rfl) ?_
 simp only [Act.put, pu]
 refine pw_nil ?_
 (repeat ((fail_if_success with_reducible refine rg ?_); go_step))
 refine wp_region_pw ?_
 refine pw_mv (by rfl) rfl rfl ?_
 simp only [Act.put, pu]
 refine pw_mv (by rfl) rfl rfl ?_
 simp only [Act.put, pu]
 refine pw_mv (by rfl) rfl rfl ?_
 simp only [Act.put, pu]
 refine pw_value (by rfl) (.int .i64 s.length) (y_lenS _ _ rfl s rfl Tryz.underlying9) ?_
 simp only [Act.put, pu]
 refine pw_value (by rfl) (.bool true) (exec_gt_i _ _ _ _ rfl s.length 24 rfl rfl true (decide_eq_true (by omega))) ?_
 simp only [Act.put, pu]
 refine pw_pick (by rfl) true (v := .bool true) rfl rfl rfl ?_
 simp only [Act.put, pu]
 refine pw_nil ?_
 (repeat ((fail_if_success with_reducible refine rg ?_); go_step))
 refine wp_region_pw ?_
 refine pw_value (by rfl) (.slice none 0 0) ((fun _ => rfl)) ?_
 simp only [Act.put, pu]
 refine pw_value (by rfl) (.int .i64 6) (fun _ => rfl) ?_
 simp only [Act.put, pu]
 refine pw_nil ?_
 go_wp2
 go_ret2
 exact ⟨rfl, sb⟩
set_option maxRecDepth 100000 in
set_option maxHeartbeats 2000000 in
theorem rput_some (ab : Option Addr) (n c G z m M : Nat) (s S : List UInt8) (F' : Nat → Nat) (w : World) (hz : 0 < z) (hz2 : z ≤ 32) (hs : s.length ≤ 24) (hM : m * z = M) (hMb : M ≤ 1000) (hm : m ≤ 100) (hS : S.length = M) (h : SzR w (.agg (paC ab n c G)) z)
  (hby : ∀ w', Calls Tryz.prog 31 #[.string ⟨(s).toArray⟩, .bool true, .int .i64 z] w' fun e w2 => e = .returned (.string ⟨(S).toArray⟩) ∧ Below w'.heap.size w' w2) (HF : Hid (∀ i, i < m → F' i = natB ((S.drop (i * z)).take z))) :
  Calls Tryz.prog 10 #[.agg (paC ab n c G), .string ⟨(s).toArray⟩, .bool true] w fun e w' => ∃ vl, e = .returned (.tuple #[vl, .int .i64 0]) ∧ OwnN w' w.heap.size vl m F' ∧ Below w.heap.size w w' := by
 obtain ⟨ie, hie, hze, hsz, _⟩ := info_nat'
 have hs1 : ¬ 1 * ie.size > 2 ^ 24 := by rw [hsz]; decide
 have hs2 : ¬ 1 * ie.size = 0 := by rw [hsz]; decide
 have hl1 := fun A => lit_one A ie.size hsz
 have HM : Hid (∀ i, i < m → i * z + z ≤ M) := fun i hi => by
  have := Nat.mul_le_mul_right z (show i + 1 ≤ m from hi)
  rw [Nat.add_mul, Nat.one_mul, hM] at this
  exact this
 go_enter Tryz.func10, Tryz.ntmps10
 (repeat ((fail_if_success with_reducible refine rg ?_); go_step))
 refine wp_region_pw ?_
 refine pw_boxr (by rfl) 28 _ rfl (_) rfl ?_
 intro g3 z0 n0 r3 k
 simp only [Act.put, pu]
 have b3 : w.heap.size ≤ g3 := n0
 clear n0
 have sb := k.below w.heap.size (Nat.le_refl _) (by simp)
 clear k
 refine pw_value (by rfl) (.slice none 0 0) ((fun _ => rfl)) ?_
 simp only [Act.put, pu]
 refine pw_value (by rfl) (.int .i64 0) (fun _ => rfl) ?_
 simp only [Act.put, pu]
 refine pw_nil ?_
 (repeat ((fail_if_success with_reducible refine rg ?_); go_step))
 refine wp_region_pw ?_
 refine pw_mv (by rfl) rfl rfl ?_
 simp only [Act.put, pu]
 refine pw_mv (by rfl) rfl rfl ?_
 simp only [Act.put, pu]
 refine pw_mv (by rfl) rfl rfl ?_
 simp only [Act.put, pu]
 refine pw_value (by rfl) (.int .i64 s.length) (y_lenS _ _ rfl s rfl Tryz.underlying9) ?_
 simp only [Act.put, pu]
 refine pw_value (by rfl) (.bool false) (exec_gt_i _ _ _ _ rfl s.length 24 rfl rfl false (decide_eq_false (by omega))) ?_
 simp only [Act.put, pu]
 refine pw_pick (by rfl) true (v := .bool false) rfl rfl rfl ?_
 simp only [Act.put, pu]
 refine pw_nil ?_
 (repeat ((fail_if_success with_reducible refine rg ?_); go_step))
 refine wp_region_pw ?_
 refine pw_loadm (by rfl) 28 _ rfl _ 0 rfl r3.r _ (part_all _) _ Tryz.underlying28 rfl size_pa ?_
 simp only [Act.put, pu]
 refine pw_callB (by rfl) 30 _ _ rfl Tryz.func30 (by kernel_rfl) #[.agg (paC ab n c G)] rfl _ (h _ sb) ?_
 intro z3001 k
 simp only [Act.put, pu]
 replace r3 := k.row r3 (by simp <;> omega)
 replace sb := sb.trans (k.below w.heap.size sb.size (by simp <;> omega))
 clear k
 refine pw_as (by rfl) rfl rfl ?_
 simp only [Act.put, pu]
 refine pw_nil ?_
 clear r3
 (repeat ((fail_if_success with_reducible refine rg ?_); go_step))
 refine wp_region_pw ?_
 refine pw_mv (by rfl) rfl rfl ?_
 simp only [Act.put, pu]
 refine pw_mv (by rfl) rfl rfl ?_
 simp only [Act.put, pu]
 refine pw_mv (by rfl) rfl rfl ?_
 simp only [Act.put, pu]
 refine pw_callB (by rfl) 31 _ _ rfl Tryz.func31 (by kernel_rfl) #[.string ⟨(s).toArray⟩, .bool true, .int .i64 (z : Nat)] rfl _ (hby _) ?_
 intro z4003 k
 simp only [Act.put, pu]
 replace sb := sb.trans (k.below w.heap.size sb.size (by simp <;> omega))
 clear k
 refine pw_as (by rfl) rfl rfl ?_
 simp only [Act.put, pu]
 refine pw_nil ?_
 clear hby h
 (repeat ((fail_if_success with_reducible refine rg ?_); go_step))
 refine wp_region_pw ?_
 refine pw_value (by rfl) (.slice none 0 0) ((fun _ => rfl)) ?_
 simp only [Act.put, pu]
 refine pw_nil ?_
 (repeat ((fail_if_success with_reducible refine rg ?_); go_step))
 refine wp_region_pw ?_
 refine pw_value (by rfl) (.int .i64 0) (fun _ => rfl) ?_
 simp only [Act.put, pu]
 refine pw_nil ?_
 go_wp2_with fail
 go_loopg [10, 11, 12, 13, 14, 15] m (fun g s10 s11 s12 s13 s14 s15 wr => ∃ i : Nat, i + g = m ∧ s11 = .int .i64 ((i * z : Nat) : Int) ∧ OwnN wr w.heap.size s10 i F' ∧ Below w.heap.size w wr)
 case atStart => exact ⟨0, by omega, by rw [Nat.zero_mul]; rfl, ownN_nil _ _ _, sb⟩
 case round =>
  clear sb
  obtain ⟨i, hi, rfl, hL, sb⟩ := hrel
  cases gk with
  | zero =>
   obtain rfl : i = m := by omega
   rw [hM]
   clear hi HM HF
   (repeat ((fail_if_success with_reducible refine rg ?_); go_step))
   refine wp_region_pw ?_
   refine pw_mv (by rfl) rfl rfl ?_
   simp only [Act.put, pu]
   refine pw_mv (by rfl) rfl rfl ?_
   simp only [Act.put, pu]
   refine pw_value (by rfl) (.int .i64 M) (fun w' => (y_lenS _ _ rfl S rfl Tryz.underlying9 w').trans (by rw [hS])) ?_
   simp only [Act.put, pu]
   refine pw_value (by rfl) (.bool false) (exec_lt_b _ _ _ _ rfl M M rfl rfl false (decide_eq_false (Int.lt_irrefl _))) ?_
   simp only [Act.put, pu]
   refine pw_nil ?_
   (repeat ((fail_if_success with_reducible refine rg ?_); go_step))
   refine wp_region_pw ?_
   refine pw_mv (by rfl) rfl rfl ?_
   simp only [Act.put, pu]
   refine pw_as (by rfl) rfl rfl ?_
   simp only [Act.put, pu]
   refine pw_value (by rfl) (.int .i64 0) (fun _ => rfl) ?_
   simp only [Act.put, pu]
   refine pw_nil ?_
   go_wp2
   go_ret2
   exact ⟨_, rfl, hL, sb⟩
  | succ g =>
   have him : i < m := by omega
   have hA0 := HM.out i him
   have hFi := HF.out i him
   have hadd : (i + 1) * z = i * z + z := by rw [Nat.add_mul, Nat.one_mul]
   obtain ⟨A, hA⟩ : ∃ A, i * z = A := ⟨_, rfl⟩
   rw [hA] at hA0 hFi hadd
   rw [hA]
   have hPl : ((S.drop A).take z).length = z := by rw [List.length_take, List.length_drop]; omega
   have HY : Hid (∀ j, j < z → yb ((S.drop A).take z) j = yb S (A + j)) := fun j hj => by
    unfold yb
    rw [List.getD_eq_getElem?_getD, List.getD_eq_getElem?_getD, List.getElem?_take, if_pos hj, List.getElem?_drop]
   have HFi : Hid (F' i = natB ((S.drop A).take z)) := hFi
   clear hFi hA
   generalize (S.drop A).take z = p0 at *
   (repeat ((fail_if_success with_reducible refine rg ?_); go_step))
   refine wp_region_pw ?_
   refine pw_mv (by rfl) rfl rfl ?_
   simp only [Act.put, pu]
   refine pw_mv (by rfl) rfl rfl ?_
   simp only [Act.put, pu]
   refine pw_value (by rfl) (.int .i64 M) (fun w' => (y_lenS _ _ rfl S rfl Tryz.underlying9 w').trans (by rw [hS])) ?_
   simp only [Act.put, pu]
   refine pw_value (by rfl) (.bool true) (exec_lt_b _ _ _ _ rfl A M rfl rfl true (decide_eq_true (by omega))) ?_
   simp only [Act.put, pu]
   refine pw_nil ?_
   (repeat ((fail_if_success with_reducible refine rg ?_); go_step))
   refine wp_region_pw ?_
   refine pw_value (by rfl) (.agg (natC 0)) (exec_build0 _ rfl _ built_nat) ?_
   simp only [Act.put, pu]
   refine pw_new (by rfl) 26 rfl _ zero_nat ?_
   intro g12 z9001 n0 r12 k
   simp only [Act.put, pu]
   have ehLx12 := hL.new n0
   have b12 := Nat.le_trans sb.size n0
   clear n0
   replace hL := hL.on k (own_ne0 _)
   replace sb := sb.trans (k.below w.heap.size sb.size (by simp <;> omega))
   clear k
   refine pw_put (by rfl) 26 _ _ rfl _ rfl r12 (natC 0) rfl (by exact size_nat) (by simp only [natC_size]) (natC_one _) ?_
   clear r12
   intro z9002 r12 k
   simp only [Act.put]
   replace hL := hL.on k (own_ne1 ehLx12)
   replace sb := sb.trans (k.below w.heap.size sb.size (by simp <;> omega))
   clear k
   refine pw_nil ?_
   (repeat ((fail_if_success with_reducible refine rg ?_); go_step))
   refine wp_region_pw ?_
   refine pw_value (by rfl) (.int .i64 0) (fun _ => rfl) ?_
   simp only [Act.put, pu]
   refine pw_nil ?_
   go_wp2_with fail
   go_loopg [13, 14, 15] z (fun g2 s13 s14 s15 wr2 => ∃ j : Nat, j + g2 = z ∧ s13 = .int .i64 j ∧ Row wr2 g12 (natC (natB (p0.take j))) 26 ∧ OwnN wr2 w.heap.size u10 i F' ∧ Below w.heap.size w wr2)
   case atStart => exact ⟨0, by omega, rfl, r12, hL, sb⟩
   case round =>
    clear r12 hL sb
    obtain ⟨j, hj, rfl, r12, hL, sb⟩ := hrel
    cases gk with
    | zero =>
     obtain rfl : j = z := by omega
     rw [List.take_of_length_le (by omega), ← HFi.out] at r12
     have hl1' := hl1 (F' i)
     (repeat ((fail_if_success with_reducible refine rg ?_); go_step))
     refine wp_region_pw ?_
     refine pw_mv (by rfl) rfl rfl ?_
     simp only [Act.put, pu]
     refine pw_mv (by rfl) rfl rfl ?_
     simp only [Act.put, pu]
     refine pw_value (by rfl) (.bool false) (exec_lt_b _ _ _ _ rfl j j rfl rfl false (decide_eq_false (Int.lt_irrefl _))) ?_
     simp only [Act.put, pu]
     refine pw_nil ?_
     (repeat ((fail_if_success with_reducible refine rg ?_); go_step))
     refine wp_region_pw ?_
     refine pw_mv (by rfl) rfl rfl ?_
     simp only [Act.put, pu]
     refine pw_loadm (by rfl) 26 _ rfl _ 0 rfl r12.r _ (part_all _) _ Tryz.underlying26 rfl size_nat ?_
     simp only [Act.put, pu]
     refine pw_litr (by rfl) 34 26 1 _ rfl (natC (F' i)) ie _ Tryz.underlying34 hie hze hs1 hs2 [(0, .agg (natC (F' i)))] rfl hl1' ?_
     intro gX z15002 n0 rX k
     simp only [Act.put, pu]
     have d12xX := Nat.lt_of_lt_of_le r12.lt n0
     have ehLxX := hL.new n0
     have bX := Nat.le_trans sb.size n0
     clear n0
     replace r12 := k.row r12 (by simp <;> omega)
     replace hL := hL.on k (own_ne0 _)
     replace sb := sb.trans (k.below w.heap.size sb.size (by simp <;> omega))
     clear k
     refine pw_appN (by rfl) _ _ rfl (w.heap.size) (_) (i) (F') rfl hL gX _ rfl rX (by omega) sb.size ?_
     have h0 := hL
     clear hL
     intro v1 z15003 hL k hp
     simp only [Act.put, pu]
     have cr12 := r12.lt
     replace r12 := k.row r12 (by first | exact own_nin ehLx12 | exact own_nin (h0.low (by omega)))
     (try replace ehLx12 := own_apart hp cr12 ehLx12)
     clear cr12
     clear hp
     replace sb := sb.trans (k.below w.heap.size sb.size h0.base)
     clear h0
     clear k
     refine pw_as (by rfl) rfl rfl ?_
     simp only [Act.put, pu]
     refine pw_nil ?_
     (repeat ((fail_if_success with_reducible refine rg ?_); go_step))
     refine wp_region_pw ?_
     refine pw_mv (by rfl) rfl rfl ?_
     simp only [Act.put, pu]
     refine pw_mv (by rfl) rfl rfl ?_
     simp only [Act.put, pu]
     refine pw_value (by rfl) (.int .i64 (((i + 1) * j : Nat) : Int)) (fun w' => (exec_add_in _ _ _ _ rfl A j rfl rfl (by omega) w').trans (by rw [hadd])) ?_
     simp only [Act.put, pu]
     refine pw_as (by rfl) rfl rfl ?_
     simp only [Act.put, pu]
     refine pw_nil ?_
     go_wp2
     go_roundg g
     case measure => omega
     case rel => exact ⟨i + 1, by omega, rfl, hL, sb⟩
    | succ g2 =>
     have hjz : j < z := by omega
     have hsn := take_snoc p0 j (by omega)
     rw [HY.out j hjz] at hsn
     have hc := yb_lt S (A + j)
     have hyi : Hid (yb S (A + j) = yb S (A + j)) := rfl
     generalize hC : yb S (A + j) = C at *
     have hup := fun w' => rup8 (natB (p0.take j)) w'
     have hin := fun w' => rint_nat C hc w'
     have had := fun w' => radd_any (natB (p0.take j) * 256) C w'
     rw [← hsn] at had
     generalize natB (p0.take j) = NJ at *
     generalize hNX : natB (p0.take (j + 1)) = NX at *
     have HNX : Hid (natB (p0.take (j + 1)) = NX) := hNX
     clear hNX
     clear hsn hyi
     (repeat ((fail_if_success with_reducible refine rg ?_); go_step))
     refine wp_region_pw ?_
     refine pw_mv (by rfl) rfl rfl ?_
     simp only [Act.put, pu]
     refine pw_mv (by rfl) rfl rfl ?_
     simp only [Act.put, pu]
     refine pw_value (by rfl) (.bool true) (exec_lt_b _ _ _ _ rfl j z rfl rfl true (decide_eq_true (by omega))) ?_
     simp only [Act.put, pu]
     refine pw_nil ?_
     (repeat ((fail_if_success with_reducible refine rg ?_); go_step))
     apply wp_region_mix (by kernel_rfl) [] [_, _, _, _, _, _, _, _, _, _, _, _, _, _, _, _] trivial List.nodup_nil
     ·intro p
      refine mx_load 26 _ rfl _ rfl r12 (by simp <;> omega) 4 _ Tryz.underlying26 size_nat ?_
      simp only [Act.put, pu]
      refine mx_call 33 _ _ rfl Tryz.func33 (by kernel_rfl) #[.agg (natC NJ), .int .i64 8] rfl _ hup ?_
      simp only [Act.put, pu]
      refine mx_move rfl rfl ?_
      simp only [Act.put, pu]
      refine mx_move rfl rfl ?_
      simp only [Act.put, pu]
      refine mx_move rfl rfl ?_
      simp only [Act.put, pu]
      refine mx_val (.int .i64 ((A + j : Nat) : Int)) ((exec_add_in _ _ _ _ rfl A j rfl rfl (by omega))) ?_
      simp only [Act.put, pu]
      refine mx_val (.int .u8 (C : Nat)) ((fun w' => (y_index _ _ _ rfl Tryz.underlying9 S rfl .i64 (A + j) rfl (by omega) w').trans (by rw [hC]))) ?_
      simp only [Act.put, pu]
      refine mx_val (.int .i64 (C : Nat)) ((y_conv _ _ _ rfl .u8 .i64 Tryz.underlying5 Tryz.underlying3 (C : Nat) _ rfl (by rw [IntKind.wrap_i64]; omega))) ?_
      simp only [Act.put, pu]
      refine mx_call 19 _ _ rfl Tryz.func19 (by kernel_rfl) #[.int .i64 (C : Nat)] rfl _ hin ?_
      simp only [Act.put, pu]
      refine mx_call 32 _ _ rfl Tryz.func32 (by kernel_rfl) #[.agg (natC (NJ * 256)), .agg (natC C)] rfl _ had ?_
      simp only [Act.put, pu]
      refine mx_move rfl rfl ?_
      simp only [Act.put, pu]
      refine mx_ext rfl rfl rfl ?_
      simp only [Act.put, pu]
      refine mx_ext rfl rfl rfl ?_
      simp only [Act.put, pu]
      refine mx_new 26 rfl _ zero_nat ?_
      simp only [Act.put, pu]
      refine mx_put 27 26 _ _ rfl rfl rfl (natC NX) rfl (by exact size_nat) (by simp only [natC_size]) (natC_one _) ?_
      simp only [Act.put]
      refine mx_asg rfl rfl ?_
      simp only [Act.put, pu]
      refine mx_end ?_
      intro w5 hkw hrw hnew hdis
      have n14 := hnew 13 rfl
      have zr14 : Row w5 (p 13) (natC NX) 26 := hrw 27 (26, natC NX) rfl
      have ehLx14 := hL.new n14
      have d12x14 := Nat.lt_of_lt_of_le r12.lt n14
      replace r12 := hkw.row r12 (by simp <;> omega)
      replace hL := hL.on hkw (own_ne0 _)
      have b14 := Nat.le_trans sb.size n14
      replace sb := sb.trans (hkw.below w.heap.size sb.size (by simp <;> omega))
      clear hkw hrw hnew hdis n14
      generalize p 13 = g14 at *
      have r14 := zr14
      clear zr14
      (repeat ((fail_if_success with_reducible refine rg ?_); go_step))
      refine wp_region_pw ?_
      refine pw_loadm (by rfl) 26 _ rfl _ 0 rfl r14.r _ (part_all _) _ Tryz.underlying26 rfl size_nat ?_
      simp only [Act.put, pu]
      refine pw_put (by rfl) 26 _ _ rfl _ rfl r12 (natC NX) rfl (by exact size_nat) (by simp only [natC_size]) (natC_one _) ?_
      clear r12
      intro z14001 r12 k
      simp only [Act.put]
      replace r14 := k.row r14 (by simp <;> omega)
      replace hL := hL.on k (own_ne1 ehLx12)
      replace sb := sb.trans (k.below w.heap.size sb.size (by simp <;> omega))
      clear k
      refine pw_nil ?_
      (repeat ((fail_if_success with_reducible refine rg ?_); go_step))
      refine wp_region_pw ?_
      refine pw_mv (by rfl) rfl rfl ?_
      simp only [Act.put, pu]
      refine pw_value (by rfl) (.int .i64 ((j + 1 : Nat) : Int)) (exec_add_in _ _ _ _ rfl j 1 rfl rfl (by omega)) ?_
      simp only [Act.put, pu]
      refine pw_as (by rfl) rfl rfl ?_
      simp only [Act.put, pu]
      refine pw_nil ?_
      go_wp2
      go_roundg g2
      case measure => omega
      case rel => exact ⟨j + 1, by omega, rfl, by rw [HNX.out]; exact r12, hL, sb⟩
     ·kernel_rfl
set_option maxRecDepth 100000 in
set_option maxHeartbeats 2000000 in
theorem rput_none (ab : Option Addr) (n c G z m M : Nat) (s S : List UInt8) (F' : Nat → Nat) (w : World) (hz : 0 < z) (hz2 : z ≤ 32) (hM : m * z = M) (hMb : M ≤ 1000) (hm : m ≤ 100) (hS : S.length = M) (h : SzR w (.agg (paC ab n c G)) z)
  (hby : ∀ w', Calls Tryz.prog 31 #[.string ⟨(s).toArray⟩, .bool false, .int .i64 z] w' fun e w2 => e = .returned (.string ⟨(S).toArray⟩) ∧ Below w'.heap.size w' w2) (HF : Hid (∀ i, i < m → F' i = natB ((S.drop (i * z)).take z))) :
  Calls Tryz.prog 10 #[.agg (paC ab n c G), .string ⟨(s).toArray⟩, .bool false] w fun e w' => ∃ vl, e = .returned (.tuple #[vl, .int .i64 0]) ∧ OwnN w' w.heap.size vl m F' ∧ Below w.heap.size w w' := by
 obtain ⟨ie, hie, hze, hsz, _⟩ := info_nat'
 have hs1 : ¬ 1 * ie.size > 2 ^ 24 := by rw [hsz]; decide
 have hs2 : ¬ 1 * ie.size = 0 := by rw [hsz]; decide
 have hl1 := fun A => lit_one A ie.size hsz
 have HM : Hid (∀ i, i < m → i * z + z ≤ M) := fun i hi => by
  have := Nat.mul_le_mul_right z (show i + 1 ≤ m from hi)
  rw [Nat.add_mul, Nat.one_mul, hM] at this
  exact this
 go_enter Tryz.func10, Tryz.ntmps10
 (repeat ((fail_if_success with_reducible refine rg ?_); go_step))
 refine wp_region_pw ?_
 refine pw_boxr (by rfl) 28 _ rfl (_) rfl ?_
 intro g3 z0 n0 r3 k
 simp only [Act.put, pu]
 have b3 : w.heap.size ≤ g3 := n0
 clear n0
 have sb := k.below w.heap.size (Nat.le_refl _) (by simp)
 clear k
 refine pw_value (by rfl) (.slice none 0 0) ((fun _ => rfl)) ?_
 simp only [Act.put, pu]
 refine pw_value (by rfl) (.int .i64 0) (fun _ => rfl) ?_
 simp only [Act.put, pu]
 refine pw_nil ?_
 (repeat ((fail_if_success with_reducible refine rg ?_); go_step))
 refine wp_region_pw ?_
 refine pw_mv (by rfl) rfl rfl ?_
 simp only [Act.put, pu]
 refine pw_mv (by rfl) rfl rfl ?_
 simp only [Act.put, pu]
 refine pw_skip (by rfl) ?_
 simp only [Act.put, pu]
 refine pw_skip (by rfl) ?_
 simp only [Act.put, pu]
 refine pw_skip (by rfl) ?_
 simp only [Act.put, pu]
 refine pw_pick (by rfl) false (v := .bool false) rfl rfl rfl ?_
 simp only [Act.put, pu]
 refine pw_nil ?_
 (repeat ((fail_if_success with_reducible refine rg ?_); go_step))
 refine wp_region_pw ?_
 refine pw_loadm (by rfl) 28 _ rfl _ 0 rfl r3.r _ (part_all _) _ Tryz.underlying28 rfl size_pa ?_
 simp only [Act.put, pu]
 refine pw_callB (by rfl) 30 _ _ rfl Tryz.func30 (by kernel_rfl) #[.agg (paC ab n c G)] rfl _ (h _ sb) ?_
 intro z3001 k
 simp only [Act.put, pu]
 replace r3 := k.row r3 (by simp <;> omega)
 replace sb := sb.trans (k.below w.heap.size sb.size (by simp <;> omega))
 clear k
 refine pw_as (by rfl) rfl rfl ?_
 simp only [Act.put, pu]
 refine pw_nil ?_
 clear r3
 (repeat ((fail_if_success with_reducible refine rg ?_); go_step))
 refine wp_region_pw ?_
 refine pw_mv (by rfl) rfl rfl ?_
 simp only [Act.put, pu]
 refine pw_mv (by rfl) rfl rfl ?_
 simp only [Act.put, pu]
 refine pw_mv (by rfl) rfl rfl ?_
 simp only [Act.put, pu]
 refine pw_callB (by rfl) 31 _ _ rfl Tryz.func31 (by kernel_rfl) #[.string ⟨(s).toArray⟩, .bool false, .int .i64 (z : Nat)] rfl _ (hby _) ?_
 intro z4003 k
 simp only [Act.put, pu]
 replace sb := sb.trans (k.below w.heap.size sb.size (by simp <;> omega))
 clear k
 refine pw_as (by rfl) rfl rfl ?_
 simp only [Act.put, pu]
 refine pw_nil ?_
 clear hby h
 (repeat ((fail_if_success with_reducible refine rg ?_); go_step))
 refine wp_region_pw ?_
 refine pw_value (by rfl) (.slice none 0 0) ((fun _ => rfl)) ?_
 simp only [Act.put, pu]
 refine pw_nil ?_
 (repeat ((fail_if_success with_reducible refine rg ?_); go_step))
 refine wp_region_pw ?_
 refine pw_value (by rfl) (.int .i64 0) (fun _ => rfl) ?_
 simp only [Act.put, pu]
 refine pw_nil ?_
 go_wp2_with fail
 go_loopg [10, 11, 12, 13, 14, 15] m (fun g s10 s11 s12 s13 s14 s15 wr => ∃ i : Nat, i + g = m ∧ s11 = .int .i64 ((i * z : Nat) : Int) ∧ OwnN wr w.heap.size s10 i F' ∧ Below w.heap.size w wr)
 case atStart => exact ⟨0, by omega, by rw [Nat.zero_mul]; rfl, ownN_nil _ _ _, sb⟩
 case round =>
  clear sb
  obtain ⟨i, hi, rfl, hL, sb⟩ := hrel
  cases gk with
  | zero =>
   obtain rfl : i = m := by omega
   rw [hM]
   clear hi HM HF
   (repeat ((fail_if_success with_reducible refine rg ?_); go_step))
   refine wp_region_pw ?_
   refine pw_mv (by rfl) rfl rfl ?_
   simp only [Act.put, pu]
   refine pw_mv (by rfl) rfl rfl ?_
   simp only [Act.put, pu]
   refine pw_value (by rfl) (.int .i64 M) (fun w' => (y_lenS _ _ rfl S rfl Tryz.underlying9 w').trans (by rw [hS])) ?_
   simp only [Act.put, pu]
   refine pw_value (by rfl) (.bool false) (exec_lt_b _ _ _ _ rfl M M rfl rfl false (decide_eq_false (Int.lt_irrefl _))) ?_
   simp only [Act.put, pu]
   refine pw_nil ?_
   (repeat ((fail_if_success with_reducible refine rg ?_); go_step))
   refine wp_region_pw ?_
   refine pw_mv (by rfl) rfl rfl ?_
   simp only [Act.put, pu]
   refine pw_as (by rfl) rfl rfl ?_
   simp only [Act.put, pu]
   refine pw_value (by rfl) (.int .i64 0) (fun _ => rfl) ?_
   simp only [Act.put, pu]
   refine pw_nil ?_
   go_wp2
   go_ret2
   exact ⟨_, rfl, hL, sb⟩
  | succ g =>
   have him : i < m := by omega
   have hA0 := HM.out i him
   have hFi := HF.out i him
   have hadd : (i + 1) * z = i * z + z := by rw [Nat.add_mul, Nat.one_mul]
   obtain ⟨A, hA⟩ : ∃ A, i * z = A := ⟨_, rfl⟩
   rw [hA] at hA0 hFi hadd
   rw [hA]
   have hPl : ((S.drop A).take z).length = z := by rw [List.length_take, List.length_drop]; omega
   have HY : Hid (∀ j, j < z → yb ((S.drop A).take z) j = yb S (A + j)) := fun j hj => by
    unfold yb
    rw [List.getD_eq_getElem?_getD, List.getD_eq_getElem?_getD, List.getElem?_take, if_pos hj, List.getElem?_drop]
   have HFi : Hid (F' i = natB ((S.drop A).take z)) := hFi
   clear hFi hA
   generalize (S.drop A).take z = p0 at *
   (repeat ((fail_if_success with_reducible refine rg ?_); go_step))
   refine wp_region_pw ?_
   refine pw_mv (by rfl) rfl rfl ?_
   simp only [Act.put, pu]
   refine pw_mv (by rfl) rfl rfl ?_
   simp only [Act.put, pu]
   refine pw_value (by rfl) (.int .i64 M) (fun w' => (y_lenS _ _ rfl S rfl Tryz.underlying9 w').trans (by rw [hS])) ?_
   simp only [Act.put, pu]
   refine pw_value (by rfl) (.bool true) (exec_lt_b _ _ _ _ rfl A M rfl rfl true (decide_eq_true (by omega))) ?_
   simp only [Act.put, pu]
   refine pw_nil ?_
   (repeat ((fail_if_success with_reducible refine rg ?_); go_step))
   refine wp_region_pw ?_
   refine pw_value (by rfl) (.agg (natC 0)) (exec_build0 _ rfl _ built_nat) ?_
   simp only [Act.put, pu]
   refine pw_new (by rfl) 26 rfl _ zero_nat ?_
   intro g12 z9001 n0 r12 k
   simp only [Act.put, pu]
   have ehLx12 := hL.new n0
   have b12 := Nat.le_trans sb.size n0
   clear n0
   replace hL := hL.on k (own_ne0 _)
   replace sb := sb.trans (k.below w.heap.size sb.size (by simp <;> omega))
   clear k
   refine pw_put (by rfl) 26 _ _ rfl _ rfl r12 (natC 0) rfl (by exact size_nat) (by simp only [natC_size]) (natC_one _) ?_
   clear r12
   intro z9002 r12 k
   simp only [Act.put]
   replace hL := hL.on k (own_ne1 ehLx12)
   replace sb := sb.trans (k.below w.heap.size sb.size (by simp <;> omega))
   clear k
   refine pw_nil ?_
   (repeat ((fail_if_success with_reducible refine rg ?_); go_step))
   refine wp_region_pw ?_
   refine pw_value (by rfl) (.int .i64 0) (fun _ => rfl) ?_
   simp only [Act.put, pu]
   refine pw_nil ?_
   go_wp2_with fail
   go_loopg [13, 14, 15] z (fun g2 s13 s14 s15 wr2 => ∃ j : Nat, j + g2 = z ∧ s13 = .int .i64 j ∧ Row wr2 g12 (natC (natB (p0.take j))) 26 ∧ OwnN wr2 w.heap.size u10 i F' ∧ Below w.heap.size w wr2)
   case atStart => exact ⟨0, by omega, rfl, r12, hL, sb⟩
   case round =>
    clear r12 hL sb
    obtain ⟨j, hj, rfl, r12, hL, sb⟩ := hrel
    cases gk with
    | zero =>
     obtain rfl : j = z := by omega
     rw [List.take_of_length_le (by omega), ← HFi.out] at r12
     have hl1' := hl1 (F' i)
     (repeat ((fail_if_success with_reducible refine rg ?_); go_step))
     refine wp_region_pw ?_
     refine pw_mv (by rfl) rfl rfl ?_
     simp only [Act.put, pu]
     refine pw_mv (by rfl) rfl rfl ?_
     simp only [Act.put, pu]
     refine pw_value (by rfl) (.bool false) (exec_lt_b _ _ _ _ rfl j j rfl rfl false (decide_eq_false (Int.lt_irrefl _))) ?_
     simp only [Act.put, pu]
     refine pw_nil ?_
     (repeat ((fail_if_success with_reducible refine rg ?_); go_step))
     refine wp_region_pw ?_
     refine pw_mv (by rfl) rfl rfl ?_
     simp only [Act.put, pu]
     refine pw_loadm (by rfl) 26 _ rfl _ 0 rfl r12.r _ (part_all _) _ Tryz.underlying26 rfl size_nat ?_
     simp only [Act.put, pu]
     refine pw_litr (by rfl) 34 26 1 _ rfl (natC (F' i)) ie _ Tryz.underlying34 hie hze hs1 hs2 [(0, .agg (natC (F' i)))] rfl hl1' ?_
     intro gX z15002 n0 rX k
     simp only [Act.put, pu]
     have d12xX := Nat.lt_of_lt_of_le r12.lt n0
     have ehLxX := hL.new n0
     have bX := Nat.le_trans sb.size n0
     clear n0
     replace r12 := k.row r12 (by simp <;> omega)
     replace hL := hL.on k (own_ne0 _)
     replace sb := sb.trans (k.below w.heap.size sb.size (by simp <;> omega))
     clear k
     refine pw_appN (by rfl) _ _ rfl (w.heap.size) (_) (i) (F') rfl hL gX _ rfl rX (by omega) sb.size ?_
     have h0 := hL
     clear hL
     intro v1 z15003 hL k hp
     simp only [Act.put, pu]
     have cr12 := r12.lt
     replace r12 := k.row r12 (by first | exact own_nin ehLx12 | exact own_nin (h0.low (by omega)))
     (try replace ehLx12 := own_apart hp cr12 ehLx12)
     clear cr12
     clear hp
     replace sb := sb.trans (k.below w.heap.size sb.size h0.base)
     clear h0
     clear k
     refine pw_as (by rfl) rfl rfl ?_
     simp only [Act.put, pu]
     refine pw_nil ?_
     (repeat ((fail_if_success with_reducible refine rg ?_); go_step))
     refine wp_region_pw ?_
     refine pw_mv (by rfl) rfl rfl ?_
     simp only [Act.put, pu]
     refine pw_mv (by rfl) rfl rfl ?_
     simp only [Act.put, pu]
     refine pw_value (by rfl) (.int .i64 (((i + 1) * j : Nat) : Int)) (fun w' => (exec_add_in _ _ _ _ rfl A j rfl rfl (by omega) w').trans (by rw [hadd])) ?_
     simp only [Act.put, pu]
     refine pw_as (by rfl) rfl rfl ?_
     simp only [Act.put, pu]
     refine pw_nil ?_
     go_wp2
     go_roundg g
     case measure => omega
     case rel => exact ⟨i + 1, by omega, rfl, hL, sb⟩
    | succ g2 =>
     have hjz : j < z := by omega
     have hsn := take_snoc p0 j (by omega)
     rw [HY.out j hjz] at hsn
     have hc := yb_lt S (A + j)
     have hyi : Hid (yb S (A + j) = yb S (A + j)) := rfl
     generalize hC : yb S (A + j) = C at *
     have hup := fun w' => rup8 (natB (p0.take j)) w'
     have hin := fun w' => rint_nat C hc w'
     have had := fun w' => radd_any (natB (p0.take j) * 256) C w'
     rw [← hsn] at had
     generalize natB (p0.take j) = NJ at *
     generalize hNX : natB (p0.take (j + 1)) = NX at *
     have HNX : Hid (natB (p0.take (j + 1)) = NX) := hNX
     clear hNX
     clear hsn hyi
     (repeat ((fail_if_success with_reducible refine rg ?_); go_step))
     refine wp_region_pw ?_
     refine pw_mv (by rfl) rfl rfl ?_
     simp only [Act.put, pu]
     refine pw_mv (by rfl) rfl rfl ?_
     simp only [Act.put, pu]
     refine pw_value (by rfl) (.bool true) (exec_lt_b _ _ _ _ rfl j z rfl rfl true (decide_eq_true (by omega))) ?_
     simp only [Act.put, pu]
     refine pw_nil ?_
     (repeat ((fail_if_success with_reducible refine rg ?_); go_step))
     apply wp_region_mix (by kernel_rfl) [] [_, _, _, _, _, _, _, _, _, _, _, _, _, _, _, _] trivial List.nodup_nil
     ·intro p
      refine mx_load 26 _ rfl _ rfl r12 (by simp <;> omega) 4 _ Tryz.underlying26 size_nat ?_
      simp only [Act.put, pu]
      refine mx_call 33 _ _ rfl Tryz.func33 (by kernel_rfl) #[.agg (natC NJ), .int .i64 8] rfl _ hup ?_
      simp only [Act.put, pu]
      refine mx_move rfl rfl ?_
      simp only [Act.put, pu]
      refine mx_move rfl rfl ?_
      simp only [Act.put, pu]
      refine mx_move rfl rfl ?_
      simp only [Act.put, pu]
      refine mx_val (.int .i64 ((A + j : Nat) : Int)) ((exec_add_in _ _ _ _ rfl A j rfl rfl (by omega))) ?_
      simp only [Act.put, pu]
      refine mx_val (.int .u8 (C : Nat)) ((fun w' => (y_index _ _ _ rfl Tryz.underlying9 S rfl .i64 (A + j) rfl (by omega) w').trans (by rw [hC]))) ?_
      simp only [Act.put, pu]
      refine mx_val (.int .i64 (C : Nat)) ((y_conv _ _ _ rfl .u8 .i64 Tryz.underlying5 Tryz.underlying3 (C : Nat) _ rfl (by rw [IntKind.wrap_i64]; omega))) ?_
      simp only [Act.put, pu]
      refine mx_call 19 _ _ rfl Tryz.func19 (by kernel_rfl) #[.int .i64 (C : Nat)] rfl _ hin ?_
      simp only [Act.put, pu]
      refine mx_call 32 _ _ rfl Tryz.func32 (by kernel_rfl) #[.agg (natC (NJ * 256)), .agg (natC C)] rfl _ had ?_
      simp only [Act.put, pu]
      refine mx_move rfl rfl ?_
      simp only [Act.put, pu]
      refine mx_ext rfl rfl rfl ?_
      simp only [Act.put, pu]
      refine mx_ext rfl rfl rfl ?_
      simp only [Act.put, pu]
      refine mx_new 26 rfl _ zero_nat ?_
      simp only [Act.put, pu]
      refine mx_put 27 26 _ _ rfl rfl rfl (natC NX) rfl (by exact size_nat) (by simp only [natC_size]) (natC_one _) ?_
      simp only [Act.put]
      refine mx_asg rfl rfl ?_
      simp only [Act.put, pu]
      refine mx_end ?_
      intro w5 hkw hrw hnew hdis
      have n14 := hnew 13 rfl
      have zr14 : Row w5 (p 13) (natC NX) 26 := hrw 27 (26, natC NX) rfl
      have ehLx14 := hL.new n14
      have d12x14 := Nat.lt_of_lt_of_le r12.lt n14
      replace r12 := hkw.row r12 (by simp <;> omega)
      replace hL := hL.on hkw (own_ne0 _)
      have b14 := Nat.le_trans sb.size n14
      replace sb := sb.trans (hkw.below w.heap.size sb.size (by simp <;> omega))
      clear hkw hrw hnew hdis n14
      generalize p 13 = g14 at *
      have r14 := zr14
      clear zr14
      (repeat ((fail_if_success with_reducible refine rg ?_); go_step))
      refine wp_region_pw ?_
      refine pw_loadm (by rfl) 26 _ rfl _ 0 rfl r14.r _ (part_all _) _ Tryz.underlying26 rfl size_nat ?_
      simp only [Act.put, pu]
      refine pw_put (by rfl) 26 _ _ rfl _ rfl r12 (natC NX) rfl (by exact size_nat) (by simp only [natC_size]) (natC_one _) ?_
      clear r12
      intro z14001 r12 k
      simp only [Act.put]
      replace r14 := k.row r14 (by simp <;> omega)
      replace hL := hL.on k (own_ne1 ehLx12)
      replace sb := sb.trans (k.below w.heap.size sb.size (by simp <;> omega))
      clear k
      refine pw_nil ?_
      (repeat ((fail_if_success with_reducible refine rg ?_); go_step))
      refine wp_region_pw ?_
      refine pw_mv (by rfl) rfl rfl ?_
      simp only [Act.put, pu]
      refine pw_value (by rfl) (.int .i64 ((j + 1 : Nat) : Int)) (exec_add_in _ _ _ _ rfl j 1 rfl rfl (by omega)) ?_
      simp only [Act.put, pu]
      refine pw_as (by rfl) rfl rfl ?_
      simp only [Act.put, pu]
      refine pw_nil ?_
      go_wp2
      go_roundg g2
      case measure => omega
      case rel => exact ⟨j + 1, by omega, rfl, by rw [HNX.out]; exact r12, hL, sb⟩
     ·kernel_rfl
theorem rput_any (ab : Option Addr) (n c G z : Nat) (s : List UInt8) (b : Bool) (w : World) (hz : 0 < z) (hz2 : z ≤ 32) (hs : b = true → s.length ≤ 24) (h : SzR w (.agg (paC ab n c G)) z) :
  Calls Tryz.prog 10 #[.agg (paC ab n c G), .string ⟨(s).toArray⟩, .bool b] w fun e w' => ∃ vl, e = .returned (.tuple #[vl, .int .i64 0]) ∧ OwnN w' w.heap.size vl (pN (ckL s b).length z) (ckF (ckL s b) z) ∧ Below w.heap.size w w' := by
 have hby := fun w' => rb11_any s b z w' hz hz2 hs
 have h3 := pN_lt (n := (ckL s b).length) hz
 have h2 := pN_le (n := (ckL s b).length) hz
 have hl : (ckL s b).length ≤ 25 := by
  cases b with
  | false => exact (by decide : 1 ≤ 25)
  | true => exact ckL_len true (hs rfl)
 cases b with
 | false => exact rput_none ab n c G z _ _ s _ _ w hz hz2 rfl (by omega) (by omega) (padz_length hz) h hby (fun i _ => rfl)
 | true => exact rput_some ab n c G z _ _ s _ _ w hz hz2 (hs rfl) rfl (by omega) (by omega) (padz_length hz) h hby (fun i _ => rfl)
end Go.Proofs.YtdemabfpcepnfaaGreatDoor
/- The document's Take of layer 11. -/
namespace Go.Proofs.YtdemabfpcepnfaaGreatDoor
open Go.RowKit
set_option linter.unusedVariables false
theorem y_gt8 {P : Program} {o : Oper} {ρ : Operand → Value} (t : TypeId) (x y : Operand) (u : TypeId) (ho : o.op = .binOp .gtr t x y u) (n m : Int) (hx : ρ x = .int .u8 n) (hy : ρ y = .int .u8 m) (b : Bool) (hb : decide (m < n) = b) (w : World) :
  (execOp ρ o).run P w = .ok (.value (.bool b)) w := by
 subst hb
 unfold execOp
 simp only [ho, hx, hy]
 simp [go_sem]
theorem y_mid8 {P : Program} {o : Oper} {ρ : Operand → Value} (t : TypeId) (x lo hi : Operand) (hu : P.underlying t = some .string) (ho : o.op = .slice t x (some lo) (some hi) none) (L : List UInt8) (l h : Nat) (hx : ρ x = .string ⟨L.toArray⟩) (hl : ρ lo = .int .i64 l) (hh : ρ hi = .int .u8 h) (hlh : l ≤ h) (hn : h ≤ L.length)
  (R : List UInt8) (hR : (L.take h).drop l = R) (w : World) :
  (execOp ρ o).run P w = .ok (.value (.string ⟨R.toArray⟩)) w := by
 subst hR
 have h1 : (Instr.sliceAt t (.string ⟨L.toArray⟩) (some (.int .i64 l)) (some (.int .u8 h)) none).run P w = .ok (.string ⟨((L.take h).drop l).toArray⟩) w := by
  rw [run_sliceAt_string w t _ _ _ _ hu, run_slice_string w t ⟨L.toArray⟩ .i64 .u8 l h hu (by omega) (by omega) (by rw [ysize]; omega), Int.toNat_natCast, Int.toNat_natCast, ybytes_part L l h hn]
 unfold execOp
 simp only [ho, hx, hl, hh, Option.map_some, Option.map_none, Sem.run_bind, h1, Result.andThen_ok]
 rfl
theorem byt_updown (A K : Nat) (hK : K < 32) : A * 2 ^ (256 - 8 * K - 8) % 2 ^ 256 / 2 ^ 248 = byt A K := by
 have e1 : 2 ^ 256 = 2 ^ (8 * K + 8) * 2 ^ (256 - 8 * K - 8) := by rw [← Nat.pow_add]; congr 1; omega
 have e2 : 2 ^ 248 = 2 ^ (256 - 8 * K - 8) * 2 ^ (8 * K) := by rw [← Nat.pow_add]; congr 1; omega
 rw [e1, e2, Nat.mul_mod_mul_right, ← Nat.div_div_eq_div_mul, Nat.mul_div_cancel _ (Nat.two_pow_pos _), Nat.pow_add, Nat.mod_mul_right_div_self]
 rfl
theorem bytesL_snoc (A z j : Nat) (hj : j < z) : (bytesL A z).take j ++ [UInt8.ofNat (byt A (z - 1 - j))] = (bytesL A z).take (j + 1) := by
 have hl : j < (bytesL A z).length := by rw [bytesL_length]; exact hj
 rw [List.take_succ_eq_append_getElem hl, bytesL_get A z j hl]
theorem NatsAt.belowAll {w w2 : World} {ab : Option Addr} {n : Nat} {e : Nat → Nat} {gb ob : Nat} {bcs : Array Value} {tb : TypeId} (h : NatsAt w ab n e gb ob bcs tb) (hb : Below w.heap.size w w2) : NatsAt w2 ab n e gb ob bcs tb := h.below hb
set_option maxRecDepth 100000 in
set_option maxHeartbeats 2000000 in
theorem rtk_any (pa : Option Addr) (pn pc G z n ca : Nat) (ab : Option Addr) (f : Nat → Nat) (gb ob : Nat) (bcs : Array Value) (tb : TypeId) (w : World) (hz : 0 < z) (hz2 : z ≤ 32) (hn : n ≤ 30) (h : SzR w (.agg (paC pa pn pc G)) z) (hna : NatsAt w ab n f gb ob bcs tb) :
  Calls Tryz.prog 15 #[.agg (paC pa pn pc G), .slice ab n ca] w fun e w' => e = .returned (.tuple #[.string ⟨(tkV z n f).toArray⟩, .bool (tkT z n f), .int .i64 (tkE z n f)]) ∧ Below w.heap.size w w' := by
 have HB : Hid (NatsAt w ab n f gb ob bcs tb) := hna
 have HJ : Hid (0 < n → 0 < (jn z f n).length ∧ (jn z f n).length ≤ 1000) := fun h0 => by
  have h1 : ∀ k, k ≤ n → (jn z f k).length ≤ 32 * k := by
   intro k
   induction k with
   | zero => intro _; simp [jn]
   | succ k ih =>
    intro hk
    have := flz_le hz2 (hna.lt k (by omega))
    have := ih (by omega)
    rw [jn, List.length_append]
    omega
  have h2 := h1 n (Nat.le_refl _)
  have h3 := jn_length z f n
  have h4 : 1 * 1 ≤ n * z := Nat.mul_le_mul h0 hz
  omega
 have HL : Hid (∀ k, k < n → (jn z f k).length ≤ 1000) := fun k hk => by
  have h1 : ∀ k, k ≤ n → (jn z f k).length ≤ 32 * k := by
   intro k
   induction k with
   | zero => intro _; simp [jn]
   | succ k ih =>
    intro hk
    have := flz_le hz2 (hna.lt k (by omega))
    have := ih (by omega)
    rw [jn, List.length_append]
    omega
  have h2 := h1 k (by omega)
  omega
 obtain ⟨ie, hie, hze, hsz⟩ := info_u8k
 have hs1 : ¬ 1 * ie.size > 2 ^ 24 := by rw [hsz]; decide
 have hs2 : ¬ 1 * ie.size = 0 := by rw [hsz]; decide
 clear hna
 go_enter Tryz.func15, Tryz.ntmps15
 (repeat ((fail_if_success with_reducible refine rg ?_); go_step))
 refine wp_region_pw ?_
 refine pw_boxr (by rfl) 28 _ rfl (_) rfl ?_
 intro g2 z0 n0 r2 k
 simp only [Act.put, pu]
 have b2 : w.heap.size ≤ g2 := n0
 clear n0
 have sb := k.below w.heap.size (Nat.le_refl _) (by simp)
 clear k
 refine pw_move (by rfl) (.inr rfl) rfl ?_
 simp only [Act.put, pu]
 refine pw_value (by rfl) (.bool false) (fun _ => rfl) ?_
 simp only [Act.put, pu]
 refine pw_value (by rfl) (.int .i64 0) (fun _ => rfl) ?_
 simp only [Act.put, pu]
 refine pw_nil ?_
 (repeat ((fail_if_success with_reducible refine rg ?_); go_step))
 refine wp_region_pw ?_
 refine pw_value (by rfl) (.string ⟨([] : List UInt8).toArray⟩) ((fun _ => rfl)) ?_
 simp only [Act.put, pu]
 refine pw_nil ?_
 (repeat ((fail_if_success with_reducible refine rg ?_); go_step))
 refine wp_region_pw ?_
 refine pw_value (by rfl) (.int .i64 0) (fun _ => rfl) ?_
 simp only [Act.put, pu]
 refine pw_nil ?_
 go_wp2_with fail
 go_loopg [7, 8, 9, 10, 11] n (fun g s7 s8 s9 s10 s11 wr => ∃ i : Nat, i + g = n ∧ s8 = .int .i64 i ∧ s7 = .string ⟨(jn z f i).toArray⟩ ∧ Hid (∀ k, k < i → f k < 2 ^ (8 * z)) ∧ Row wr g2 (paC pa pn pc G) 28 ∧ Below w.heap.size w wr)
 case atStart => exact ⟨0, by omega, rfl, rfl, (show ∀ k, k < 0 → f k < 2 ^ (8 * z) from fun k hk => by omega), r2, sb⟩
 case round =>
  clear r2 sb
  obtain ⟨i, hi, rfl, rfl, HA, r2, sb⟩ := hrel
  cases gk with
  | zero =>
   obtain rfl : n = i := by omega
   clear hi HL HA
   (repeat ((fail_if_success with_reducible refine rg ?_); go_step))
   refine wp_region_pw ?_
   refine pw_mv (by rfl) rfl rfl ?_
   simp only [Act.put, pu]
   refine pw_mv (by rfl) rfl rfl ?_
   simp only [Act.put, pu]
   refine pw_value (by rfl) (.int .i64 n) (exec_len_s 34 _ rfl ab n ca rfl sl_natsX) ?_
   simp only [Act.put, pu]
   refine pw_value (by rfl) (.bool false) (exec_lt_b _ _ _ _ rfl n n rfl rfl false (decide_eq_false (Int.lt_irrefl _))) ?_
   simp only [Act.put, pu]
   refine pw_mv (by rfl) rfl rfl ?_
   simp only [Act.put, pu]
   refine pw_skip (by rfl) ?_
   simp only [Act.put, pu]
   refine pw_skip (by rfl) ?_
   simp only [Act.put, pu]
   refine pw_pick (by rfl) false (v := .bool false) rfl rfl rfl ?_
   simp only [Act.put, pu]
   refine pw_nil ?_
   by_cases hn0 : n = 0
   ·subst hn0
    (repeat ((fail_if_success with_reducible refine rg ?_); go_step))
    refine wp_region_pw ?_
    refine pw_mv (by rfl) rfl rfl ?_
    simp only [Act.put, pu]
    refine pw_value (by rfl) (.bool true) (y_eqS _ _ _ _ rfl (jn z f 0) [] rfl rfl true rfl) ?_
    simp only [Act.put, pu]
    refine pw_mv (by rfl) rfl rfl ?_
    simp only [Act.put, pu]
    refine pw_skip (by rfl) ?_
    simp only [Act.put, pu]
    refine pw_skip (by rfl) ?_
    simp only [Act.put, pu]
    refine pw_skip (by rfl) ?_
    simp only [Act.put, pu]
    refine pw_pick (by rfl) true (v := .bool true) rfl rfl rfl ?_
    simp only [Act.put, pu]
    refine pw_nil ?_
    (repeat ((fail_if_success with_reducible refine rg ?_); go_step))
    refine wp_region_pw ?_
    refine pw_move (by rfl) (.inr rfl) rfl ?_
    simp only [Act.put, pu]
    refine pw_value (by rfl) (.bool false) (fun _ => rfl) ?_
    simp only [Act.put, pu]
    refine pw_value (by rfl) (.int .i64 4) (fun _ => rfl) ?_
    simp only [Act.put, pu]
    refine pw_nil ?_
    go_wp2
    go_ret3
    obtain ⟨e1, e2, e3⟩ := tk_none (tkR_few hz (.inl rfl))
    exact ⟨by rw [e1, e2, e3]; rfl, sb⟩
   obtain ⟨hJ0, hJ1⟩ := HJ.out (by omega)
   generalize hJ : jn z f n = J at *
   have HJJ : Hid (jn z f n = J) := hJ
   clear hJ HJ
   (repeat ((fail_if_success with_reducible refine rg ?_); go_step))
   refine wp_region_pw ?_
   refine pw_mv (by rfl) rfl rfl ?_
   simp only [Act.put, pu]
   refine pw_value (by rfl) (.bool false) (y_eqS _ _ _ _ rfl J [] rfl rfl false (decide_eq_false (fun e => by rw [e] at hJ0; exact absurd hJ0 (by decide)))) ?_
   simp only [Act.put, pu]
   refine pw_mv (by rfl) rfl rfl ?_
   simp only [Act.put, pu]
   refine pw_mv (by rfl) rfl rfl ?_
   simp only [Act.put, pu]
   refine pw_value (by rfl) (.int .i64 n) (exec_len_s 34 _ rfl ab n ca rfl sl_natsX) ?_
   simp only [Act.put, pu]
   refine pw_value (by rfl) (.bool false) (exec_gt_i _ _ _ _ rfl n 30 rfl rfl false (decide_eq_false (by omega))) ?_
   simp only [Act.put, pu]
   refine pw_pick (by rfl) false (v := .bool false) rfl rfl rfl ?_
   simp only [Act.put, pu]
   refine pw_nil ?_
   have hY2 := yb_lt J 0
   obtain ⟨Y, hY⟩ : ∃ Y, yb J 0 = Y := ⟨_, rfl⟩
   rw [hY] at hY2
   by_cases hY0 : Y = 0
   ·subst hY0
    have HV : Hid (tdT (jn z f n) = false ∧ tdV (jn z f n) = []) := by
     show tdT (jn z f n) = false ∧ tdV (jn z f n) = []
     rw [HJJ.out]
     exact ⟨td_no hY, tdV_no (td_no hY)⟩
    have hVl : ([] : List UInt8).length ≤ 24 := by decide
    (repeat ((fail_if_success with_reducible refine rg ?_); go_step))
    refine wp_region_qw (by kernel_rfl) (by kernel_rfl) ?_
    refine qw_move (by rfl) rfl rfl ?_
    simp only [Act.put, pu]
    refine qw_value (by rfl) (.int .u8 (0 : Nat)) ((fun w' => (y_index _ _ _ rfl Tryz.underlying9 J rfl .i64 0 rfl hJ0 w').trans (by rw [hY]))) ?_
    simp only [Act.put, pu]
    refine qw_value (by rfl) (.bool false) ((y_gt8 _ _ _ _ rfl (0 : Nat) 0 rfl rfl false (decide_eq_false (by omega)))) ?_
    simp only [Act.put, pu]
    refine qw_value (by rfl) (.string ⟨([] : List UInt8).toArray⟩) (fun _ => rfl) ?_
    simp only [Act.put, pu]
    refine qw_asg (by rfl) rfl rfl ?_
    simp only [Act.put, pu]
    refine qw_nil ?_
    intro w7 hqb
    replace r2 := r2.belowAll hqb
    replace sb := below_on sb (Nat.le_refl _) hqb
    clear hqb
    (repeat ((fail_if_success with_reducible refine rg ?_); go_step))
    refine wp_region_pw ?_
    refine pw_mv (by rfl) rfl rfl ?_
    simp only [Act.put, pu]
    refine pw_nil ?_
    have hpu := fun w' (hb : Below w.heap.size w w') => rput_any pa pn pc G z [] false w' hz hz2 (fun _ => hVl) (h.below hb)
    have HM : Hid (pN (ckL [] false).length z = pN (ckL [] false).length z ∧ ∀ i, ckF (ckL [] false) z i < 2 ^ 256) := ⟨rfl, fun i => ckF_256 _ _ hz2⟩
    have HC : Hid (∀ m F', pN (ckL [] false).length z = m → ckF (ckL [] false) z = F' → (n = m ∧ (∀ k, k < n → f k = F' k) ↔ ckIs z n f [] false)) := by
     intro m F' hm hF
     subst hm
     subst hF
     exact ⟨fun h => ⟨hVl, h.1, h.2⟩, fun h => ⟨h.2.1, h.2.2⟩⟩
    generalize hm : pN (ckL [] false).length z = m at *
    generalize hF : ckF (ckL [] false) z = F' at *
    have HQ : Hid (n = m ∧ (∀ k, k < n → f k = F' k) ↔ ckIs z n f [] false) := HC.out m F' rfl rfl
    have hFl := HM.out.2
    clear HC HM hm hF
    (repeat ((fail_if_success with_reducible refine rg ?_); go_step))
    refine wp_region_pw ?_
    refine pw_loadm (by rfl) 28 _ rfl _ 0 rfl r2.r _ (part_all _) _ Tryz.underlying28 rfl size_pa ?_
    simp only [Act.put, pu]
    refine pw_mv (by rfl) rfl rfl ?_
    simp only [Act.put, pu]
    refine pw_mv (by rfl) rfl rfl ?_
    simp only [Act.put, pu]
    refine pw_callE (by rfl) 10 _ _ rfl Tryz.func10 (by kernel_rfl) #[.agg (paC pa pn pc G), .string ⟨([]).toArray⟩, .bool false] rfl (hpu _ sb) ?_
    rintro _ z19003 ⟨vl, rfl, hX, hb⟩
    refine ⟨_, rfl, ?_⟩
    simp only [Act.put, pu]
    have ehXx2 := hX.low r2.lt
    have k := Kept.ofBelow hb
    clear hb
    replace r2 := k.row r2 (by simp <;> omega)
    replace sb := sb.trans (k.below w.heap.size sb.size (by simp <;> omega))
    clear k
    refine pw_mv (by rfl) rfl rfl ?_
    simp only [Act.put, pu]
    refine pw_ext (by rfl) rfl rfl rfl ?_
    simp only [Act.put, pu]
    refine pw_ext (by rfl) rfl rfl rfl ?_
    simp only [Act.put, pu]
    refine pw_as (by rfl) rfl rfl ?_
    simp only [Act.put, pu]
    refine pw_as (by rfl) rfl rfl ?_
    simp only [Act.put, pu]
    refine pw_nil ?_
    obtain ⟨ax, cx, rfl⟩ := own_shape hX
    obtain ⟨_, gx, curx, hN⟩ := ownN_nats hX (fun i _ => hFl i)
    clear hX ehXx2 hpu r2
    by_cases hnm : n = m
    ·obtain rfl := hnm
     (repeat ((fail_if_success with_reducible refine rg ?_); go_step))
     refine wp_region_pw ?_
     refine pw_mv (by rfl) rfl rfl ?_
     simp only [Act.put, pu]
     refine pw_value (by rfl) (.bool false) (exec_neq_k .i64 _ _ _ _ rfl 0 0 rfl rfl false rfl) ?_
     simp only [Act.put, pu]
     refine pw_mv (by rfl) rfl rfl ?_
     simp only [Act.put, pu]
     refine pw_mv (by rfl) rfl rfl ?_
     simp only [Act.put, pu]
     refine pw_value (by rfl) (.int .i64 n) (exec_len_s 34 _ rfl ax n cx rfl sl_natsX) ?_
     simp only [Act.put, pu]
     refine pw_mv (by rfl) rfl rfl ?_
     simp only [Act.put, pu]
     refine pw_value (by rfl) (.int .i64 n) (exec_len_s 34 _ rfl ab n ca rfl sl_natsX) ?_
     simp only [Act.put, pu]
     refine pw_value (by rfl) (.bool false) (exec_neq_k .i64 _ _ _ _ rfl n n rfl rfl false (by rw [decide_eq_true rfl]; rfl)) ?_
     simp only [Act.put, pu]
     refine pw_pick (by rfl) false (v := .bool false) rfl rfl rfl ?_
     simp only [Act.put, pu]
     refine pw_nil ?_
     (repeat ((fail_if_success with_reducible refine rg ?_); go_step))
     refine wp_region_pw ?_
     refine pw_value (by rfl) (.int .i64 0) (fun _ => rfl) ?_
     simp only [Act.put, pu]
     refine pw_nil ?_
     go_wp2_with fail
     go_loopg [16] n (fun g s16 wr => ∃ i : Nat, i + g = n ∧ s16 = .int .i64 i ∧ Hid (∀ k, k < i → f k = F' k) ∧ NatsAt wr ax n F' gx 0 curx 26 ∧ Below w.heap.size w wr)
     case atStart => exact ⟨0, by omega, rfl, (show ∀ k, k < 0 → f k = F' k from fun k hk => by omega), hN, sb⟩
     case round =>
      clear hN sb
      obtain ⟨i, hi, rfl, HP, hN, sb⟩ := hrel
      cases gk with
      | zero =>
       obtain rfl : i = n := by omega
       (repeat ((fail_if_success with_reducible refine rg ?_); go_step))
       refine wp_region_pw ?_
       refine pw_mv (by rfl) rfl rfl ?_
       simp only [Act.put, pu]
       refine pw_mv (by rfl) rfl rfl ?_
       simp only [Act.put, pu]
       refine pw_value (by rfl) (.int .i64 i) (exec_len_s 34 _ rfl ab i ca rfl sl_natsX) ?_
       simp only [Act.put, pu]
       refine pw_value (by rfl) (.bool false) (exec_lt_b _ _ _ _ rfl i i rfl rfl false (decide_eq_false (Int.lt_irrefl _))) ?_
       simp only [Act.put, pu]
       refine pw_mv (by rfl) rfl rfl ?_
       simp only [Act.put, pu]
       refine pw_skip (by rfl) ?_
       simp only [Act.put, pu]
       refine pw_skip (by rfl) ?_
       simp only [Act.put, pu]
       refine pw_skip (by rfl) ?_
       simp only [Act.put, pu]
       refine pw_skip (by rfl) ?_
       simp only [Act.put, pu]
       refine pw_pick (by rfl) false (v := .bool false) rfl rfl rfl ?_
       simp only [Act.put, pu]
       refine pw_nil ?_
       (repeat ((fail_if_success with_reducible refine rg ?_); go_step))
       refine wp_region_pw ?_
       refine pw_mv (by rfl) rfl rfl ?_
       simp only [Act.put, pu]
       refine pw_mv (by rfl) rfl rfl ?_
       simp only [Act.put, pu]
       refine pw_as (by rfl) rfl rfl ?_
       simp only [Act.put, pu]
       refine pw_as (by rfl) rfl rfl ?_
       simp only [Act.put, pu]
       refine pw_value (by rfl) (.int .i64 0) (fun _ => rfl) ?_
       simp only [Act.put, pu]
       refine pw_nil ?_
       go_wp2
       go_ret3
       have hyes : tkR z i f = some ([], false) := tkR_of hz (HQ.out.1 ⟨by first | trivial | rfl, HP.out⟩) (fun ht => HV.out.2.symm.trans (tdV_no (HV.out.1.trans ht)))
       obtain ⟨e1, e2, e3⟩ := tk_some hyes
       exact ⟨by rw [e1, e2, e3]; rfl, sb⟩
      | succ g =>
       have hlt : i < n := by omega
       (repeat ((fail_if_success with_reducible refine rg ?_); go_step))
       refine wp_region_pw ?_
       refine pw_mv (by rfl) rfl rfl ?_
       simp only [Act.put, pu]
       refine pw_mv (by rfl) rfl rfl ?_
       simp only [Act.put, pu]
       refine pw_value (by rfl) (.int .i64 n) (exec_len_s 34 _ rfl ab n ca rfl sl_natsX) ?_
       simp only [Act.put, pu]
       refine pw_value (by rfl) (.bool true) (exec_lt_b _ _ _ _ rfl i n rfl rfl true (decide_eq_true (by omega))) ?_
       simp only [Act.put, pu]
       refine pw_mv (by rfl) rfl rfl ?_
       simp only [Act.put, pu]
       refine pw_mv (by rfl) rfl rfl ?_
       simp only [Act.put, pu]
       refine pw_mv (by rfl) rfl rfl ?_
       simp only [Act.put, pu]
       refine pw_value (by rfl) (.int .i64 n) (exec_len_s 34 _ rfl ax n cx rfl sl_natsX) ?_
       simp only [Act.put, pu]
       refine pw_value (by rfl) (.bool true) (exec_lt_b _ _ _ _ rfl i n rfl rfl true (decide_eq_true (by omega))) ?_
       simp only [Act.put, pu]
       refine pw_pick (by rfl) true (v := .bool true) rfl rfl rfl ?_
       simp only [Act.put, pu]
       refine pw_nil ?_
       obtain h0 | ⟨rfl, rB, hbt⟩ := (HB.out.below sb).at'
       ·exact absurd h0 (by omega)
       obtain h0 | ⟨rfl, rX, hxt⟩ := hN.at'
       ·exact absurd h0 (by omega)
       have hbt' := hbt i hlt
       have hxt' := hxt i hlt
       clear hbt hxt
       by_cases he : F' i = f i
       ·have HP2 : Hid (∀ k, k < i + 1 → f k = F' k) := fun k hk => by
         by_cases hki : k = i
         ·subst hki; exact he.symm
         ·exact HP.out k (by omega)
        clear HP
        (repeat ((fail_if_success with_reducible refine rg ?_); go_step))
        refine wp_region_qw (by kernel_rfl) (by kernel_rfl) ?_
        refine qw_move (by rfl) rfl rfl ?_
        simp only [Act.put, pu]
        refine qw_move (by rfl) rfl rfl ?_
        simp only [Act.put, pu]
        refine qw_value (by rfl) (.pointer (some ⟨gx, 0 + i * 4, none⟩)) ((exec_index_s 34 _ _ rfl gx 0 n cx rfl i rfl hlt _ Tryz.underlying34 4 size_nat4)) ?_
        simp only [Act.put, pu]
        refine qw_loadmR (by rfl) 26 _ rfl _ (0 + i * 4) rfl rX (natC (F' i)) hxt' _ Tryz.underlying26 rfl size_nat ?_
        simp only [Act.put, pu]
        refine qw_move (by rfl) rfl rfl ?_
        simp only [Act.put, pu]
        refine qw_move (by rfl) rfl rfl ?_
        simp only [Act.put, pu]
        refine qw_value (by rfl) (.pointer (some ⟨gb, ob + i * 4, none⟩)) ((exec_index_s 34 _ _ rfl gb ob n ca rfl i rfl hlt _ Tryz.underlying34 4 size_nat4)) ?_
        simp only [Act.put, pu]
        refine qw_loadmR (by rfl) 26 _ rfl _ (ob + i * 4) rfl rB (natC (f i)) hbt' _ Tryz.underlying26 rfl size_nat ?_
        simp only [Act.put, pu]
        refine qw_value (by rfl) (.bool false) ((fun w' => (exec_neq_nat _ _ _ rfl (F' i) (f i) rfl rfl w').trans (by rw [he, neq_no]))) ?_
        simp only [Act.put, pu]
        refine qw_nil ?_
        intro w6 hqb
        replace hN := hN.belowAll hqb
        replace sb := below_on sb (Nat.le_refl _) hqb
        clear hqb
        clear rB rX hbt' hxt'
        (repeat ((fail_if_success with_reducible refine rg ?_); go_step))
        refine wp_region_pw ?_
        refine pw_mv (by rfl) rfl rfl ?_
        simp only [Act.put, pu]
        refine pw_value (by rfl) (.int .i64 ((i + 1 : Nat) : Int)) (exec_add_in _ _ _ _ rfl i 1 rfl rfl (by omega)) ?_
        simp only [Act.put, pu]
        refine pw_as (by rfl) rfl rfl ?_
        simp only [Act.put, pu]
        refine pw_nil ?_
        go_wp2
        go_roundg g
        case measure => omega
        case rel => exact ⟨i + 1, by omega, rfl, HP2, hN, sb⟩
       ·have hf1 := hFl i
        have hf2 := HB.out.lt i hlt
        (repeat ((fail_if_success with_reducible refine rg ?_); go_step))
        refine wp_region_qw (by kernel_rfl) (by kernel_rfl) ?_
        refine qw_move (by rfl) rfl rfl ?_
        simp only [Act.put, pu]
        refine qw_move (by rfl) rfl rfl ?_
        simp only [Act.put, pu]
        refine qw_value (by rfl) (.pointer (some ⟨gx, 0 + i * 4, none⟩)) ((exec_index_s 34 _ _ rfl gx 0 n cx rfl i rfl hlt _ Tryz.underlying34 4 size_nat4)) ?_
        simp only [Act.put, pu]
        refine qw_loadmR (by rfl) 26 _ rfl _ (0 + i * 4) rfl rX (natC (F' i)) hxt' _ Tryz.underlying26 rfl size_nat ?_
        simp only [Act.put, pu]
        refine qw_move (by rfl) rfl rfl ?_
        simp only [Act.put, pu]
        refine qw_move (by rfl) rfl rfl ?_
        simp only [Act.put, pu]
        refine qw_value (by rfl) (.pointer (some ⟨gb, ob + i * 4, none⟩)) ((exec_index_s 34 _ _ rfl gb ob n ca rfl i rfl hlt _ Tryz.underlying34 4 size_nat4)) ?_
        simp only [Act.put, pu]
        refine qw_loadmR (by rfl) 26 _ rfl _ (ob + i * 4) rfl rB (natC (f i)) hbt' _ Tryz.underlying26 rfl size_nat ?_
        simp only [Act.put, pu]
        refine qw_value (by rfl) (.bool true) ((fun w' => (exec_neq_nat _ _ _ rfl (F' i) (f i) rfl rfl w').trans (by rw [neq_yes _ _ hf1 hf2 he]))) ?_
        simp only [Act.put, pu]
        refine qw_nil ?_
        intro w6 hqb
        replace sb := below_on sb (Nat.le_refl _) hqb
        clear hqb
        clear rB rX hbt' hxt'
        (repeat ((fail_if_success with_reducible refine rg ?_); go_step))
        refine wp_region_pw ?_
        refine pw_move (by rfl) (.inr rfl) rfl ?_
        simp only [Act.put, pu]
        refine pw_value (by rfl) (.bool false) (fun _ => rfl) ?_
        simp only [Act.put, pu]
        refine pw_value (by rfl) (.int .i64 4) (fun _ => rfl) ?_
        simp only [Act.put, pu]
        refine pw_nil ?_
        go_wp2
        go_ret3
        obtain ⟨e1, e2, e3⟩ := tk_none (tkR_not (by rw [HV.out.1, HV.out.2]; exact fun hc => he ((HQ.out.2 hc).2 i hlt).symm))
        exact ⟨by rw [e1, e2, e3]; rfl, sb⟩
    ·skip
     (repeat ((fail_if_success with_reducible refine rg ?_); go_step))
     refine wp_region_pw ?_
     refine pw_mv (by rfl) rfl rfl ?_
     simp only [Act.put, pu]
     refine pw_value (by rfl) (.bool false) (exec_neq_k .i64 _ _ _ _ rfl 0 0 rfl rfl false rfl) ?_
     simp only [Act.put, pu]
     refine pw_mv (by rfl) rfl rfl ?_
     simp only [Act.put, pu]
     refine pw_mv (by rfl) rfl rfl ?_
     simp only [Act.put, pu]
     refine pw_value (by rfl) (.int .i64 m) (exec_len_s 34 _ rfl ax m cx rfl sl_natsX) ?_
     simp only [Act.put, pu]
     refine pw_mv (by rfl) rfl rfl ?_
     simp only [Act.put, pu]
     refine pw_value (by rfl) (.int .i64 n) (exec_len_s 34 _ rfl ab n ca rfl sl_natsX) ?_
     simp only [Act.put, pu]
     refine pw_value (by rfl) (.bool true) (exec_neq_k .i64 _ _ _ _ rfl m n rfl rfl true (by rw [decide_eq_false (by omega)]; rfl)) ?_
     simp only [Act.put, pu]
     refine pw_pick (by rfl) false (v := .bool true) rfl rfl rfl ?_
     simp only [Act.put, pu]
     refine pw_nil ?_
     (repeat ((fail_if_success with_reducible refine rg ?_); go_step))
     refine wp_region_pw ?_
     refine pw_move (by rfl) (.inr rfl) rfl ?_
     simp only [Act.put, pu]
     refine pw_value (by rfl) (.bool false) (fun _ => rfl) ?_
     simp only [Act.put, pu]
     refine pw_value (by rfl) (.int .i64 4) (fun _ => rfl) ?_
     simp only [Act.put, pu]
     refine pw_nil ?_
     go_wp2
     go_ret3
     obtain ⟨e1, e2, e3⟩ := tk_none (tkR_not (by rw [HV.out.1, HV.out.2]; exact fun hc => hnm (HQ.out.2 hc).1))
     exact ⟨by rw [e1, e2, e3]; rfl, sb⟩
   ·have HW : Hid (tdT J = true ∧ (J.take (min Y J.length)).drop 1 = tdV J) := by
     show tdT J = true ∧ (J.take (min Y J.length)).drop 1 = tdV J
     rw [← hY]
     exact td_yes (by rw [hY]; exact hY0)
    (repeat ((fail_if_success with_reducible refine rg ?_); go_step))
    refine wp_region_qw (by kernel_rfl) (by kernel_rfl) ?_
    refine qw_move (by rfl) rfl rfl ?_
    simp only [Act.put, pu]
    refine qw_value (by rfl) (.int .u8 (Y : Nat)) ((fun w' => (y_index _ _ _ rfl Tryz.underlying9 J rfl .i64 0 rfl hJ0 w').trans (by rw [hY]))) ?_
    simp only [Act.put, pu]
    refine qw_value (by rfl) (.bool true) ((y_gt8 _ _ _ _ rfl (Y : Nat) 0 rfl rfl true (decide_eq_true (by omega)))) ?_
    simp only [Act.put, pu]
    refine qw_value (by rfl) (.string ⟨([] : List UInt8).toArray⟩) (fun _ => rfl) ?_
    simp only [Act.put, pu]
    refine qw_asg (by rfl) rfl rfl ?_
    simp only [Act.put, pu]
    refine qw_nil ?_
    intro w7 hqb
    replace r2 := r2.belowAll hqb
    replace sb := below_on sb (Nat.le_refl _) hqb
    clear hqb
    (repeat ((fail_if_success with_reducible refine rg ?_); go_step))
    refine wp_region_pw ?_
    refine pw_mv (by rfl) rfl rfl ?_
    simp only [Act.put, pu]
    refine pw_nil ?_
    by_cases hYl : J.length < Y
    ·(repeat ((fail_if_success with_reducible refine rg ?_); go_step))
     refine wp_region_pw ?_
     refine pw_mv (by rfl) rfl rfl ?_
     simp only [Act.put, pu]
     refine pw_value (by rfl) (.int .u8 (Y : Nat)) ((fun w' => (y_index _ _ _ rfl Tryz.underlying9 J rfl .i64 0 rfl hJ0 w').trans (by rw [hY]))) ?_
     simp only [Act.put, pu]
     refine pw_value (by rfl) (.int .i64 (Y : Nat)) (y_conv _ _ _ rfl .u8 .i64 Tryz.underlying5 Tryz.underlying3 (Y : Nat) _ rfl (by rw [IntKind.wrap_i64]; omega)) ?_
     simp only [Act.put, pu]
     refine pw_mv (by rfl) rfl rfl ?_
     simp only [Act.put, pu]
     refine pw_value (by rfl) (.int .i64 J.length) (y_lenS _ _ rfl J rfl Tryz.underlying9) ?_
     simp only [Act.put, pu]
     refine pw_value (by rfl) (.bool true) (exec_gt_i _ _ _ _ rfl Y J.length rfl rfl true (decide_eq_true (by omega))) ?_
     simp only [Act.put, pu]
     refine pw_mv (by rfl) rfl rfl ?_
     simp only [Act.put, pu]
     refine pw_skip (by rfl) ?_
     simp only [Act.put, pu]
     refine pw_skip (by rfl) ?_
     simp only [Act.put, pu]
     refine pw_skip (by rfl) ?_
     simp only [Act.put, pu]
     refine pw_pick (by rfl) true (v := .bool true) rfl rfl rfl ?_
     simp only [Act.put, pu]
     refine pw_nil ?_
     (repeat ((fail_if_success with_reducible refine rg ?_); go_step))
     refine wp_region_pw ?_
     refine pw_move (by rfl) (.inr rfl) rfl ?_
     simp only [Act.put, pu]
     refine pw_value (by rfl) (.bool false) (fun _ => rfl) ?_
     simp only [Act.put, pu]
     refine pw_value (by rfl) (.int .i64 4) (fun _ => rfl) ?_
     simp only [Act.put, pu]
     refine pw_nil ?_
     go_wp2
     go_ret3
     obtain ⟨e1, e2, e3⟩ := tk_none (tkR_over hz (.inl (by rw [HJJ.out, show (J.getD 0 0).toNat = Y from hY]; exact hYl)))
     exact ⟨by rw [e1, e2, e3]; rfl, sb⟩
    by_cases hY25 : 25 < Y
    ·(repeat ((fail_if_success with_reducible refine rg ?_); go_step))
     refine wp_region_pw ?_
     refine pw_mv (by rfl) rfl rfl ?_
     simp only [Act.put, pu]
     refine pw_value (by rfl) (.int .u8 (Y : Nat)) ((fun w' => (y_index _ _ _ rfl Tryz.underlying9 J rfl .i64 0 rfl hJ0 w').trans (by rw [hY]))) ?_
     simp only [Act.put, pu]
     refine pw_value (by rfl) (.int .i64 (Y : Nat)) (y_conv _ _ _ rfl .u8 .i64 Tryz.underlying5 Tryz.underlying3 (Y : Nat) _ rfl (by rw [IntKind.wrap_i64]; omega)) ?_
     simp only [Act.put, pu]
     refine pw_mv (by rfl) rfl rfl ?_
     simp only [Act.put, pu]
     refine pw_value (by rfl) (.int .i64 J.length) (y_lenS _ _ rfl J rfl Tryz.underlying9) ?_
     simp only [Act.put, pu]
     refine pw_value (by rfl) (.bool false) (exec_gt_i _ _ _ _ rfl Y J.length rfl rfl false (decide_eq_false (by omega))) ?_
     simp only [Act.put, pu]
     refine pw_mv (by rfl) rfl rfl ?_
     simp only [Act.put, pu]
     refine pw_mv (by rfl) rfl rfl ?_
     simp only [Act.put, pu]
     refine pw_value (by rfl) (.int .u8 (Y : Nat)) ((fun w' => (y_index _ _ _ rfl Tryz.underlying9 J rfl .i64 0 rfl hJ0 w').trans (by rw [hY]))) ?_
     simp only [Act.put, pu]
     refine pw_value (by rfl) (.bool true) (y_gt8 _ _ _ _ rfl (Y : Nat) 25 rfl rfl true (decide_eq_true (by omega))) ?_
     simp only [Act.put, pu]
     refine pw_pick (by rfl) false (v := .bool true) rfl rfl rfl ?_
     simp only [Act.put, pu]
     refine pw_nil ?_
     (repeat ((fail_if_success with_reducible refine rg ?_); go_step))
     refine wp_region_pw ?_
     refine pw_move (by rfl) (.inr rfl) rfl ?_
     simp only [Act.put, pu]
     refine pw_value (by rfl) (.bool false) (fun _ => rfl) ?_
     simp only [Act.put, pu]
     refine pw_value (by rfl) (.int .i64 4) (fun _ => rfl) ?_
     simp only [Act.put, pu]
     refine pw_nil ?_
     go_wp2
     go_ret3
     obtain ⟨e1, e2, e3⟩ := tk_none (tkR_over hz (.inr (by rw [HJJ.out, show (J.getD 0 0).toNat = Y from hY]; exact hY25)))
     exact ⟨by rw [e1, e2, e3]; rfl, sb⟩
    (repeat ((fail_if_success with_reducible refine rg ?_); go_step))
    refine wp_region_pw ?_
    refine pw_mv (by rfl) rfl rfl ?_
    simp only [Act.put, pu]
    refine pw_value (by rfl) (.int .u8 (Y : Nat)) ((fun w' => (y_index _ _ _ rfl Tryz.underlying9 J rfl .i64 0 rfl hJ0 w').trans (by rw [hY]))) ?_
    simp only [Act.put, pu]
    refine pw_value (by rfl) (.int .i64 (Y : Nat)) (y_conv _ _ _ rfl .u8 .i64 Tryz.underlying5 Tryz.underlying3 (Y : Nat) _ rfl (by rw [IntKind.wrap_i64]; omega)) ?_
    simp only [Act.put, pu]
    refine pw_mv (by rfl) rfl rfl ?_
    simp only [Act.put, pu]
    refine pw_value (by rfl) (.int .i64 J.length) (y_lenS _ _ rfl J rfl Tryz.underlying9) ?_
    simp only [Act.put, pu]
    refine pw_value (by rfl) (.bool false) (exec_gt_i _ _ _ _ rfl Y J.length rfl rfl false (decide_eq_false (by omega))) ?_
    simp only [Act.put, pu]
    refine pw_mv (by rfl) rfl rfl ?_
    simp only [Act.put, pu]
    refine pw_mv (by rfl) rfl rfl ?_
    simp only [Act.put, pu]
    refine pw_value (by rfl) (.int .u8 (Y : Nat)) ((fun w' => (y_index _ _ _ rfl Tryz.underlying9 J rfl .i64 0 rfl hJ0 w').trans (by rw [hY]))) ?_
    simp only [Act.put, pu]
    refine pw_value (by rfl) (.bool false) (y_gt8 _ _ _ _ rfl (Y : Nat) 25 rfl rfl false (decide_eq_false (by omega))) ?_
    simp only [Act.put, pu]
    refine pw_pick (by rfl) false (v := .bool false) rfl rfl rfl ?_
    simp only [Act.put, pu]
    refine pw_nil ?_
    obtain ⟨hW1, hW2⟩ := HW.out
    rw [Nat.min_eq_left (by omega)] at hW2
    have hVl : (tdV J).length ≤ 24 := by
     rw [← hW2, List.length_drop, List.length_take]
     omega
    obtain ⟨V, hV⟩ : ∃ V, tdV J = V := ⟨_, rfl⟩
    rw [hV] at hW2 hVl
    have HV : Hid (tdT (jn z f n) = true ∧ tdV (jn z f n) = V) := by
     show tdT (jn z f n) = true ∧ tdV (jn z f n) = V
     rw [HJJ.out]
     exact ⟨hW1, hV⟩
    clear hW1 hV HW
    (repeat ((fail_if_success with_reducible refine rg ?_); go_step))
    refine wp_region_pw ?_
    refine pw_mv (by rfl) rfl rfl ?_
    simp only [Act.put, pu]
    refine pw_mv (by rfl) rfl rfl ?_
    simp only [Act.put, pu]
    refine pw_value (by rfl) (.int .u8 (Y : Nat)) ((fun w' => (y_index _ _ _ rfl Tryz.underlying9 J rfl .i64 0 rfl hJ0 w').trans (by rw [hY]))) ?_
    simp only [Act.put, pu]
    refine pw_value (by rfl) (.string ⟨(V).toArray⟩) (y_mid8 _ _ _ _ Tryz.underlying9 rfl J 1 Y rfl rfl rfl (by omega) (by omega) _ hW2) ?_
    simp only [Act.put, pu]
    refine pw_as (by rfl) rfl rfl ?_
    simp only [Act.put, pu]
    refine pw_nil ?_
    clear hW2
    have hpu := fun w' (hb : Below w.heap.size w w') => rput_any pa pn pc G z V true w' hz hz2 (fun _ => hVl) (h.below hb)
    have HM : Hid (pN (ckL V true).length z = pN (ckL V true).length z ∧ ∀ i, ckF (ckL V true) z i < 2 ^ 256) := ⟨rfl, fun i => ckF_256 _ _ hz2⟩
    have HC : Hid (∀ m F', pN (ckL V true).length z = m → ckF (ckL V true) z = F' → (n = m ∧ (∀ k, k < n → f k = F' k) ↔ ckIs z n f V true)) := by
     intro m F' hm hF
     subst hm
     subst hF
     exact ⟨fun h => ⟨hVl, h.1, h.2⟩, fun h => ⟨h.2.1, h.2.2⟩⟩
    generalize hm : pN (ckL V true).length z = m at *
    generalize hF : ckF (ckL V true) z = F' at *
    have HQ : Hid (n = m ∧ (∀ k, k < n → f k = F' k) ↔ ckIs z n f V true) := HC.out m F' rfl rfl
    have hFl := HM.out.2
    clear HC HM hm hF
    (repeat ((fail_if_success with_reducible refine rg ?_); go_step))
    refine wp_region_pw ?_
    refine pw_loadm (by rfl) 28 _ rfl _ 0 rfl r2.r _ (part_all _) _ Tryz.underlying28 rfl size_pa ?_
    simp only [Act.put, pu]
    refine pw_mv (by rfl) rfl rfl ?_
    simp only [Act.put, pu]
    refine pw_mv (by rfl) rfl rfl ?_
    simp only [Act.put, pu]
    refine pw_callE (by rfl) 10 _ _ rfl Tryz.func10 (by kernel_rfl) #[.agg (paC pa pn pc G), .string ⟨(V).toArray⟩, .bool true] rfl (hpu _ sb) ?_
    rintro _ z19003 ⟨vl, rfl, hX, hb⟩
    refine ⟨_, rfl, ?_⟩
    simp only [Act.put, pu]
    have ehXx2 := hX.low r2.lt
    have k := Kept.ofBelow hb
    clear hb
    replace r2 := k.row r2 (by simp <;> omega)
    replace sb := sb.trans (k.below w.heap.size sb.size (by simp <;> omega))
    clear k
    refine pw_mv (by rfl) rfl rfl ?_
    simp only [Act.put, pu]
    refine pw_ext (by rfl) rfl rfl rfl ?_
    simp only [Act.put, pu]
    refine pw_ext (by rfl) rfl rfl rfl ?_
    simp only [Act.put, pu]
    refine pw_as (by rfl) rfl rfl ?_
    simp only [Act.put, pu]
    refine pw_as (by rfl) rfl rfl ?_
    simp only [Act.put, pu]
    refine pw_nil ?_
    obtain ⟨ax, cx, rfl⟩ := own_shape hX
    obtain ⟨_, gx, curx, hN⟩ := ownN_nats hX (fun i _ => hFl i)
    clear hX ehXx2 hpu r2
    by_cases hnm : n = m
    ·obtain rfl := hnm
     (repeat ((fail_if_success with_reducible refine rg ?_); go_step))
     refine wp_region_pw ?_
     refine pw_mv (by rfl) rfl rfl ?_
     simp only [Act.put, pu]
     refine pw_value (by rfl) (.bool false) (exec_neq_k .i64 _ _ _ _ rfl 0 0 rfl rfl false rfl) ?_
     simp only [Act.put, pu]
     refine pw_mv (by rfl) rfl rfl ?_
     simp only [Act.put, pu]
     refine pw_mv (by rfl) rfl rfl ?_
     simp only [Act.put, pu]
     refine pw_value (by rfl) (.int .i64 n) (exec_len_s 34 _ rfl ax n cx rfl sl_natsX) ?_
     simp only [Act.put, pu]
     refine pw_mv (by rfl) rfl rfl ?_
     simp only [Act.put, pu]
     refine pw_value (by rfl) (.int .i64 n) (exec_len_s 34 _ rfl ab n ca rfl sl_natsX) ?_
     simp only [Act.put, pu]
     refine pw_value (by rfl) (.bool false) (exec_neq_k .i64 _ _ _ _ rfl n n rfl rfl false (by rw [decide_eq_true rfl]; rfl)) ?_
     simp only [Act.put, pu]
     refine pw_pick (by rfl) false (v := .bool false) rfl rfl rfl ?_
     simp only [Act.put, pu]
     refine pw_nil ?_
     (repeat ((fail_if_success with_reducible refine rg ?_); go_step))
     refine wp_region_pw ?_
     refine pw_value (by rfl) (.int .i64 0) (fun _ => rfl) ?_
     simp only [Act.put, pu]
     refine pw_nil ?_
     go_wp2_with fail
     go_loopg [16] n (fun g s16 wr => ∃ i : Nat, i + g = n ∧ s16 = .int .i64 i ∧ Hid (∀ k, k < i → f k = F' k) ∧ NatsAt wr ax n F' gx 0 curx 26 ∧ Below w.heap.size w wr)
     case atStart => exact ⟨0, by omega, rfl, (show ∀ k, k < 0 → f k = F' k from fun k hk => by omega), hN, sb⟩
     case round =>
      clear hN sb
      obtain ⟨i, hi, rfl, HP, hN, sb⟩ := hrel
      cases gk with
      | zero =>
       obtain rfl : i = n := by omega
       (repeat ((fail_if_success with_reducible refine rg ?_); go_step))
       refine wp_region_pw ?_
       refine pw_mv (by rfl) rfl rfl ?_
       simp only [Act.put, pu]
       refine pw_mv (by rfl) rfl rfl ?_
       simp only [Act.put, pu]
       refine pw_value (by rfl) (.int .i64 i) (exec_len_s 34 _ rfl ab i ca rfl sl_natsX) ?_
       simp only [Act.put, pu]
       refine pw_value (by rfl) (.bool false) (exec_lt_b _ _ _ _ rfl i i rfl rfl false (decide_eq_false (Int.lt_irrefl _))) ?_
       simp only [Act.put, pu]
       refine pw_mv (by rfl) rfl rfl ?_
       simp only [Act.put, pu]
       refine pw_skip (by rfl) ?_
       simp only [Act.put, pu]
       refine pw_skip (by rfl) ?_
       simp only [Act.put, pu]
       refine pw_skip (by rfl) ?_
       simp only [Act.put, pu]
       refine pw_skip (by rfl) ?_
       simp only [Act.put, pu]
       refine pw_pick (by rfl) false (v := .bool false) rfl rfl rfl ?_
       simp only [Act.put, pu]
       refine pw_nil ?_
       (repeat ((fail_if_success with_reducible refine rg ?_); go_step))
       refine wp_region_pw ?_
       refine pw_mv (by rfl) rfl rfl ?_
       simp only [Act.put, pu]
       refine pw_mv (by rfl) rfl rfl ?_
       simp only [Act.put, pu]
       refine pw_as (by rfl) rfl rfl ?_
       simp only [Act.put, pu]
       refine pw_as (by rfl) rfl rfl ?_
       simp only [Act.put, pu]
       refine pw_value (by rfl) (.int .i64 0) (fun _ => rfl) ?_
       simp only [Act.put, pu]
       refine pw_nil ?_
       go_wp2
       go_ret3
       have hyes : tkR z i f = some (V, true) := tkR_of hz (HQ.out.1 ⟨by first | trivial | rfl, HP.out⟩) (fun ht => HV.out.2.symm.trans (tdV_no (HV.out.1.trans ht)))
       obtain ⟨e1, e2, e3⟩ := tk_some hyes
       exact ⟨by rw [e1, e2, e3]; rfl, sb⟩
      | succ g =>
       have hlt : i < n := by omega
       (repeat ((fail_if_success with_reducible refine rg ?_); go_step))
       refine wp_region_pw ?_
       refine pw_mv (by rfl) rfl rfl ?_
       simp only [Act.put, pu]
       refine pw_mv (by rfl) rfl rfl ?_
       simp only [Act.put, pu]
       refine pw_value (by rfl) (.int .i64 n) (exec_len_s 34 _ rfl ab n ca rfl sl_natsX) ?_
       simp only [Act.put, pu]
       refine pw_value (by rfl) (.bool true) (exec_lt_b _ _ _ _ rfl i n rfl rfl true (decide_eq_true (by omega))) ?_
       simp only [Act.put, pu]
       refine pw_mv (by rfl) rfl rfl ?_
       simp only [Act.put, pu]
       refine pw_mv (by rfl) rfl rfl ?_
       simp only [Act.put, pu]
       refine pw_mv (by rfl) rfl rfl ?_
       simp only [Act.put, pu]
       refine pw_value (by rfl) (.int .i64 n) (exec_len_s 34 _ rfl ax n cx rfl sl_natsX) ?_
       simp only [Act.put, pu]
       refine pw_value (by rfl) (.bool true) (exec_lt_b _ _ _ _ rfl i n rfl rfl true (decide_eq_true (by omega))) ?_
       simp only [Act.put, pu]
       refine pw_pick (by rfl) true (v := .bool true) rfl rfl rfl ?_
       simp only [Act.put, pu]
       refine pw_nil ?_
       obtain h0 | ⟨rfl, rB, hbt⟩ := (HB.out.below sb).at'
       ·exact absurd h0 (by omega)
       obtain h0 | ⟨rfl, rX, hxt⟩ := hN.at'
       ·exact absurd h0 (by omega)
       have hbt' := hbt i hlt
       have hxt' := hxt i hlt
       clear hbt hxt
       by_cases he : F' i = f i
       ·have HP2 : Hid (∀ k, k < i + 1 → f k = F' k) := fun k hk => by
         by_cases hki : k = i
         ·subst hki; exact he.symm
         ·exact HP.out k (by omega)
        clear HP
        (repeat ((fail_if_success with_reducible refine rg ?_); go_step))
        refine wp_region_qw (by kernel_rfl) (by kernel_rfl) ?_
        refine qw_move (by rfl) rfl rfl ?_
        simp only [Act.put, pu]
        refine qw_move (by rfl) rfl rfl ?_
        simp only [Act.put, pu]
        refine qw_value (by rfl) (.pointer (some ⟨gx, 0 + i * 4, none⟩)) ((exec_index_s 34 _ _ rfl gx 0 n cx rfl i rfl hlt _ Tryz.underlying34 4 size_nat4)) ?_
        simp only [Act.put, pu]
        refine qw_loadmR (by rfl) 26 _ rfl _ (0 + i * 4) rfl rX (natC (F' i)) hxt' _ Tryz.underlying26 rfl size_nat ?_
        simp only [Act.put, pu]
        refine qw_move (by rfl) rfl rfl ?_
        simp only [Act.put, pu]
        refine qw_move (by rfl) rfl rfl ?_
        simp only [Act.put, pu]
        refine qw_value (by rfl) (.pointer (some ⟨gb, ob + i * 4, none⟩)) ((exec_index_s 34 _ _ rfl gb ob n ca rfl i rfl hlt _ Tryz.underlying34 4 size_nat4)) ?_
        simp only [Act.put, pu]
        refine qw_loadmR (by rfl) 26 _ rfl _ (ob + i * 4) rfl rB (natC (f i)) hbt' _ Tryz.underlying26 rfl size_nat ?_
        simp only [Act.put, pu]
        refine qw_value (by rfl) (.bool false) ((fun w' => (exec_neq_nat _ _ _ rfl (F' i) (f i) rfl rfl w').trans (by rw [he, neq_no]))) ?_
        simp only [Act.put, pu]
        refine qw_nil ?_
        intro w6 hqb
        replace hN := hN.belowAll hqb
        replace sb := below_on sb (Nat.le_refl _) hqb
        clear hqb
        clear rB rX hbt' hxt'
        (repeat ((fail_if_success with_reducible refine rg ?_); go_step))
        refine wp_region_pw ?_
        refine pw_mv (by rfl) rfl rfl ?_
        simp only [Act.put, pu]
        refine pw_value (by rfl) (.int .i64 ((i + 1 : Nat) : Int)) (exec_add_in _ _ _ _ rfl i 1 rfl rfl (by omega)) ?_
        simp only [Act.put, pu]
        refine pw_as (by rfl) rfl rfl ?_
        simp only [Act.put, pu]
        refine pw_nil ?_
        go_wp2
        go_roundg g
        case measure => omega
        case rel => exact ⟨i + 1, by omega, rfl, HP2, hN, sb⟩
       ·have hf1 := hFl i
        have hf2 := HB.out.lt i hlt
        (repeat ((fail_if_success with_reducible refine rg ?_); go_step))
        refine wp_region_qw (by kernel_rfl) (by kernel_rfl) ?_
        refine qw_move (by rfl) rfl rfl ?_
        simp only [Act.put, pu]
        refine qw_move (by rfl) rfl rfl ?_
        simp only [Act.put, pu]
        refine qw_value (by rfl) (.pointer (some ⟨gx, 0 + i * 4, none⟩)) ((exec_index_s 34 _ _ rfl gx 0 n cx rfl i rfl hlt _ Tryz.underlying34 4 size_nat4)) ?_
        simp only [Act.put, pu]
        refine qw_loadmR (by rfl) 26 _ rfl _ (0 + i * 4) rfl rX (natC (F' i)) hxt' _ Tryz.underlying26 rfl size_nat ?_
        simp only [Act.put, pu]
        refine qw_move (by rfl) rfl rfl ?_
        simp only [Act.put, pu]
        refine qw_move (by rfl) rfl rfl ?_
        simp only [Act.put, pu]
        refine qw_value (by rfl) (.pointer (some ⟨gb, ob + i * 4, none⟩)) ((exec_index_s 34 _ _ rfl gb ob n ca rfl i rfl hlt _ Tryz.underlying34 4 size_nat4)) ?_
        simp only [Act.put, pu]
        refine qw_loadmR (by rfl) 26 _ rfl _ (ob + i * 4) rfl rB (natC (f i)) hbt' _ Tryz.underlying26 rfl size_nat ?_
        simp only [Act.put, pu]
        refine qw_value (by rfl) (.bool true) ((fun w' => (exec_neq_nat _ _ _ rfl (F' i) (f i) rfl rfl w').trans (by rw [neq_yes _ _ hf1 hf2 he]))) ?_
        simp only [Act.put, pu]
        refine qw_nil ?_
        intro w6 hqb
        replace sb := below_on sb (Nat.le_refl _) hqb
        clear hqb
        clear rB rX hbt' hxt'
        (repeat ((fail_if_success with_reducible refine rg ?_); go_step))
        refine wp_region_pw ?_
        refine pw_move (by rfl) (.inr rfl) rfl ?_
        simp only [Act.put, pu]
        refine pw_value (by rfl) (.bool false) (fun _ => rfl) ?_
        simp only [Act.put, pu]
        refine pw_value (by rfl) (.int .i64 4) (fun _ => rfl) ?_
        simp only [Act.put, pu]
        refine pw_nil ?_
        go_wp2
        go_ret3
        obtain ⟨e1, e2, e3⟩ := tk_none (tkR_not (by rw [HV.out.1, HV.out.2]; exact fun hc => he ((HQ.out.2 hc).2 i hlt).symm))
        exact ⟨by rw [e1, e2, e3]; rfl, sb⟩
    ·skip
     (repeat ((fail_if_success with_reducible refine rg ?_); go_step))
     refine wp_region_pw ?_
     refine pw_mv (by rfl) rfl rfl ?_
     simp only [Act.put, pu]
     refine pw_value (by rfl) (.bool false) (exec_neq_k .i64 _ _ _ _ rfl 0 0 rfl rfl false rfl) ?_
     simp only [Act.put, pu]
     refine pw_mv (by rfl) rfl rfl ?_
     simp only [Act.put, pu]
     refine pw_mv (by rfl) rfl rfl ?_
     simp only [Act.put, pu]
     refine pw_value (by rfl) (.int .i64 m) (exec_len_s 34 _ rfl ax m cx rfl sl_natsX) ?_
     simp only [Act.put, pu]
     refine pw_mv (by rfl) rfl rfl ?_
     simp only [Act.put, pu]
     refine pw_value (by rfl) (.int .i64 n) (exec_len_s 34 _ rfl ab n ca rfl sl_natsX) ?_
     simp only [Act.put, pu]
     refine pw_value (by rfl) (.bool true) (exec_neq_k .i64 _ _ _ _ rfl m n rfl rfl true (by rw [decide_eq_false (by omega)]; rfl)) ?_
     simp only [Act.put, pu]
     refine pw_pick (by rfl) false (v := .bool true) rfl rfl rfl ?_
     simp only [Act.put, pu]
     refine pw_nil ?_
     (repeat ((fail_if_success with_reducible refine rg ?_); go_step))
     refine wp_region_pw ?_
     refine pw_move (by rfl) (.inr rfl) rfl ?_
     simp only [Act.put, pu]
     refine pw_value (by rfl) (.bool false) (fun _ => rfl) ?_
     simp only [Act.put, pu]
     refine pw_value (by rfl) (.int .i64 4) (fun _ => rfl) ?_
     simp only [Act.put, pu]
     refine pw_nil ?_
     go_wp2
     go_ret3
     obtain ⟨e1, e2, e3⟩ := tk_none (tkR_not (by rw [HV.out.1, HV.out.2]; exact fun hc => hnm (HQ.out.2 hc).1))
     exact ⟨by rw [e1, e2, e3]; rfl, sb⟩
  | succ g =>
   have hlt : i < n := by omega
   have hfi := HB.out.lt i hlt
   have hJl := HL.out i hlt
   have hle := fun w' => rlen_any (f i) w' hfi
   obtain h0 | ⟨rfl, rB, hbt⟩ := (HB.out.below sb).at'
   ·exact absurd h0 (by omega)
   have hbt' := hbt i hlt
   clear hbt
   (repeat ((fail_if_success with_reducible refine rg ?_); go_step))
   refine wp_region_pw ?_
   refine pw_mv (by rfl) rfl rfl ?_
   simp only [Act.put, pu]
   refine pw_mv (by rfl) rfl rfl ?_
   simp only [Act.put, pu]
   refine pw_value (by rfl) (.int .i64 n) (exec_len_s 34 _ rfl (some ⟨gb, ob, none⟩) n ca rfl sl_natsX) ?_
   simp only [Act.put, pu]
   refine pw_value (by rfl) (.bool true) (exec_lt_b _ _ _ _ rfl i n rfl rfl true (decide_eq_true (by omega))) ?_
   simp only [Act.put, pu]
   refine pw_mv (by rfl) rfl rfl ?_
   simp only [Act.put, pu]
   refine pw_mv (by rfl) rfl rfl ?_
   simp only [Act.put, pu]
   refine pw_value (by rfl) (.bool true) (exec_lt_b _ _ _ _ rfl i 30 rfl rfl true (decide_eq_true (by omega))) ?_
   simp only [Act.put, pu]
   refine pw_pick (by rfl) true (v := .bool true) rfl rfl rfl ?_
   simp only [Act.put, pu]
   refine pw_nil ?_
   by_cases hbig : f i < 2 ^ (8 * z)
   ·have hBL := bitLen_le (f i) (8 * z) hbig
    have hfl := flz_fit hbig
    have HA2 : Hid (∀ k, k < i + 1 → f k < 2 ^ (8 * z)) := fun k hk => by
     by_cases hki : k = i
     ·subst hki; exact hbig
     ·exact HA.out k (by omega)
    clear HA hbig
    generalize bitLen (f i) = BL at *
    (repeat ((fail_if_success with_reducible refine rg ?_); go_step))
    refine wp_region_qw (by kernel_rfl) (by kernel_rfl) ?_
    refine qw_move (by rfl) rfl rfl ?_
    simp only [Act.put, pu]
    refine qw_move (by rfl) rfl rfl ?_
    simp only [Act.put, pu]
    refine qw_value (by rfl) (.pointer (some ⟨gb, ob + i * 4, none⟩)) ((exec_index_s 34 _ _ rfl gb ob n ca rfl i rfl hlt _ Tryz.underlying34 4 size_nat4)) ?_
    simp only [Act.put, pu]
    refine qw_loadmR (by rfl) 26 _ rfl _ (ob + i * 4) rfl rB (natC (f i)) hbt' _ Tryz.underlying26 rfl size_nat ?_
    simp only [Act.put, pu]
    refine qw_call (by rfl) 38 _ _ rfl Tryz.func38 (by kernel_rfl) #[.agg (natC (f i))] rfl _ hle ?_
    simp only [Act.put, pu]
    refine qw_loadm (by rfl) 28 _ rfl _ (0) rfl r2 (paC pa pn pc G) (part_all _) _ Tryz.underlying28 rfl size_pa ?_
    simp only [Act.put, pu]
    refine qw_callK (by rfl) 30 _ _ rfl Tryz.func30 (by kernel_rfl) #[.agg (paC pa pn pc G)] rfl _ (fun w' hb => h w' (below_on sb (Nat.le_refl _) hb)) ?_
    simp only [Act.put, pu]
    refine qw_value (by rfl) (.int .i64 ((8 * z : Nat) : Int)) ((exec_mul_in _ _ _ _ rfl 8 z (8 * z) rfl rfl rfl (by omega))) ?_
    simp only [Act.put, pu]
    refine qw_value (by rfl) (.bool false) ((exec_gt_i _ _ _ _ rfl BL (8 * z : Nat) rfl rfl false (decide_eq_false (by omega)))) ?_
    simp only [Act.put, pu]
    refine qw_nil ?_
    intro w6 hqb
    replace r2 := r2.belowAll hqb
    replace sb := below_on sb (Nat.le_refl _) hqb
    clear hqb
    clear rB
    (repeat ((fail_if_success with_reducible refine rg ?_); go_step))
    refine wp_region_pw ?_
    refine pw_loadm (by rfl) 28 _ rfl _ 0 rfl r2.r _ (part_all _) _ Tryz.underlying28 rfl size_pa ?_
    simp only [Act.put, pu]
    refine pw_callB (by rfl) 30 _ _ rfl Tryz.func30 (by kernel_rfl) #[.agg (paC pa pn pc G)] rfl _ (h _ sb) ?_
    intro z7001 k
    simp only [Act.put, pu]
    replace r2 := k.row r2 (by simp <;> omega)
    replace sb := sb.trans (k.below w.heap.size sb.size (by simp <;> omega))
    clear k
    refine pw_value (by rfl) (.int .i64 ((z - 1 : Nat) : Int)) (exec_sub_in _ _ _ _ rfl z 1 rfl rfl (by omega) (by omega)) ?_
    simp only [Act.put, pu]
    refine pw_as (by rfl) rfl rfl ?_
    simp only [Act.put, pu]
    refine pw_nil ?_
    go_wp2_with fail
    go_loopg [7, 9, 10, 11] z (fun gg s7 s9 s10 s11 wr2 => ∃ j : Nat, j + gg = z ∧ s9 = .int .i64 ((z : Int) - 1 - (j : Int)) ∧ s7 = .string ⟨(jn z f i ++ (bytesL (f i) z).take j).toArray⟩ ∧ Row wr2 g2 (paC pa pn pc G) 28 ∧ Below w.heap.size w wr2)
    case atStart => exact ⟨0, by omega, by rw [show ((z : Int) - 1 - ((0 : Nat) : Int)) = ((z - 1 : Nat) : Int) by omega], by rw [List.take_zero, List.append_nil], r2, sb⟩
    case round =>
     clear r2 sb
     obtain ⟨j, hj, rfl, rfl, r2, sb⟩ := hrel
     cases gk with
     | zero =>
      obtain rfl : j = z := by omega
      (repeat ((fail_if_success with_reducible refine rg ?_); go_step))
      refine wp_region_pw ?_
      refine pw_mv (by rfl) rfl rfl ?_
      simp only [Act.put, pu]
      refine pw_value (by rfl) (.bool false) (exec_geq_i _ _ _ _ rfl ((j : Int) - 1 - (j : Int)) 0 rfl rfl false (decide_eq_false (by omega))) ?_
      simp only [Act.put, pu]
      refine pw_nil ?_
      (repeat ((fail_if_success with_reducible refine rg ?_); go_step))
      refine wp_region_pw ?_
      refine pw_mv (by rfl) rfl rfl ?_
      simp only [Act.put, pu]
      refine pw_value (by rfl) (.int .i64 ((i + 1 : Nat) : Int)) (exec_add_in _ _ _ _ rfl i 1 rfl rfl (by omega)) ?_
      simp only [Act.put, pu]
      refine pw_as (by rfl) rfl rfl ?_
      simp only [Act.put, pu]
      refine pw_nil ?_
      go_wp2
      go_roundg g
      case measure => omega
      case rel => exact ⟨i + 1, by omega, rfl, by rw [jn, hfl, List.take_of_length_le (by rw [bytesL_length]; exact Nat.le_refl _)], HA2, r2, sb⟩
     | succ gg =>
      have hjz : j < z := by omega
      obtain ⟨K, hK⟩ : ∃ K : Nat, K + j + 1 = z := ⟨z - 1 - j, by omega⟩
      rw [show (z : Int) - 1 - (j : Int) = (K : Int) by omega]
      have hbl : ((bytesL (f i) z).take j).length = j := by rw [List.length_take, bytesL_length]; omega
      have hsn := bytesL_snoc (f i) z j hjz
      rw [show z - 1 - j = K by omega] at hsn
      have hup := fun w' => rup_any (f i) ((256 - 8 * K - 8 : Nat) : Int) w'
      rw [Int.toNat_natCast, ← natC_full (f i * 2 ^ (256 - 8 * K - 8))] at hup
      have hmod := Nat.mod_lt (f i * 2 ^ (256 - 8 * K - 8)) (Nat.two_pow_pos 256)
      have hdo := fun w' => rdown_any (f i * 2 ^ (256 - 8 * K - 8) % 2 ^ 256) 248 w' hmod
      rw [show (248 : Int).toNat = 248 from rfl, byt_updown (f i) K (by omega)] at hdo
      have hC := byt_lt (f i) K
      have hlo := fun w' => rlow_any (byt (f i) K) w' (Nat.lt_trans hC (by decide))
      rw [show lowI (byt (f i) K) = ((byt (f i) K : Nat) : Int) from if_pos (by omega), show lowB (byt (f i) K) = true from decide_eq_true (by omega)] at hlo
      clear hmod
      generalize f i * 2 ^ (256 - 8 * K - 8) % 2 ^ 256 = X at *
      generalize byt (f i) K = C at *
      obtain h0 | ⟨_, rB, _⟩ := (HB.out.below sb).at'
      ·exact absurd h0 (by omega)
      (repeat ((fail_if_success with_reducible refine rg ?_); go_step))
      refine wp_region_pw ?_
      refine pw_mv (by rfl) rfl rfl ?_
      simp only [Act.put, pu]
      refine pw_value (by rfl) (.bool true) (exec_geq_i _ _ _ _ rfl (K : Int) 0 rfl rfl true (decide_eq_true (by omega))) ?_
      simp only [Act.put, pu]
      refine pw_nil ?_
      (repeat ((fail_if_success with_reducible refine rg ?_); go_step))
      refine wp_region_pw ?_
      refine pw_mv (by rfl) rfl rfl ?_
      simp only [Act.put, pu]
      refine pw_mv (by rfl) rfl rfl ?_
      simp only [Act.put, pu]
      refine pw_value (by rfl) (.pointer (some ⟨gb, ob + i * 4, none⟩)) ((exec_index_s 34 _ _ rfl gb ob n ca rfl i rfl hlt _ Tryz.underlying34 4 size_nat4)) ?_
      simp only [Act.put, pu]
      refine pw_loadm (by rfl) 26 _ rfl _ (ob + i * 4) rfl rB (natC (f i)) hbt' _ Tryz.underlying26 rfl size_nat ?_
      simp only [Act.put, pu]
      refine pw_mv (by rfl) rfl rfl ?_
      simp only [Act.put, pu]
      refine pw_value (by rfl) (.int .i64 ((8 * K : Nat) : Int)) (exec_mul_in _ _ _ _ rfl 8 K (8 * K) rfl rfl rfl (by omega)) ?_
      simp only [Act.put, pu]
      refine pw_value (by rfl) (.int .i64 ((256 - 8 * K : Nat) : Int)) (exec_sub_in _ _ _ _ rfl 256 (8 * K) rfl rfl (by omega) (by omega)) ?_
      simp only [Act.put, pu]
      refine pw_value (by rfl) (.int .i64 ((256 - 8 * K - 8 : Nat) : Int)) (exec_sub_in _ _ _ _ rfl (256 - 8 * K) 8 rfl rfl (by omega) (by omega)) ?_
      simp only [Act.put, pu]
      refine pw_callB (by rfl) 33 _ _ rfl Tryz.func33 (by kernel_rfl) #[.agg (natC (f i)), .int .i64 ((256 - 8 * K - 8 : Nat) : Int)] rfl _ (hup _) ?_
      intro z10008 k
      simp only [Act.put, pu]
      replace r2 := k.row r2 (by simp <;> omega)
      replace sb := sb.trans (k.below w.heap.size sb.size (by simp <;> omega))
      clear k
      refine pw_callB (by rfl) 40 _ _ rfl Tryz.func40 (by kernel_rfl) #[.agg (natC X), .int .i64 248] rfl _ (hdo _) ?_
      intro z10009 k
      simp only [Act.put, pu]
      replace r2 := k.row r2 (by simp <;> omega)
      replace sb := sb.trans (k.below w.heap.size sb.size (by simp <;> omega))
      clear k
      refine pw_callB (by rfl) 39 _ _ rfl Tryz.func39 (by kernel_rfl) #[.agg (natC C)] rfl _ (hlo _) ?_
      intro z10010 k
      simp only [Act.put, pu]
      replace r2 := k.row r2 (by simp <;> omega)
      replace sb := sb.trans (k.below w.heap.size sb.size (by simp <;> omega))
      clear k
      refine pw_mv (by rfl) rfl rfl ?_
      simp only [Act.put, pu]
      refine pw_ext (by rfl) rfl rfl rfl ?_
      simp only [Act.put, pu]
      refine pw_ext (by rfl) rfl rfl rfl ?_
      simp only [Act.put, pu]
      refine pw_as (by rfl) rfl rfl ?_
      simp only [Act.put, pu]
      refine pw_as (by rfl) rfl rfl ?_
      simp only [Act.put, pu]
      refine pw_nil ?_
      clear rB hup hdo hlo
      (repeat ((fail_if_success with_reducible refine rg ?_); go_step))
      refine wp_region_pw ?_
      refine pw_mv (by rfl) rfl rfl ?_
      simp only [Act.put, pu]
      refine pw_mv (by rfl) rfl rfl ?_
      simp only [Act.put, pu]
      refine pw_value (by rfl) (.int .u8 (C : Nat)) (y_conv _ _ _ rfl .i64 .u8 Tryz.underlying3 Tryz.underlying5 (C : Nat) _ rfl (wr8k _ hC)) ?_
      simp only [Act.put, pu]
      refine pw_litr (by rfl) 64 5 1 _ rfl #[.int .u8 (C : Nat)] ie _ Tryz.underlying64 hie hze hs1 hs2 [(0, .int .u8 (C : Nat))] rfl (lit_b1 _ _ hsz) ?_
      intro gB z11003 n0 rB k
      simp only [Act.put, pu]
      have d2xB := Nat.lt_of_lt_of_le r2.lt n0
      have bB := Nat.le_trans sb.size n0
      clear n0
      replace r2 := k.row r2 (by simp <;> omega)
      replace sb := sb.trans (k.below w.heap.size sb.size (by simp <;> omega))
      clear k
      refine pw_run (by rfl) (.string ⟨([UInt8.ofNat C]).toArray⟩) _ (y_str _ rfl gB 0 1 1 [UInt8.ofNat C] rfl rfl _ rB.r (cell_b1 _ hC)) ?_
      simp only [Act.put, pu]
      refine pw_value (by rfl) (.string ⟨(jn z f i ++ (bytesL (f i) z).take (j + 1)).toArray⟩) (fun w' => (y_cat _ _ _ _ rfl (jn z f i ++ (bytesL (f i) z).take j) [UInt8.ofNat C] rfl rfl (by rw [List.length_append, hbl]; simp; omega) w').trans (by rw [List.append_assoc, hsn])) ?_
      simp only [Act.put, pu]
      refine pw_as (by rfl) rfl rfl ?_
      simp only [Act.put, pu]
      refine pw_nil ?_
      clear rB hsn
      (repeat ((fail_if_success with_reducible refine rg ?_); go_step))
      refine wp_region_pw ?_
      refine pw_mv (by rfl) rfl rfl ?_
      simp only [Act.put, pu]
      refine pw_value (by rfl) (.int .i64 ((z : Int) - 1 - ((j + 1 : Nat) : Int))) (y_subI _ _ _ _ rfl (K : Int) 1 _ rfl rfl (by rw [IntKind.wrap_i64]; omega)) ?_
      simp only [Act.put, pu]
      refine pw_as (by rfl) rfl rfl ?_
      simp only [Act.put, pu]
      refine pw_nil ?_
      go_wp2
      go_roundg gg
      case measure => omega
      case rel => exact ⟨j + 1, by omega, rfl, rfl, r2, sb⟩
   ·have hBL : ¬ bitLen (f i) ≤ 8 * z := fun hb => hbig (lt_bitLen (f i) (8 * z) hb)
    have HG : Hid (¬ f i < 2 ^ (8 * z)) := hbig
    clear hbig HA
    generalize bitLen (f i) = BL at *
    (repeat ((fail_if_success with_reducible refine rg ?_); go_step))
    refine wp_region_qw (by kernel_rfl) (by kernel_rfl) ?_
    refine qw_move (by rfl) rfl rfl ?_
    simp only [Act.put, pu]
    refine qw_move (by rfl) rfl rfl ?_
    simp only [Act.put, pu]
    refine qw_value (by rfl) (.pointer (some ⟨gb, ob + i * 4, none⟩)) ((exec_index_s 34 _ _ rfl gb ob n ca rfl i rfl hlt _ Tryz.underlying34 4 size_nat4)) ?_
    simp only [Act.put, pu]
    refine qw_loadmR (by rfl) 26 _ rfl _ (ob + i * 4) rfl rB (natC (f i)) hbt' _ Tryz.underlying26 rfl size_nat ?_
    simp only [Act.put, pu]
    refine qw_call (by rfl) 38 _ _ rfl Tryz.func38 (by kernel_rfl) #[.agg (natC (f i))] rfl _ hle ?_
    simp only [Act.put, pu]
    refine qw_loadm (by rfl) 28 _ rfl _ (0) rfl r2 (paC pa pn pc G) (part_all _) _ Tryz.underlying28 rfl size_pa ?_
    simp only [Act.put, pu]
    refine qw_callK (by rfl) 30 _ _ rfl Tryz.func30 (by kernel_rfl) #[.agg (paC pa pn pc G)] rfl _ (fun w' hb => h w' (below_on sb (Nat.le_refl _) hb)) ?_
    simp only [Act.put, pu]
    refine qw_value (by rfl) (.int .i64 ((8 * z : Nat) : Int)) ((exec_mul_in _ _ _ _ rfl 8 z (8 * z) rfl rfl rfl (by omega))) ?_
    simp only [Act.put, pu]
    refine qw_value (by rfl) (.bool true) ((exec_gt_i _ _ _ _ rfl BL (8 * z : Nat) rfl rfl true (decide_eq_true (by omega)))) ?_
    simp only [Act.put, pu]
    refine qw_nil ?_
    intro w6 hqb
    replace sb := below_on sb (Nat.le_refl _) hqb
    clear hqb
    clear rB
    (repeat ((fail_if_success with_reducible refine rg ?_); go_step))
    refine wp_region_pw ?_
    refine pw_move (by rfl) (.inr rfl) rfl ?_
    simp only [Act.put, pu]
    refine pw_value (by rfl) (.bool false) (fun _ => rfl) ?_
    simp only [Act.put, pu]
    refine pw_value (by rfl) (.int .i64 4) (fun _ => rfl) ?_
    simp only [Act.put, pu]
    refine pw_nil ?_
    go_wp2
    go_ret3
    obtain ⟨e1, e2, e3⟩ := tk_none (tkR_big hlt HG.out)
    exact ⟨by rw [e1, e2, e3]; rfl, sb⟩
end Go.Proofs.YtdemabfpcepnfaaGreatDoor
