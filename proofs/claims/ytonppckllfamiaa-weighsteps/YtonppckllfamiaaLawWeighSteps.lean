/- WeighSteps: for the floats of any two bits: Steps answers as the document says, Next is one step further, and nothing stands between; no condition. -/
import Derived.Test.YtonppckllfamiaaWgAwake
import Derived.Test.YtonppckllfamiaaWgOpen
namespace Go.Proofs.Ytonppckllfamiaa
open Go.ChangeShapes Go.WideShapes Go.ChangeAt Go.RowKit
set_option linter.unusedVariables false
set_option linter.unusedSectionVars false
set_option linter.unusedSimpArgs false
namespace weighStepsP
theorem nx_facts {a : Nat} (ha : a < 18446744073709551616) (hn : nn a = false) (hi : a ≠ 9218868437227405312) : nxt a < 18446744073709551616 ∧ nn (nxt a) = false ∧ rnk (nxt a) = rnk a + 1 := by
 have e : nxt a = ofr (rnk a + 1) := by unfold nxt; rw [if_neg (by rw [hn]; simp [hi])]
 have h1 := (rnk_lt ha).1
 have h2 := (rnk_lt ha).2.1 hn
 have h3 : rnk a ≠ 9218868437227405312 := fun h => hi (rnk_inj ha (by decide) hn (h.trans (by decide)))
 rw [e]
 exact ⟨ofr_lt (by omega) (by omega), ofr_nn (by omega) (by omega), ofr_rnk (by omega) (by omega)⟩
theorem nx_same {a : Nat} (h : nn a = true ∨ a = 9218868437227405312) : nxt a = a := if_pos h
theorem sme_self (a : Nat) : sme a a = true := by unfold sme; simp
set_option maxRecDepth 100000 in
set_option maxHeartbeats 2000000 in
theorem walk (a b : Nat) (w : World) (ha : a < 18446744073709551616) (hb : b < 18446744073709551616) :
  Calls Try.prog 6 #[.int .u64 (a : Nat), .int .u64 (b : Nat)] w fun e w' => e = .returned (.bool true) ∧ Below w.heap.size w w' := by
 have hN := fun w' => next_any a ha w'
 have hS := fun w' => steps_any a b ha hb w'
 have hT := fun w' => rsteps_any a b ha hb w'
 have hI := fun w' => same_any a 9218868437227405312 w'
 have hM := fun w' => same_any a a w'
 rw [sme_self] at hM
 generalize stz a b = sz at *
 generalize stb a b = sk at *
 cases hn : nn a with
 | true =>
  rw [nx_same (.inl hn)] at hN
  go_enter Try.func6, Try.ntmps6
  have sb := sbmk w
  (repeat ((fail_if_success with_reducible refine rg ?_); go_step))
  refine wp_region_pw ?_
  refine pw_value (by rfl) (.bool false) (fun _ => rfl) ?_
  simp only [Act.put, pu]
  refine pw_nil ?_
  (repeat ((fail_if_success with_reducible refine rg ?_); go_step))
  refine wp_region_pw ?_
  refine pw_mv (by rfl) rfl rfl ?_
  simp only [Act.put, pu]
  refine pw_callB (by rfl) 7 _ _ rfl Try.func7 (by kernel_rfl) #[.int .u64 (a : Nat)] rfl _ (of_any a _) ?_
  intro z1001 k
  simp only [Act.put, pu]
  replace sb := sb.trans (k.below w.heap.size sb.size (by simp <;> omega))
  clear k
  refine pw_mv (by rfl) rfl rfl ?_
  simp only [Act.put, pu]
  refine pw_callB (by rfl) 7 _ _ rfl Try.func7 (by kernel_rfl) #[.int .u64 (b : Nat)] rfl _ (of_any b _) ?_
  intro z1003 k
  simp only [Act.put, pu]
  replace sb := sb.trans (k.below w.heap.size sb.size (by simp <;> omega))
  clear k
  refine pw_as (by rfl) rfl rfl ?_
  simp only [Act.put, pu]
  refine pw_as (by rfl) rfl rfl ?_
  simp only [Act.put, pu]
  refine pw_nil ?_
  (repeat ((fail_if_success with_reducible refine rg ?_); go_step))
  refine wp_region_pw ?_
  refine pw_mv (by rfl) rfl rfl ?_
  simp only [Act.put, pu]
  refine pw_callB (by rfl) 19 _ _ rfl Try.func19 (by kernel_rfl) #[.float .f64 a] rfl _ (hN _) ?_
  intro z2001 k
  simp only [Act.put, pu]
  replace sb := sb.trans (k.below w.heap.size sb.size (by simp <;> omega))
  clear k
  refine pw_as (by rfl) rfl rfl ?_
  simp only [Act.put, pu]
  refine pw_nil ?_
  (repeat ((fail_if_success with_reducible refine rg ?_); go_step))
  refine wp_region_pw ?_
  refine pw_mv (by rfl) rfl rfl ?_
  simp only [Act.put, pu]
  refine pw_mv (by rfl) rfl rfl ?_
  simp only [Act.put, pu]
  refine pw_callB (by rfl) 20 _ _ rfl Try.func20 (by kernel_rfl) #[.float .f64 a, .float .f64 b] rfl _ (hS _) ?_
  intro z3002 k
  simp only [Act.put, pu]
  replace sb := sb.trans (k.below w.heap.size sb.size (by simp <;> omega))
  clear k
  refine pw_mv (by rfl) rfl rfl ?_
  simp only [Act.put, pu]
  refine pw_ext (by rfl) rfl rfl rfl ?_
  simp only [Act.put, pu]
  refine pw_ext (by rfl) rfl rfl rfl ?_
  simp only [Act.put, pu]
  refine pw_as (by rfl) rfl rfl ?_
  simp only [Act.put, pu]
  refine pw_as (by rfl) rfl rfl ?_
  simp only [Act.put, pu]
  refine pw_nil ?_
  (repeat ((fail_if_success with_reducible refine rg ?_); go_step))
  refine wp_region_pw ?_
  refine pw_mv (by rfl) rfl rfl ?_
  simp only [Act.put, pu]
  refine pw_mv (by rfl) rfl rfl ?_
  simp only [Act.put, pu]
  refine pw_callB (by rfl) 21 _ _ rfl Try.func21 (by kernel_rfl) #[.float .f64 a, .float .f64 b] rfl _ (hT _) ?_
  intro z4002 k
  simp only [Act.put, pu]
  replace sb := sb.trans (k.below w.heap.size sb.size (by simp <;> omega))
  clear k
  refine pw_mv (by rfl) rfl rfl ?_
  simp only [Act.put, pu]
  refine pw_ext (by rfl) rfl rfl rfl ?_
  simp only [Act.put, pu]
  refine pw_ext (by rfl) rfl rfl rfl ?_
  simp only [Act.put, pu]
  refine pw_as (by rfl) rfl rfl ?_
  simp only [Act.put, pu]
  refine pw_as (by rfl) rfl rfl ?_
  simp only [Act.put, pu]
  refine pw_nil ?_
  (repeat ((fail_if_success with_reducible refine rg ?_); go_step))
  refine wp_region_pw ?_
  refine pw_mv (by rfl) rfl rfl ?_
  simp only [Act.put, pu]
  refine pw_mv (by rfl) rfl rfl ?_
  simp only [Act.put, pu]
  refine pw_value (by rfl) (.bool false) (exec_neq_k .i64 _ _ _ _ rfl sz sz rfl rfl false (by rw [decide_eq_true rfl]; rfl)) ?_
  simp only [Act.put, pu]
  refine pw_mv (by rfl) rfl rfl ?_
  simp only [Act.put, pu]
  refine pw_mv (by rfl) rfl rfl ?_
  simp only [Act.put, pu]
  refine pw_mv (by rfl) rfl rfl ?_
  simp only [Act.put, pu]
  refine pw_value (by rfl) (.bool false) (x_nb _ _ _ _ rfl sk sk rfl rfl false (by rw [decide_eq_true rfl]; rfl) Try.underlying4) ?_
  simp only [Act.put, pu]
  refine pw_pick (by rfl) false (v := .bool false) rfl rfl rfl ?_
  simp only [Act.put, pu]
  refine pw_nil ?_
  (repeat ((fail_if_success with_reducible refine rg ?_); go_step))
  refine wp_region_pw ?_
  refine pw_mv (by rfl) rfl rfl ?_
  simp only [Act.put, pu]
  refine pw_mv (by rfl) rfl rfl ?_
  simp only [Act.put, pu]
  refine pw_value (by rfl) (.bool true) (x_fneq _ _ _ _ rfl a a rfl rfl true ((neq_self a).trans hn)) ?_
  simp only [Act.put, pu]
  refine pw_mv (by rfl) rfl rfl ?_
  simp only [Act.put, pu]
  refine pw_skip (by rfl) ?_
  simp only [Act.put, pu]
  refine pw_skip (by rfl) ?_
  simp only [Act.put, pu]
  refine pw_skip (by rfl) ?_
  simp only [Act.put, pu]
  refine pw_pick (by rfl) true (v := .bool true) rfl rfl rfl ?_
  simp only [Act.put, pu]
  refine pw_nil ?_
  (repeat ((fail_if_success with_reducible refine rg ?_); go_step))
  refine wp_region_pw ?_
  refine pw_mv (by rfl) rfl rfl ?_
  simp only [Act.put, pu]
  refine pw_mv (by rfl) rfl rfl ?_
  simp only [Act.put, pu]
  refine pw_callB (by rfl) 22 _ _ rfl Try.func22 (by kernel_rfl) #[.float .f64 a, .float .f64 a] rfl _ (hM _) ?_
  intro z8002 k
  simp only [Act.put, pu]
  replace sb := sb.trans (k.below w.heap.size sb.size (by simp <;> omega))
  clear k
  refine pw_mv (by rfl) rfl rfl ?_
  simp only [Act.put, pu]
  refine pw_callB (by rfl) 12 _ _ rfl Try.func12 (by kernel_rfl) #[] rfl _ (awake_any _) ?_
  intro z8004 k
  simp only [Act.put, pu]
  replace sb := sb.trans (k.below w.heap.size sb.size (by simp <;> omega))
  clear k
  refine pw_pick (by rfl) true (v := .bool true) rfl rfl rfl ?_
  simp only [Act.put, pu]
  refine pw_as (by rfl) rfl rfl ?_
  simp only [Act.put, pu]
  refine pw_nil ?_
  go_wp2
  go_ret
  exact ⟨rfl, sb⟩
 | false =>
  by_cases hi : a = 9218868437227405312
  ·rw [nx_same (.inr hi)] at hN
   rw [show sme a 9218868437227405312 = true by rw [hi]; exact sme_self _] at hI
   clear hi
   go_enter Try.func6, Try.ntmps6
   have sb := sbmk w
   (repeat ((fail_if_success with_reducible refine rg ?_); go_step))
   refine wp_region_pw ?_
   refine pw_value (by rfl) (.bool false) (fun _ => rfl) ?_
   simp only [Act.put, pu]
   refine pw_nil ?_
   (repeat ((fail_if_success with_reducible refine rg ?_); go_step))
   refine wp_region_pw ?_
   refine pw_mv (by rfl) rfl rfl ?_
   simp only [Act.put, pu]
   refine pw_callB (by rfl) 7 _ _ rfl Try.func7 (by kernel_rfl) #[.int .u64 (a : Nat)] rfl _ (of_any a _) ?_
   intro z1001 k
   simp only [Act.put, pu]
   replace sb := sb.trans (k.below w.heap.size sb.size (by simp <;> omega))
   clear k
   refine pw_mv (by rfl) rfl rfl ?_
   simp only [Act.put, pu]
   refine pw_callB (by rfl) 7 _ _ rfl Try.func7 (by kernel_rfl) #[.int .u64 (b : Nat)] rfl _ (of_any b _) ?_
   intro z1003 k
   simp only [Act.put, pu]
   replace sb := sb.trans (k.below w.heap.size sb.size (by simp <;> omega))
   clear k
   refine pw_as (by rfl) rfl rfl ?_
   simp only [Act.put, pu]
   refine pw_as (by rfl) rfl rfl ?_
   simp only [Act.put, pu]
   refine pw_nil ?_
   (repeat ((fail_if_success with_reducible refine rg ?_); go_step))
   refine wp_region_pw ?_
   refine pw_mv (by rfl) rfl rfl ?_
   simp only [Act.put, pu]
   refine pw_callB (by rfl) 19 _ _ rfl Try.func19 (by kernel_rfl) #[.float .f64 a] rfl _ (hN _) ?_
   intro z2001 k
   simp only [Act.put, pu]
   replace sb := sb.trans (k.below w.heap.size sb.size (by simp <;> omega))
   clear k
   refine pw_as (by rfl) rfl rfl ?_
   simp only [Act.put, pu]
   refine pw_nil ?_
   (repeat ((fail_if_success with_reducible refine rg ?_); go_step))
   refine wp_region_pw ?_
   refine pw_mv (by rfl) rfl rfl ?_
   simp only [Act.put, pu]
   refine pw_mv (by rfl) rfl rfl ?_
   simp only [Act.put, pu]
   refine pw_callB (by rfl) 20 _ _ rfl Try.func20 (by kernel_rfl) #[.float .f64 a, .float .f64 b] rfl _ (hS _) ?_
   intro z3002 k
   simp only [Act.put, pu]
   replace sb := sb.trans (k.below w.heap.size sb.size (by simp <;> omega))
   clear k
   refine pw_mv (by rfl) rfl rfl ?_
   simp only [Act.put, pu]
   refine pw_ext (by rfl) rfl rfl rfl ?_
   simp only [Act.put, pu]
   refine pw_ext (by rfl) rfl rfl rfl ?_
   simp only [Act.put, pu]
   refine pw_as (by rfl) rfl rfl ?_
   simp only [Act.put, pu]
   refine pw_as (by rfl) rfl rfl ?_
   simp only [Act.put, pu]
   refine pw_nil ?_
   (repeat ((fail_if_success with_reducible refine rg ?_); go_step))
   refine wp_region_pw ?_
   refine pw_mv (by rfl) rfl rfl ?_
   simp only [Act.put, pu]
   refine pw_mv (by rfl) rfl rfl ?_
   simp only [Act.put, pu]
   refine pw_callB (by rfl) 21 _ _ rfl Try.func21 (by kernel_rfl) #[.float .f64 a, .float .f64 b] rfl _ (hT _) ?_
   intro z4002 k
   simp only [Act.put, pu]
   replace sb := sb.trans (k.below w.heap.size sb.size (by simp <;> omega))
   clear k
   refine pw_mv (by rfl) rfl rfl ?_
   simp only [Act.put, pu]
   refine pw_ext (by rfl) rfl rfl rfl ?_
   simp only [Act.put, pu]
   refine pw_ext (by rfl) rfl rfl rfl ?_
   simp only [Act.put, pu]
   refine pw_as (by rfl) rfl rfl ?_
   simp only [Act.put, pu]
   refine pw_as (by rfl) rfl rfl ?_
   simp only [Act.put, pu]
   refine pw_nil ?_
   (repeat ((fail_if_success with_reducible refine rg ?_); go_step))
   refine wp_region_pw ?_
   refine pw_mv (by rfl) rfl rfl ?_
   simp only [Act.put, pu]
   refine pw_mv (by rfl) rfl rfl ?_
   simp only [Act.put, pu]
   refine pw_value (by rfl) (.bool false) (exec_neq_k .i64 _ _ _ _ rfl sz sz rfl rfl false (by rw [decide_eq_true rfl]; rfl)) ?_
   simp only [Act.put, pu]
   refine pw_mv (by rfl) rfl rfl ?_
   simp only [Act.put, pu]
   refine pw_mv (by rfl) rfl rfl ?_
   simp only [Act.put, pu]
   refine pw_mv (by rfl) rfl rfl ?_
   simp only [Act.put, pu]
   refine pw_value (by rfl) (.bool false) (x_nb _ _ _ _ rfl sk sk rfl rfl false (by rw [decide_eq_true rfl]; rfl) Try.underlying4) ?_
   simp only [Act.put, pu]
   refine pw_pick (by rfl) false (v := .bool false) rfl rfl rfl ?_
   simp only [Act.put, pu]
   refine pw_nil ?_
   (repeat ((fail_if_success with_reducible refine rg ?_); go_step))
   refine wp_region_pw ?_
   refine pw_mv (by rfl) rfl rfl ?_
   simp only [Act.put, pu]
   refine pw_mv (by rfl) rfl rfl ?_
   simp only [Act.put, pu]
   refine pw_value (by rfl) (.bool false) (x_fneq _ _ _ _ rfl a a rfl rfl false ((neq_self a).trans hn)) ?_
   simp only [Act.put, pu]
   refine pw_mv (by rfl) rfl rfl ?_
   simp only [Act.put, pu]
   refine pw_mv (by rfl) rfl rfl ?_
   simp only [Act.put, pu]
   refine pw_callB (by rfl) 7 _ _ rfl Try.func7 (by kernel_rfl) #[.int .u64 9218868437227405312] rfl _ (of_any 9218868437227405312 _) ?_
   intro z7005 k
   simp only [Act.put, pu]
   replace sb := sb.trans (k.below w.heap.size sb.size (by simp <;> omega))
   clear k
   refine pw_callB (by rfl) 22 _ _ rfl Try.func22 (by kernel_rfl) #[.float .f64 a, .float .f64 9218868437227405312] rfl _ (hI _) ?_
   intro z7006 k
   simp only [Act.put, pu]
   replace sb := sb.trans (k.below w.heap.size sb.size (by simp <;> omega))
   clear k
   refine pw_pick (by rfl) false (v := .bool true) rfl rfl rfl ?_
   simp only [Act.put, pu]
   refine pw_nil ?_
   (repeat ((fail_if_success with_reducible refine rg ?_); go_step))
   refine wp_region_pw ?_
   refine pw_mv (by rfl) rfl rfl ?_
   simp only [Act.put, pu]
   refine pw_mv (by rfl) rfl rfl ?_
   simp only [Act.put, pu]
   refine pw_callB (by rfl) 22 _ _ rfl Try.func22 (by kernel_rfl) #[.float .f64 a, .float .f64 a] rfl _ (hM _) ?_
   intro z8002 k
   simp only [Act.put, pu]
   replace sb := sb.trans (k.below w.heap.size sb.size (by simp <;> omega))
   clear k
   refine pw_mv (by rfl) rfl rfl ?_
   simp only [Act.put, pu]
   refine pw_callB (by rfl) 12 _ _ rfl Try.func12 (by kernel_rfl) #[] rfl _ (awake_any _) ?_
   intro z8004 k
   simp only [Act.put, pu]
   replace sb := sb.trans (k.below w.heap.size sb.size (by simp <;> omega))
   clear k
   refine pw_pick (by rfl) true (v := .bool true) rfl rfl rfl ?_
   simp only [Act.put, pu]
   refine pw_as (by rfl) rfl rfl ?_
   simp only [Act.put, pu]
   refine pw_nil ?_
   go_wp2
   go_ret
   exact ⟨rfl, sb⟩
  ·obtain ⟨n1, n2, n3⟩ := nx_facts ha hn hi
   rw [show sme a 9218868437227405312 = false by unfold sme; rw [hn, decide_eq_false hi]; rfl] at hI
   have hO := fun w' => steps_any a (nxt a) ha n1 w'
   have hb2 : stb a (nxt a) = true := by rw [stb_is hn n2, n3]; exact decide_eq_true (by omega)
   rw [st_yes hb2, hb2, n3, show rnk a + 1 - rnk a = 1 by omega] at hO
   have hC := fun w' => cmp_any a (nxt a) ha n1 w'
   have hD := fun w' => cmp_any a b ha hb w'
   have hE := fun w' => cmp_any (nxt a) b n1 hb w'
   rw [n3] at hC hE
   rw [show cpz (rnk a) (rnk a + 1) = -1 from if_pos (by omega)] at hC
   generalize nxt a = c at *
   clear n1 n2 n3 hb2 hi
   generalize rnk a = x at *
   generalize rnk b = y at *
   by_cases hxy : x < y
   ·have g1 : ¬ (0 ≤ cpz x y) := by have := (cpz_lt x y).2 hxy; omega
    have g2 : cpz (x + 1) y ≤ 0 := by unfold cpz; split <;> (try split) <;> omega
    go_enter Try.func6, Try.ntmps6
    have sb := sbmk w
    (repeat ((fail_if_success with_reducible refine rg ?_); go_step))
    refine wp_region_pw ?_
    refine pw_value (by rfl) (.bool false) (fun _ => rfl) ?_
    simp only [Act.put, pu]
    refine pw_nil ?_
    (repeat ((fail_if_success with_reducible refine rg ?_); go_step))
    refine wp_region_pw ?_
    refine pw_mv (by rfl) rfl rfl ?_
    simp only [Act.put, pu]
    refine pw_callB (by rfl) 7 _ _ rfl Try.func7 (by kernel_rfl) #[.int .u64 (a : Nat)] rfl _ (of_any a _) ?_
    intro z1001 k
    simp only [Act.put, pu]
    replace sb := sb.trans (k.below w.heap.size sb.size (by simp <;> omega))
    clear k
    refine pw_mv (by rfl) rfl rfl ?_
    simp only [Act.put, pu]
    refine pw_callB (by rfl) 7 _ _ rfl Try.func7 (by kernel_rfl) #[.int .u64 (b : Nat)] rfl _ (of_any b _) ?_
    intro z1003 k
    simp only [Act.put, pu]
    replace sb := sb.trans (k.below w.heap.size sb.size (by simp <;> omega))
    clear k
    refine pw_as (by rfl) rfl rfl ?_
    simp only [Act.put, pu]
    refine pw_as (by rfl) rfl rfl ?_
    simp only [Act.put, pu]
    refine pw_nil ?_
    (repeat ((fail_if_success with_reducible refine rg ?_); go_step))
    refine wp_region_pw ?_
    refine pw_mv (by rfl) rfl rfl ?_
    simp only [Act.put, pu]
    refine pw_callB (by rfl) 19 _ _ rfl Try.func19 (by kernel_rfl) #[.float .f64 a] rfl _ (hN _) ?_
    intro z2001 k
    simp only [Act.put, pu]
    replace sb := sb.trans (k.below w.heap.size sb.size (by simp <;> omega))
    clear k
    refine pw_as (by rfl) rfl rfl ?_
    simp only [Act.put, pu]
    refine pw_nil ?_
    (repeat ((fail_if_success with_reducible refine rg ?_); go_step))
    refine wp_region_pw ?_
    refine pw_mv (by rfl) rfl rfl ?_
    simp only [Act.put, pu]
    refine pw_mv (by rfl) rfl rfl ?_
    simp only [Act.put, pu]
    refine pw_callB (by rfl) 20 _ _ rfl Try.func20 (by kernel_rfl) #[.float .f64 a, .float .f64 b] rfl _ (hS _) ?_
    intro z3002 k
    simp only [Act.put, pu]
    replace sb := sb.trans (k.below w.heap.size sb.size (by simp <;> omega))
    clear k
    refine pw_mv (by rfl) rfl rfl ?_
    simp only [Act.put, pu]
    refine pw_ext (by rfl) rfl rfl rfl ?_
    simp only [Act.put, pu]
    refine pw_ext (by rfl) rfl rfl rfl ?_
    simp only [Act.put, pu]
    refine pw_as (by rfl) rfl rfl ?_
    simp only [Act.put, pu]
    refine pw_as (by rfl) rfl rfl ?_
    simp only [Act.put, pu]
    refine pw_nil ?_
    (repeat ((fail_if_success with_reducible refine rg ?_); go_step))
    refine wp_region_pw ?_
    refine pw_mv (by rfl) rfl rfl ?_
    simp only [Act.put, pu]
    refine pw_mv (by rfl) rfl rfl ?_
    simp only [Act.put, pu]
    refine pw_callB (by rfl) 21 _ _ rfl Try.func21 (by kernel_rfl) #[.float .f64 a, .float .f64 b] rfl _ (hT _) ?_
    intro z4002 k
    simp only [Act.put, pu]
    replace sb := sb.trans (k.below w.heap.size sb.size (by simp <;> omega))
    clear k
    refine pw_mv (by rfl) rfl rfl ?_
    simp only [Act.put, pu]
    refine pw_ext (by rfl) rfl rfl rfl ?_
    simp only [Act.put, pu]
    refine pw_ext (by rfl) rfl rfl rfl ?_
    simp only [Act.put, pu]
    refine pw_as (by rfl) rfl rfl ?_
    simp only [Act.put, pu]
    refine pw_as (by rfl) rfl rfl ?_
    simp only [Act.put, pu]
    refine pw_nil ?_
    (repeat ((fail_if_success with_reducible refine rg ?_); go_step))
    refine wp_region_pw ?_
    refine pw_mv (by rfl) rfl rfl ?_
    simp only [Act.put, pu]
    refine pw_mv (by rfl) rfl rfl ?_
    simp only [Act.put, pu]
    refine pw_value (by rfl) (.bool false) (exec_neq_k .i64 _ _ _ _ rfl sz sz rfl rfl false (by rw [decide_eq_true rfl]; rfl)) ?_
    simp only [Act.put, pu]
    refine pw_mv (by rfl) rfl rfl ?_
    simp only [Act.put, pu]
    refine pw_mv (by rfl) rfl rfl ?_
    simp only [Act.put, pu]
    refine pw_mv (by rfl) rfl rfl ?_
    simp only [Act.put, pu]
    refine pw_value (by rfl) (.bool false) (x_nb _ _ _ _ rfl sk sk rfl rfl false (by rw [decide_eq_true rfl]; rfl) Try.underlying4) ?_
    simp only [Act.put, pu]
    refine pw_pick (by rfl) false (v := .bool false) rfl rfl rfl ?_
    simp only [Act.put, pu]
    refine pw_nil ?_
    (repeat ((fail_if_success with_reducible refine rg ?_); go_step))
    refine wp_region_pw ?_
    refine pw_mv (by rfl) rfl rfl ?_
    simp only [Act.put, pu]
    refine pw_mv (by rfl) rfl rfl ?_
    simp only [Act.put, pu]
    refine pw_value (by rfl) (.bool false) (x_fneq _ _ _ _ rfl a a rfl rfl false ((neq_self a).trans hn)) ?_
    simp only [Act.put, pu]
    refine pw_mv (by rfl) rfl rfl ?_
    simp only [Act.put, pu]
    refine pw_mv (by rfl) rfl rfl ?_
    simp only [Act.put, pu]
    refine pw_callB (by rfl) 7 _ _ rfl Try.func7 (by kernel_rfl) #[.int .u64 9218868437227405312] rfl _ (of_any 9218868437227405312 _) ?_
    intro z7005 k
    simp only [Act.put, pu]
    replace sb := sb.trans (k.below w.heap.size sb.size (by simp <;> omega))
    clear k
    refine pw_callB (by rfl) 22 _ _ rfl Try.func22 (by kernel_rfl) #[.float .f64 a, .float .f64 9218868437227405312] rfl _ (hI _) ?_
    intro z7006 k
    simp only [Act.put, pu]
    replace sb := sb.trans (k.below w.heap.size sb.size (by simp <;> omega))
    clear k
    refine pw_pick (by rfl) false (v := .bool false) rfl rfl rfl ?_
    simp only [Act.put, pu]
    refine pw_nil ?_
    (repeat ((fail_if_success with_reducible refine rg ?_); go_step))
    refine wp_region_pw ?_
    refine pw_mv (by rfl) rfl rfl ?_
    simp only [Act.put, pu]
    refine pw_mv (by rfl) rfl rfl ?_
    simp only [Act.put, pu]
    refine pw_callB (by rfl) 20 _ _ rfl Try.func20 (by kernel_rfl) #[.float .f64 a, .float .f64 c] rfl _ (hO _) ?_
    intro z9002 k
    simp only [Act.put, pu]
    replace sb := sb.trans (k.below w.heap.size sb.size (by simp <;> omega))
    clear k
    refine pw_mv (by rfl) rfl rfl ?_
    simp only [Act.put, pu]
    refine pw_ext (by rfl) rfl rfl rfl ?_
    simp only [Act.put, pu]
    refine pw_ext (by rfl) rfl rfl rfl ?_
    simp only [Act.put, pu]
    refine pw_as (by rfl) rfl rfl ?_
    simp only [Act.put, pu]
    refine pw_as (by rfl) rfl rfl ?_
    simp only [Act.put, pu]
    refine pw_nil ?_
    (repeat ((fail_if_success with_reducible refine rg ?_); go_step))
    refine wp_region_pw ?_
    refine pw_mv (by rfl) rfl rfl ?_
    simp only [Act.put, pu]
    refine pw_mv (by rfl) rfl rfl ?_
    simp only [Act.put, pu]
    refine pw_callB (by rfl) 10 _ _ rfl Try.func10 (by kernel_rfl) #[.float .f64 a, .float .f64 c] rfl _ (hC _) ?_
    intro z10002 k
    simp only [Act.put, pu]
    replace sb := sb.trans (k.below w.heap.size sb.size (by simp <;> omega))
    clear k
    refine pw_value (by rfl) (.bool true) (exec_eql_k .i64 _ _ _ _ rfl (-1) (-1) rfl rfl true (decide_eq_true rfl)) ?_
    simp only [Act.put, pu]
    refine pw_mv (by rfl) rfl rfl ?_
    simp only [Act.put, pu]
    refine pw_mv (by rfl) rfl rfl ?_
    simp only [Act.put, pu]
    refine pw_value (by rfl) (.bool true) (exec_eql_k .i64 _ _ _ _ rfl (1) (1) rfl rfl true (decide_eq_true rfl)) ?_
    simp only [Act.put, pu]
    refine pw_pick (by rfl) true (v := .bool true) rfl rfl rfl ?_
    simp only [Act.put, pu]
    refine pw_mv (by rfl) rfl rfl ?_
    simp only [Act.put, pu]
    refine pw_mv (by rfl) rfl rfl ?_
    simp only [Act.put, pu]
    refine pw_pick (by rfl) true (v := .bool true) rfl rfl rfl ?_
    simp only [Act.put, pu]
    refine pw_mv (by rfl) rfl rfl ?_
    simp only [Act.put, pu]
    refine pw_mv (by rfl) rfl rfl ?_
    simp only [Act.put, pu]
    refine pw_mv (by rfl) rfl rfl ?_
    simp only [Act.put, pu]
    refine pw_callB (by rfl) 10 _ _ rfl Try.func10 (by kernel_rfl) #[.float .f64 a, .float .f64 b] rfl _ (hD _) ?_
    intro z10014 k
    simp only [Act.put, pu]
    replace sb := sb.trans (k.below w.heap.size sb.size (by simp <;> omega))
    clear k
    refine pw_value (by rfl) (.bool false) (exec_geq_i _ _ _ _ rfl (cpz x y) 0 rfl rfl false (decide_eq_false g1)) ?_
    simp only [Act.put, pu]
    refine pw_mv (by rfl) rfl rfl ?_
    simp only [Act.put, pu]
    refine pw_mv (by rfl) rfl rfl ?_
    simp only [Act.put, pu]
    refine pw_mv (by rfl) rfl rfl ?_
    simp only [Act.put, pu]
    refine pw_callB (by rfl) 10 _ _ rfl Try.func10 (by kernel_rfl) #[.float .f64 c, .float .f64 b] rfl _ (hE _) ?_
    intro z10019 k
    simp only [Act.put, pu]
    replace sb := sb.trans (k.below w.heap.size sb.size (by simp <;> omega))
    clear k
    refine pw_value (by rfl) (.bool true) (exec_leq_i _ _ _ _ rfl (cpz (x + 1) y) 0 rfl rfl true (decide_eq_true g2)) ?_
    simp only [Act.put, pu]
    refine pw_pick (by rfl) false (v := .bool true) rfl rfl rfl ?_
    simp only [Act.put, pu]
    refine pw_pick (by rfl) true (v := .bool true) rfl rfl rfl ?_
    simp only [Act.put, pu]
    refine pw_mv (by rfl) rfl rfl ?_
    simp only [Act.put, pu]
    refine pw_callB (by rfl) 12 _ _ rfl Try.func12 (by kernel_rfl) #[] rfl _ (awake_any _) ?_
    intro z10024 k
    simp only [Act.put, pu]
    replace sb := sb.trans (k.below w.heap.size sb.size (by simp <;> omega))
    clear k
    refine pw_pick (by rfl) true (v := .bool true) rfl rfl rfl ?_
    simp only [Act.put, pu]
    refine pw_as (by rfl) rfl rfl ?_
    simp only [Act.put, pu]
    refine pw_nil ?_
    go_wp2
    go_ret
    exact ⟨rfl, sb⟩
   ·have g1 : 0 ≤ cpz x y := by
     rcases Int.lt_or_le (cpz x y) 0 with h | h
     ·exact absurd ((cpz_lt x y).1 h) hxy
     ·exact h
    go_enter Try.func6, Try.ntmps6
    have sb := sbmk w
    (repeat ((fail_if_success with_reducible refine rg ?_); go_step))
    refine wp_region_pw ?_
    refine pw_value (by rfl) (.bool false) (fun _ => rfl) ?_
    simp only [Act.put, pu]
    refine pw_nil ?_
    (repeat ((fail_if_success with_reducible refine rg ?_); go_step))
    refine wp_region_pw ?_
    refine pw_mv (by rfl) rfl rfl ?_
    simp only [Act.put, pu]
    refine pw_callB (by rfl) 7 _ _ rfl Try.func7 (by kernel_rfl) #[.int .u64 (a : Nat)] rfl _ (of_any a _) ?_
    intro z1001 k
    simp only [Act.put, pu]
    replace sb := sb.trans (k.below w.heap.size sb.size (by simp <;> omega))
    clear k
    refine pw_mv (by rfl) rfl rfl ?_
    simp only [Act.put, pu]
    refine pw_callB (by rfl) 7 _ _ rfl Try.func7 (by kernel_rfl) #[.int .u64 (b : Nat)] rfl _ (of_any b _) ?_
    intro z1003 k
    simp only [Act.put, pu]
    replace sb := sb.trans (k.below w.heap.size sb.size (by simp <;> omega))
    clear k
    refine pw_as (by rfl) rfl rfl ?_
    simp only [Act.put, pu]
    refine pw_as (by rfl) rfl rfl ?_
    simp only [Act.put, pu]
    refine pw_nil ?_
    (repeat ((fail_if_success with_reducible refine rg ?_); go_step))
    refine wp_region_pw ?_
    refine pw_mv (by rfl) rfl rfl ?_
    simp only [Act.put, pu]
    refine pw_callB (by rfl) 19 _ _ rfl Try.func19 (by kernel_rfl) #[.float .f64 a] rfl _ (hN _) ?_
    intro z2001 k
    simp only [Act.put, pu]
    replace sb := sb.trans (k.below w.heap.size sb.size (by simp <;> omega))
    clear k
    refine pw_as (by rfl) rfl rfl ?_
    simp only [Act.put, pu]
    refine pw_nil ?_
    (repeat ((fail_if_success with_reducible refine rg ?_); go_step))
    refine wp_region_pw ?_
    refine pw_mv (by rfl) rfl rfl ?_
    simp only [Act.put, pu]
    refine pw_mv (by rfl) rfl rfl ?_
    simp only [Act.put, pu]
    refine pw_callB (by rfl) 20 _ _ rfl Try.func20 (by kernel_rfl) #[.float .f64 a, .float .f64 b] rfl _ (hS _) ?_
    intro z3002 k
    simp only [Act.put, pu]
    replace sb := sb.trans (k.below w.heap.size sb.size (by simp <;> omega))
    clear k
    refine pw_mv (by rfl) rfl rfl ?_
    simp only [Act.put, pu]
    refine pw_ext (by rfl) rfl rfl rfl ?_
    simp only [Act.put, pu]
    refine pw_ext (by rfl) rfl rfl rfl ?_
    simp only [Act.put, pu]
    refine pw_as (by rfl) rfl rfl ?_
    simp only [Act.put, pu]
    refine pw_as (by rfl) rfl rfl ?_
    simp only [Act.put, pu]
    refine pw_nil ?_
    (repeat ((fail_if_success with_reducible refine rg ?_); go_step))
    refine wp_region_pw ?_
    refine pw_mv (by rfl) rfl rfl ?_
    simp only [Act.put, pu]
    refine pw_mv (by rfl) rfl rfl ?_
    simp only [Act.put, pu]
    refine pw_callB (by rfl) 21 _ _ rfl Try.func21 (by kernel_rfl) #[.float .f64 a, .float .f64 b] rfl _ (hT _) ?_
    intro z4002 k
    simp only [Act.put, pu]
    replace sb := sb.trans (k.below w.heap.size sb.size (by simp <;> omega))
    clear k
    refine pw_mv (by rfl) rfl rfl ?_
    simp only [Act.put, pu]
    refine pw_ext (by rfl) rfl rfl rfl ?_
    simp only [Act.put, pu]
    refine pw_ext (by rfl) rfl rfl rfl ?_
    simp only [Act.put, pu]
    refine pw_as (by rfl) rfl rfl ?_
    simp only [Act.put, pu]
    refine pw_as (by rfl) rfl rfl ?_
    simp only [Act.put, pu]
    refine pw_nil ?_
    (repeat ((fail_if_success with_reducible refine rg ?_); go_step))
    refine wp_region_pw ?_
    refine pw_mv (by rfl) rfl rfl ?_
    simp only [Act.put, pu]
    refine pw_mv (by rfl) rfl rfl ?_
    simp only [Act.put, pu]
    refine pw_value (by rfl) (.bool false) (exec_neq_k .i64 _ _ _ _ rfl sz sz rfl rfl false (by rw [decide_eq_true rfl]; rfl)) ?_
    simp only [Act.put, pu]
    refine pw_mv (by rfl) rfl rfl ?_
    simp only [Act.put, pu]
    refine pw_mv (by rfl) rfl rfl ?_
    simp only [Act.put, pu]
    refine pw_mv (by rfl) rfl rfl ?_
    simp only [Act.put, pu]
    refine pw_value (by rfl) (.bool false) (x_nb _ _ _ _ rfl sk sk rfl rfl false (by rw [decide_eq_true rfl]; rfl) Try.underlying4) ?_
    simp only [Act.put, pu]
    refine pw_pick (by rfl) false (v := .bool false) rfl rfl rfl ?_
    simp only [Act.put, pu]
    refine pw_nil ?_
    (repeat ((fail_if_success with_reducible refine rg ?_); go_step))
    refine wp_region_pw ?_
    refine pw_mv (by rfl) rfl rfl ?_
    simp only [Act.put, pu]
    refine pw_mv (by rfl) rfl rfl ?_
    simp only [Act.put, pu]
    refine pw_value (by rfl) (.bool false) (x_fneq _ _ _ _ rfl a a rfl rfl false ((neq_self a).trans hn)) ?_
    simp only [Act.put, pu]
    refine pw_mv (by rfl) rfl rfl ?_
    simp only [Act.put, pu]
    refine pw_mv (by rfl) rfl rfl ?_
    simp only [Act.put, pu]
    refine pw_callB (by rfl) 7 _ _ rfl Try.func7 (by kernel_rfl) #[.int .u64 9218868437227405312] rfl _ (of_any 9218868437227405312 _) ?_
    intro z7005 k
    simp only [Act.put, pu]
    replace sb := sb.trans (k.below w.heap.size sb.size (by simp <;> omega))
    clear k
    refine pw_callB (by rfl) 22 _ _ rfl Try.func22 (by kernel_rfl) #[.float .f64 a, .float .f64 9218868437227405312] rfl _ (hI _) ?_
    intro z7006 k
    simp only [Act.put, pu]
    replace sb := sb.trans (k.below w.heap.size sb.size (by simp <;> omega))
    clear k
    refine pw_pick (by rfl) false (v := .bool false) rfl rfl rfl ?_
    simp only [Act.put, pu]
    refine pw_nil ?_
    (repeat ((fail_if_success with_reducible refine rg ?_); go_step))
    refine wp_region_pw ?_
    refine pw_mv (by rfl) rfl rfl ?_
    simp only [Act.put, pu]
    refine pw_mv (by rfl) rfl rfl ?_
    simp only [Act.put, pu]
    refine pw_callB (by rfl) 20 _ _ rfl Try.func20 (by kernel_rfl) #[.float .f64 a, .float .f64 c] rfl _ (hO _) ?_
    intro z9002 k
    simp only [Act.put, pu]
    replace sb := sb.trans (k.below w.heap.size sb.size (by simp <;> omega))
    clear k
    refine pw_mv (by rfl) rfl rfl ?_
    simp only [Act.put, pu]
    refine pw_ext (by rfl) rfl rfl rfl ?_
    simp only [Act.put, pu]
    refine pw_ext (by rfl) rfl rfl rfl ?_
    simp only [Act.put, pu]
    refine pw_as (by rfl) rfl rfl ?_
    simp only [Act.put, pu]
    refine pw_as (by rfl) rfl rfl ?_
    simp only [Act.put, pu]
    refine pw_nil ?_
    (repeat ((fail_if_success with_reducible refine rg ?_); go_step))
    refine wp_region_pw ?_
    refine pw_mv (by rfl) rfl rfl ?_
    simp only [Act.put, pu]
    refine pw_mv (by rfl) rfl rfl ?_
    simp only [Act.put, pu]
    refine pw_callB (by rfl) 10 _ _ rfl Try.func10 (by kernel_rfl) #[.float .f64 a, .float .f64 c] rfl _ (hC _) ?_
    intro z10002 k
    simp only [Act.put, pu]
    replace sb := sb.trans (k.below w.heap.size sb.size (by simp <;> omega))
    clear k
    refine pw_value (by rfl) (.bool true) (exec_eql_k .i64 _ _ _ _ rfl (-1) (-1) rfl rfl true (decide_eq_true rfl)) ?_
    simp only [Act.put, pu]
    refine pw_mv (by rfl) rfl rfl ?_
    simp only [Act.put, pu]
    refine pw_mv (by rfl) rfl rfl ?_
    simp only [Act.put, pu]
    refine pw_value (by rfl) (.bool true) (exec_eql_k .i64 _ _ _ _ rfl (1) (1) rfl rfl true (decide_eq_true rfl)) ?_
    simp only [Act.put, pu]
    refine pw_pick (by rfl) true (v := .bool true) rfl rfl rfl ?_
    simp only [Act.put, pu]
    refine pw_mv (by rfl) rfl rfl ?_
    simp only [Act.put, pu]
    refine pw_mv (by rfl) rfl rfl ?_
    simp only [Act.put, pu]
    refine pw_pick (by rfl) true (v := .bool true) rfl rfl rfl ?_
    simp only [Act.put, pu]
    refine pw_mv (by rfl) rfl rfl ?_
    simp only [Act.put, pu]
    refine pw_mv (by rfl) rfl rfl ?_
    simp only [Act.put, pu]
    refine pw_mv (by rfl) rfl rfl ?_
    simp only [Act.put, pu]
    refine pw_callB (by rfl) 10 _ _ rfl Try.func10 (by kernel_rfl) #[.float .f64 a, .float .f64 b] rfl _ (hD _) ?_
    intro z10014 k
    simp only [Act.put, pu]
    replace sb := sb.trans (k.below w.heap.size sb.size (by simp <;> omega))
    clear k
    refine pw_value (by rfl) (.bool true) (exec_geq_i _ _ _ _ rfl (cpz x y) 0 rfl rfl true (decide_eq_true g1)) ?_
    simp only [Act.put, pu]
    refine pw_mv (by rfl) rfl rfl ?_
    simp only [Act.put, pu]
    refine pw_skip (by rfl) ?_
    simp only [Act.put, pu]
    refine pw_skip (by rfl) ?_
    simp only [Act.put, pu]
    refine pw_skip (by rfl) ?_
    simp only [Act.put, pu]
    refine pw_skip (by rfl) ?_
    simp only [Act.put, pu]
    refine pw_pick (by rfl) true (v := .bool true) rfl rfl rfl ?_
    simp only [Act.put, pu]
    refine pw_pick (by rfl) true (v := .bool true) rfl rfl rfl ?_
    simp only [Act.put, pu]
    refine pw_mv (by rfl) rfl rfl ?_
    simp only [Act.put, pu]
    refine pw_callB (by rfl) 12 _ _ rfl Try.func12 (by kernel_rfl) #[] rfl _ (awake_any _) ?_
    intro z10024 k
    simp only [Act.put, pu]
    replace sb := sb.trans (k.below w.heap.size sb.size (by simp <;> omega))
    clear k
    refine pw_pick (by rfl) true (v := .bool true) rfl rfl rfl ?_
    simp only [Act.put, pu]
    refine pw_as (by rfl) rfl rfl ?_
    simp only [Act.put, pu]
    refine pw_nil ?_
    go_wp2
    go_ret
    exact ⟨rfl, sb⟩
set_option maxRecDepth 100000 in
theorem lifted (os : Os) (started : os.Started) (H : Type) (enc : TypeId × Value → H) :
  ReturnsInHanded {} Try.checked os 6 .any (Rows.weighStepsSpec.pre6 enc Try.prog Try.f6 Rows.weighStepsRow.domain false) (Rows.weighStepsSpec.post enc Try.prog Try.f6 false true false false) := by
 refine returnsInHanded_of_change (C := Try.checked) own started (by kernel_rfl) Try.func6
  (ChangeSpec.witness6 (enc := enc) (C := Try.checked) false ⟨#[], #[.int .u64 0, .int .u64 0], []⟩ 8 (by kernel_rfl) (by kernel_rfl) (by kernel_rfl) (by kernel_rfl)) ?_
 intro W base args ds gs before hval0 hW hcnd _
 have hval : ∀ (j : Nat) t v, Try.f6.params[j]? = some t → args[j]? = some v → Value.okWide Try.prog W .any base t v := hval0
 have hW' := hW
 obtain ⟨p, q, hA0, hV, rfl, hfz, hnd⟩ := hW
 have hA : DataW.TrodAll enc Try.prog W 0 (fun _ => true) true Try.f6.params.toList args.toList ds p := hA0
 rw [Try.params6] at hA hval
 obtain ⟨v0, vs0, d0, ds0, p0, q0, hargs, rfl, rfl, h0, r0⟩ := trodAll_cons hA
 obtain ⟨v1, vs1, d1, ds1, p1, q1, rfl, rfl, rfl, h1, r1⟩ := trodAll_cons r0
 obtain ⟨rfl, rfl, rfl⟩ := trodAll_nil r1
 obtain rfl : args = #[v0, v1] := by cases args; simp_all
 obtain ⟨rfl, rfl⟩ := trodVars_none hV
 have k0 := h0
 have lt0 := lt_of_trod h0
 obtain ⟨b0, rfl, hb0⟩ := open_u6 (hval 0 22 v0 rfl rfl) h0
 have k1 := h1
 have lt1 := lt_of_trod h1
 obtain ⟨b1, rfl, hb1⟩ := open_u6 (hval 1 22 v1 rfl rfl) h1
 clear hA0 hval0
 refine (walk b0 b1 W hb0 hb1).mono fun e W' ⟨he, bel⟩ => ?_
 subst he
 exact ⟨_, rfl, _, _, _, [], _, [], hW', trodAll_mk1 (shut_bool Try.underlying4 _), (trodAll_cons_mk (Below.trod laidOut (by kernel_rfl) (of_decide_eq_true (by kernel_rfl)) k0 bel lt0) (trodAll_cons_mk (Below.trod laidOut (by kernel_rfl) (of_decide_eq_true (by kernel_rfl)) k1 bel lt1) trodAll_mk0)), rfl, bel.frame _, fun h => by cases h⟩
theorem over : Rows.weighStepsRow.holds Try.pinned (OpenSpec.ofChange Rows.weighStepsSpec) :=
 OpenClaim.holds_of_wide 6 Try.f6 rfl rfl rfl rfl rfl rfl rfl ⟨rfl, rfl, rfl, rfl, rfl⟩ rfl rfl rfl rfl rfl (by kernel_rfl) Try.func6 (by kernel_rfl)
  (of_decide_eq_true (by kernel_rfl)) (by unfold Func.isWrapper; first | (rw [if_pos (by decide +kernel)]; kernel_rfl) | (rw [if_neg (by decide +kernel)]; exact ⟨rfl, rfl⟩))
  (fun os started H enc _ => lifted os started H enc)
end weighStepsP
/-- for the floats of any two bits: Steps answers as the document says, Next is one step further, and nothing stands between; no condition. -/
theorem weighSteps_holds : Rows.WeighStepsSaid := weighStepsP.over
end Go.Proofs.Ytonppckllfamiaa
