/- Floats: weigh's ofRank, Next, Steps; math's IsInf; the document's Same, Steps. -/
import Derived.Test.YtonppckllfamiaaWgFun
namespace Go.Proofs.Ytonppckllfamiaa
open Go.RowKit
set_option linter.unusedVariables false
set_option linter.unusedSectionVars false
set_option linter.unusedSimpArgs false
theorem x_nb {P : Program} {o : Oper} {ρ : Operand → Value} (t : TypeId) (x y : Operand) (u : TypeId) (ho : o.op = .binOp .neq t x y u) (n m : Bool) (hx : ρ x = .bool n) (hy : ρ y = .bool m) (b : Bool) (hb : (!decide (n = m)) = b) (hu : P.underlying t = some .bool) (w : World) :
  (execOp ρ o).run P w = .ok (.value (.bool b)) w := by
 subst hb
 unfold execOp
 simp only [ho, hx, hy]
 cases n <;> cases m <;> simp [eqGuard, go_sem, hu]
/-- The bits of the next float. -/
def nxt (b : Nat) : Nat := if nn b = true ∨ b = 9218868437227405312 then b else ofr (rnk b + 1)
/-- Are floats the same? -/
def sme (a b : Nat) : Bool := nn a && nn b || decide (a = b)
/-- Can the steps from one float to another be told? -/
def stb (a b : Nat) : Bool := !nn a && !nn b && decide (-9223372036854775808 ≤ rnk b - rnk a ∧ rnk b - rnk a < 9223372036854775808)
def stz (a b : Nat) : Int := if stb a b = true then rnk b - rnk a else 0
theorem st_no {a b : Nat} (h : stb a b = false) : stz a b = 0 := by unfold stz; rw [h]; rfl
theorem st_yes {a b : Nat} (h : stb a b = true) : stz a b = rnk b - rnk a := if_pos h
theorem stb_a {a b : Nat} (h : nn a = true) : stb a b = false := by unfold stb; rw [h]; rfl
theorem stb_b {a b : Nat} (h : nn b = true) : stb a b = false := by unfold stb; rw [h]; simp
theorem stb_is {a b : Nat} (ha : nn a = false) (hb : nn b = false) : stb a b = decide (-9223372036854775808 ≤ rnk b - rnk a ∧ rnk b - rnk a < 9223372036854775808) := by unfold stb; rw [ha, hb]; simp
set_option maxRecDepth 100000 in
set_option maxHeartbeats 2000000 in
theorem same_any (a b : Nat) (w : World) :
  Calls Try.prog 22 #[.float .f64 a, .float .f64 b] w fun e w' => e = .returned (.bool (sme a b)) ∧ Below w.heap.size w w' := by
 have hA := fun w' => rnone_any a w'
 have hB := fun w' => rnone_any b w'
 go_enter Try.func22, Try.ntmps22
 have sb := sbmk w
 cases hn : nn a with
 | true =>
  simp only [hn] at hA
  cases hm : nn b with
  | true =>
   simp only [hm] at hB
   rw [show sme a b = true by unfold sme; rw [hn, hm]; rfl]
   (repeat ((fail_if_success with_reducible refine rg ?_); go_step))
   refine wp_region_pw ?_
   refine pw_value (by rfl) (.bool false) (fun _ => rfl) ?_
   simp only [Act.put, pu]
   refine pw_nil ?_
   (repeat ((fail_if_success with_reducible refine rg ?_); go_step))
   refine wp_region_pw ?_
   refine pw_mv (by rfl) rfl rfl ?_
   simp only [Act.put, pu]
   refine pw_callB (by rfl) 26 _ _ rfl Try.func26 (by kernel_rfl) #[.float .f64 a] rfl _ (hA _) ?_
   intro z1001 k
   simp only [Act.put, pu]
   replace sb := sb.trans (k.below w.heap.size sb.size (by simp <;> omega))
   clear k
   refine pw_mv (by rfl) rfl rfl ?_
   simp only [Act.put, pu]
   refine pw_mv (by rfl) rfl rfl ?_
   simp only [Act.put, pu]
   refine pw_callB (by rfl) 26 _ _ rfl Try.func26 (by kernel_rfl) #[.float .f64 b] rfl _ (hB _) ?_
   intro z1004 k
   simp only [Act.put, pu]
   replace sb := sb.trans (k.below w.heap.size sb.size (by simp <;> omega))
   clear k
   refine pw_pick (by rfl) true (v := .bool true) rfl rfl rfl ?_
   simp only [Act.put, pu]
   refine pw_mv (by rfl) rfl rfl ?_
   simp only [Act.put, pu]
   refine pw_skip (by rfl) ?_
   simp only [Act.put, pu]
   refine pw_skip (by rfl) ?_
   simp only [Act.put, pu]
   refine pw_skip (by rfl) ?_
   simp only [Act.put, pu]
   refine pw_skip (by rfl) ?_
   simp only [Act.put, pu]
   refine pw_skip (by rfl) ?_
   simp only [Act.put, pu]
   refine pw_pick (by rfl) true (v := .bool true) rfl rfl rfl ?_
   simp only [Act.put, pu]
   refine pw_as (by rfl) rfl rfl ?_
   simp only [Act.put, pu]
   refine pw_nil ?_
   go_wp2
   go_ret
   exact ⟨rfl, sb⟩
  | false =>
   simp only [hm] at hB
   rw [show sme a b = decide (a = b) by unfold sme; rw [hn, hm]; rfl]
   (repeat ((fail_if_success with_reducible refine rg ?_); go_step))
   refine wp_region_pw ?_
   refine pw_value (by rfl) (.bool false) (fun _ => rfl) ?_
   simp only [Act.put, pu]
   refine pw_nil ?_
   (repeat ((fail_if_success with_reducible refine rg ?_); go_step))
   refine wp_region_pw ?_
   refine pw_mv (by rfl) rfl rfl ?_
   simp only [Act.put, pu]
   refine pw_callB (by rfl) 26 _ _ rfl Try.func26 (by kernel_rfl) #[.float .f64 a] rfl _ (hA _) ?_
   intro z1001 k
   simp only [Act.put, pu]
   replace sb := sb.trans (k.below w.heap.size sb.size (by simp <;> omega))
   clear k
   refine pw_mv (by rfl) rfl rfl ?_
   simp only [Act.put, pu]
   refine pw_mv (by rfl) rfl rfl ?_
   simp only [Act.put, pu]
   refine pw_callB (by rfl) 26 _ _ rfl Try.func26 (by kernel_rfl) #[.float .f64 b] rfl _ (hB _) ?_
   intro z1004 k
   simp only [Act.put, pu]
   replace sb := sb.trans (k.below w.heap.size sb.size (by simp <;> omega))
   clear k
   refine pw_pick (by rfl) true (v := .bool false) rfl rfl rfl ?_
   simp only [Act.put, pu]
   refine pw_mv (by rfl) rfl rfl ?_
   simp only [Act.put, pu]
   refine pw_mv (by rfl) rfl rfl ?_
   simp only [Act.put, pu]
   refine pw_value (by rfl) (.int .u64 (a : Nat)) (x_bits _ _ rfl a rfl) ?_
   simp only [Act.put, pu]
   refine pw_mv (by rfl) rfl rfl ?_
   simp only [Act.put, pu]
   refine pw_value (by rfl) (.int .u64 (b : Nat)) (x_bits _ _ rfl b rfl) ?_
   simp only [Act.put, pu]
   refine pw_value (by rfl) (.bool (decide (a = b))) ((fun w => (exec_eql_k .u64 _ _ _ _ rfl (a : Nat) (b : Nat) rfl rfl _ rfl w).trans (by simp [Int.ofNat_inj]))) ?_
   simp only [Act.put, pu]
   refine pw_pick (by rfl) false (v := .bool (decide (a = b))) rfl rfl rfl ?_
   simp only [Act.put, pu]
   refine pw_as (by rfl) rfl rfl ?_
   simp only [Act.put, pu]
   refine pw_nil ?_
   go_wp2
   go_ret
   exact ⟨rfl, sb⟩
 | false =>
  simp only [hn] at hA
  rw [show sme a b = decide (a = b) by unfold sme; rw [hn]; rfl]
  (repeat ((fail_if_success with_reducible refine rg ?_); go_step))
  refine wp_region_pw ?_
  refine pw_value (by rfl) (.bool false) (fun _ => rfl) ?_
  simp only [Act.put, pu]
  refine pw_nil ?_
  (repeat ((fail_if_success with_reducible refine rg ?_); go_step))
  refine wp_region_pw ?_
  refine pw_mv (by rfl) rfl rfl ?_
  simp only [Act.put, pu]
  refine pw_callB (by rfl) 26 _ _ rfl Try.func26 (by kernel_rfl) #[.float .f64 a] rfl _ (hA _) ?_
  intro z1001 k
  simp only [Act.put, pu]
  replace sb := sb.trans (k.below w.heap.size sb.size (by simp <;> omega))
  clear k
  refine pw_mv (by rfl) rfl rfl ?_
  simp only [Act.put, pu]
  refine pw_skip (by rfl) ?_
  simp only [Act.put, pu]
  refine pw_skip (by rfl) ?_
  simp only [Act.put, pu]
  refine pw_pick (by rfl) false (v := .bool false) rfl rfl rfl ?_
  simp only [Act.put, pu]
  refine pw_mv (by rfl) rfl rfl ?_
  simp only [Act.put, pu]
  refine pw_mv (by rfl) rfl rfl ?_
  simp only [Act.put, pu]
  refine pw_value (by rfl) (.int .u64 (a : Nat)) (x_bits _ _ rfl a rfl) ?_
  simp only [Act.put, pu]
  refine pw_mv (by rfl) rfl rfl ?_
  simp only [Act.put, pu]
  refine pw_value (by rfl) (.int .u64 (b : Nat)) (x_bits _ _ rfl b rfl) ?_
  simp only [Act.put, pu]
  refine pw_value (by rfl) (.bool (decide (a = b))) ((fun w => (exec_eql_k .u64 _ _ _ _ rfl (a : Nat) (b : Nat) rfl rfl _ rfl w).trans (by simp [Int.ofNat_inj]))) ?_
  simp only [Act.put, pu]
  refine pw_pick (by rfl) false (v := .bool (decide (a = b))) rfl rfl rfl ?_
  simp only [Act.put, pu]
  refine pw_as (by rfl) rfl rfl ?_
  simp only [Act.put, pu]
  refine pw_nil ?_
  go_wp2
  go_ret
  exact ⟨rfl, sb⟩
set_option maxRecDepth 100000 in
set_option maxHeartbeats 2000000 in
theorem isinf_any (b : Nat) (hb : b < 18446744073709551616) (w : World) :
  Calls Try.prog 32 #[.float .f64 b, .int .i64 1] w fun e w' => e = .returned (.bool (decide (b = 9218868437227405312))) ∧ Below w.heap.size w w' := by
 go_enter Try.func32, Try.ntmps32
 have sb := sbmk w
 (repeat ((fail_if_success with_reducible refine rg ?_); go_step))
 refine wp_region_pw ?_
 refine pw_value (by rfl) (.bool false) (fun _ => rfl) ?_
 simp only [Act.put, pu]
 refine pw_nil ?_
 (repeat ((fail_if_success with_reducible refine rg ?_); go_step))
 refine wp_region_pw ?_
 refine pw_mv (by rfl) rfl rfl ?_
 simp only [Act.put, pu]
 refine pw_value (by rfl) (.bool false) (exec_eql_k .i64 _ _ _ _ rfl 1 0 rfl rfl false rfl) ?_
 simp only [Act.put, pu]
 refine pw_nil ?_
 (repeat ((fail_if_success with_reducible refine rg ?_); go_step))
 refine wp_region_pw ?_
 refine pw_mv (by rfl) rfl rfl ?_
 simp only [Act.put, pu]
 refine pw_value (by rfl) (.bool false) (exec_lt_b _ _ _ _ rfl 1 0 rfl rfl false rfl) ?_
 simp only [Act.put, pu]
 refine pw_nil ?_
 (repeat ((fail_if_success with_reducible refine rg ?_); go_step))
 refine wp_region_pw ?_
 refine pw_mv (by rfl) rfl rfl ?_
 simp only [Act.put, pu]
 refine pw_value (by rfl) (.bool (decide (b = 9218868437227405312))) (x_fgt _ _ _ _ rfl b 9218868437227405311 rfl rfl _ (gt_max hb)) ?_
 simp only [Act.put, pu]
 refine pw_as (by rfl) rfl rfl ?_
 simp only [Act.put, pu]
 refine pw_nil ?_
 go_wp2
 go_ret
 exact ⟨rfl, sb⟩
set_option maxRecDepth 100000 in
set_option maxHeartbeats 2000000 in
theorem ofr_any (z : Int) (h1 : -9223372036854775808 ≤ z) (h2 : z < 9223372036854775808) (w : World) :
  Calls Try.prog 33 #[.int .i64 z] w fun e w' => e = .returned (.float .f64 (ofr z)) ∧ Below w.heap.size w w' := by
 go_enter Try.func33, Try.ntmps33
 have sb := sbmk w
 by_cases h : 0 ≤ z
 ·rw [show ofr z = z.toNat from if_pos h]
  (repeat ((fail_if_success with_reducible refine rg ?_); go_step))
  refine wp_region_pw ?_
  refine pw_value (by rfl) (.float .f64 0) ((fun _ => rfl)) ?_
  simp only [Act.put, pu]
  refine pw_nil ?_
  (repeat ((fail_if_success with_reducible refine rg ?_); go_step))
  refine wp_region_pw ?_
  refine pw_mv (by rfl) rfl rfl ?_
  simp only [Act.put, pu]
  refine pw_value (by rfl) (.bool true) (exec_geq_i _ _ _ _ rfl z 0 rfl rfl true (decide_eq_true h)) ?_
  simp only [Act.put, pu]
  refine pw_nil ?_
  (repeat ((fail_if_success with_reducible refine rg ?_); go_step))
  refine wp_region_pw ?_
  refine pw_mv (by rfl) rfl rfl ?_
  simp only [Act.put, pu]
  refine pw_value (by rfl) (.int .u64 (((z.toNat : Nat) : Int))) ((y_conv 3 22 _ rfl .i64 .u64 Try.underlying3 Try.underlying22 (z) (((z.toNat : Nat) : Int)) rfl ((wrap_us _ (by omega) (by omega)).trans (by omega)))) ?_
  simp only [Act.put, pu]
  refine pw_value (by rfl) (.float .f64 z.toNat) (x_frm _ _ rfl z.toNat rfl) ?_
  simp only [Act.put, pu]
  refine pw_as (by rfl) rfl rfl ?_
  simp only [Act.put, pu]
  refine pw_nil ?_
  go_wp2
  go_ret
  exact ⟨rfl, sb⟩
 ·rw [show ofr z = 9223372036854775808 + (-1 - z).toNat from if_neg h]
  (repeat ((fail_if_success with_reducible refine rg ?_); go_step))
  refine wp_region_pw ?_
  refine pw_value (by rfl) (.float .f64 0) ((fun _ => rfl)) ?_
  simp only [Act.put, pu]
  refine pw_nil ?_
  (repeat ((fail_if_success with_reducible refine rg ?_); go_step))
  refine wp_region_pw ?_
  refine pw_mv (by rfl) rfl rfl ?_
  simp only [Act.put, pu]
  refine pw_value (by rfl) (.bool false) (exec_geq_i _ _ _ _ rfl z 0 rfl rfl false (decide_eq_false h)) ?_
  simp only [Act.put, pu]
  refine pw_nil ?_
  (repeat ((fail_if_success with_reducible refine rg ?_); go_step))
  refine wp_region_pw ?_
  refine pw_mv (by rfl) rfl rfl ?_
  simp only [Act.put, pu]
  refine pw_value (by rfl) (.int .i64 (-1 - z)) (x_sub .i64 _ _ _ _ rfl (-1) z _ rfl rfl (wrap_sm _ (by omega) (by omega))) ?_
  simp only [Act.put, pu]
  refine pw_value (by rfl) (.int .u64 ((((-1 - z).toNat : Nat) : Int))) ((y_conv 3 22 _ rfl .i64 .u64 Try.underlying3 Try.underlying22 (-1 - z) ((((-1 - z).toNat : Nat) : Int)) rfl ((wrap_us _ (by omega) (by omega)).trans (by omega)))) ?_
  simp only [Act.put, pu]
  refine pw_value (by rfl) (.int .u64 ((9223372036854775808 + (-1 - z).toNat : Nat) : Int)) (x_add .u64 _ _ _ _ rfl 9223372036854775808 (((-1 - z).toNat : Nat) : Int) _ rfl rfl ((wrap_us _ (by omega) (by omega)).trans (by omega))) ?_
  simp only [Act.put, pu]
  refine pw_value (by rfl) (.float .f64 (9223372036854775808 + (-1 - z).toNat)) (x_frm _ _ rfl (9223372036854775808 + (-1 - z).toNat) rfl) ?_
  simp only [Act.put, pu]
  refine pw_as (by rfl) rfl rfl ?_
  simp only [Act.put, pu]
  refine pw_nil ?_
  go_wp2
  go_ret
  exact ⟨rfl, sb⟩
set_option maxRecDepth 100000 in
set_option maxHeartbeats 2000000 in
theorem next_any (b : Nat) (hb : b < 18446744073709551616) (w : World) :
  Calls Try.prog 19 #[.float .f64 b] w fun e w' => e = .returned (.float .f64 (nxt b)) ∧ Below w.heap.size w w' := by
 have hN := fun w' => isnan_any b w'
 have hI := fun w' => isinf_any b hb w'
 go_enter Try.func19, Try.ntmps19
 have sb := sbmk w
 cases hn : nn b with
 | true =>
  simp only [hn] at hN
  rw [show nxt b = b from if_pos (.inl hn)]
  (repeat ((fail_if_success with_reducible refine rg ?_); go_step))
  refine wp_region_pw ?_
  refine pw_value (by rfl) (.float .f64 0) ((fun _ => rfl)) ?_
  simp only [Act.put, pu]
  refine pw_nil ?_
  (repeat ((fail_if_success with_reducible refine rg ?_); go_step))
  refine wp_region_pw ?_
  refine pw_mv (by rfl) rfl rfl ?_
  simp only [Act.put, pu]
  refine pw_callB (by rfl) 24 _ _ rfl Try.func24 (by kernel_rfl) #[.float .f64 b] rfl _ (hN _) ?_
  intro z1001 k
  simp only [Act.put, pu]
  replace sb := sb.trans (k.below w.heap.size sb.size (by simp <;> omega))
  clear k
  refine pw_mv (by rfl) rfl rfl ?_
  simp only [Act.put, pu]
  refine pw_skip (by rfl) ?_
  simp only [Act.put, pu]
  refine pw_skip (by rfl) ?_
  simp only [Act.put, pu]
  refine pw_pick (by rfl) true (v := .bool true) rfl rfl rfl ?_
  simp only [Act.put, pu]
  refine pw_nil ?_
  (repeat ((fail_if_success with_reducible refine rg ?_); go_step))
  refine wp_region_pw ?_
  refine pw_mv (by rfl) rfl rfl ?_
  simp only [Act.put, pu]
  refine pw_as (by rfl) rfl rfl ?_
  simp only [Act.put, pu]
  refine pw_nil ?_
  go_wp2
  go_ret
  exact ⟨rfl, sb⟩
 | false =>
  simp only [hn] at hN
  by_cases hl : b = 9218868437227405312
  ·simp only [decide_eq_true hl] at hI
   rw [show nxt b = b from if_pos (.inr hl)]
   (repeat ((fail_if_success with_reducible refine rg ?_); go_step))
   refine wp_region_pw ?_
   refine pw_value (by rfl) (.float .f64 0) ((fun _ => rfl)) ?_
   simp only [Act.put, pu]
   refine pw_nil ?_
   (repeat ((fail_if_success with_reducible refine rg ?_); go_step))
   refine wp_region_pw ?_
   refine pw_mv (by rfl) rfl rfl ?_
   simp only [Act.put, pu]
   refine pw_callB (by rfl) 24 _ _ rfl Try.func24 (by kernel_rfl) #[.float .f64 b] rfl _ (hN _) ?_
   intro z1001 k
   simp only [Act.put, pu]
   replace sb := sb.trans (k.below w.heap.size sb.size (by simp <;> omega))
   clear k
   refine pw_mv (by rfl) rfl rfl ?_
   simp only [Act.put, pu]
   refine pw_mv (by rfl) rfl rfl ?_
   simp only [Act.put, pu]
   refine pw_callB (by rfl) 32 _ _ rfl Try.func32 (by kernel_rfl) #[.float .f64 b, .int .i64 1] rfl _ (hI _) ?_
   intro z1004 k
   simp only [Act.put, pu]
   replace sb := sb.trans (k.below w.heap.size sb.size (by simp <;> omega))
   clear k
   refine pw_pick (by rfl) false (v := .bool true) rfl rfl rfl ?_
   simp only [Act.put, pu]
   refine pw_nil ?_
   (repeat ((fail_if_success with_reducible refine rg ?_); go_step))
   refine wp_region_pw ?_
   refine pw_mv (by rfl) rfl rfl ?_
   simp only [Act.put, pu]
   refine pw_as (by rfl) rfl rfl ?_
   simp only [Act.put, pu]
   refine pw_nil ?_
   go_wp2
   go_ret
   exact ⟨rfl, sb⟩
  ·simp only [decide_eq_false hl] at hI
   rw [show nxt b = ofr (rnk b + 1) by unfold nxt; rw [if_neg (by rw [hn]; simp [hl])]]
   have hr := (rnk_lt hb).1
   have hr2 := (rnk_lt hb).2.1 hn
   have hK := fun w' => key_any b hb w'
   generalize rnk b = z at *
   (repeat ((fail_if_success with_reducible refine rg ?_); go_step))
   refine wp_region_pw ?_
   refine pw_value (by rfl) (.float .f64 0) ((fun _ => rfl)) ?_
   simp only [Act.put, pu]
   refine pw_nil ?_
   (repeat ((fail_if_success with_reducible refine rg ?_); go_step))
   refine wp_region_pw ?_
   refine pw_mv (by rfl) rfl rfl ?_
   simp only [Act.put, pu]
   refine pw_callB (by rfl) 24 _ _ rfl Try.func24 (by kernel_rfl) #[.float .f64 b] rfl _ (hN _) ?_
   intro z1001 k
   simp only [Act.put, pu]
   replace sb := sb.trans (k.below w.heap.size sb.size (by simp <;> omega))
   clear k
   refine pw_mv (by rfl) rfl rfl ?_
   simp only [Act.put, pu]
   refine pw_mv (by rfl) rfl rfl ?_
   simp only [Act.put, pu]
   refine pw_callB (by rfl) 32 _ _ rfl Try.func32 (by kernel_rfl) #[.float .f64 b, .int .i64 1] rfl _ (hI _) ?_
   intro z1004 k
   simp only [Act.put, pu]
   replace sb := sb.trans (k.below w.heap.size sb.size (by simp <;> omega))
   clear k
   refine pw_pick (by rfl) false (v := .bool false) rfl rfl rfl ?_
   simp only [Act.put, pu]
   refine pw_nil ?_
   (repeat ((fail_if_success with_reducible refine rg ?_); go_step))
   refine wp_region_pw ?_
   refine pw_mv (by rfl) rfl rfl ?_
   simp only [Act.put, pu]
   refine pw_callB (by rfl) 8 _ _ rfl Try.func8 (by kernel_rfl) #[.float .f64 b] rfl _ (hK _) ?_
   intro z3001 k
   simp only [Act.put, pu]
   replace sb := sb.trans (k.below w.heap.size sb.size (by simp <;> omega))
   clear k
   refine pw_value (by rfl) (.int .i64 (z + 1)) (x_add .i64 _ _ _ _ rfl z 1 _ rfl rfl (wrap_sm _ (by omega) (by omega))) ?_
   simp only [Act.put, pu]
   refine pw_callB (by rfl) 33 _ _ rfl Try.func33 (by kernel_rfl) #[.int .i64 (z + 1)] rfl _ (ofr_any (z + 1) (by omega) (by omega) _) ?_
   intro z3003 k
   simp only [Act.put, pu]
   replace sb := sb.trans (k.below w.heap.size sb.size (by simp <;> omega))
   clear k
   refine pw_as (by rfl) rfl rfl ?_
   simp only [Act.put, pu]
   refine pw_nil ?_
   go_wp2
   go_ret
   exact ⟨rfl, sb⟩
set_option maxRecDepth 100000 in
set_option maxHeartbeats 2000000 in
theorem steps_any (a b : Nat) (ha : a < 18446744073709551616) (hb : b < 18446744073709551616) (w : World) :
  Calls Try.prog 20 #[.float .f64 a, .float .f64 b] w fun e w' => e = .returned (.tuple #[.int .i64 (stz a b), .bool (stb a b)]) ∧ Below w.heap.size w w' := by
 have hA := fun w' => isnan_any a w'
 have hB := fun w' => isnan_any b w'
 have hKa := fun w' => key_any a ha w'
 have hKb := fun w' => key_any b hb w'
 have xa := rnk_lt ha
 have xb := rnk_lt hb
 go_enter Try.func20, Try.ntmps20
 have sb := sbmk w
 cases hn : nn a with
 | true =>
  simp only [hn] at hA
  rw [st_no (stb_a hn), stb_a hn]
  (repeat ((fail_if_success with_reducible refine rg ?_); go_step))
  refine wp_region_pw ?_
  refine pw_value (by rfl) (.int .i64 0) (fun _ => rfl) ?_
  simp only [Act.put, pu]
  refine pw_value (by rfl) (.bool false) (fun _ => rfl) ?_
  simp only [Act.put, pu]
  refine pw_nil ?_
  (repeat ((fail_if_success with_reducible refine rg ?_); go_step))
  refine wp_region_pw ?_
  refine pw_mv (by rfl) rfl rfl ?_
  simp only [Act.put, pu]
  refine pw_callB (by rfl) 24 _ _ rfl Try.func24 (by kernel_rfl) #[.float .f64 a] rfl _ (hA _) ?_
  intro z1001 k
  simp only [Act.put, pu]
  replace sb := sb.trans (k.below w.heap.size sb.size (by simp <;> omega))
  clear k
  refine pw_mv (by rfl) rfl rfl ?_
  simp only [Act.put, pu]
  refine pw_skip (by rfl) ?_
  simp only [Act.put, pu]
  refine pw_skip (by rfl) ?_
  simp only [Act.put, pu]
  refine pw_pick (by rfl) true (v := .bool true) rfl rfl rfl ?_
  simp only [Act.put, pu]
  refine pw_nil ?_
  (repeat ((fail_if_success with_reducible refine rg ?_); go_step))
  refine wp_region_pw ?_
  refine pw_value (by rfl) (.int .i64 0) (fun _ => rfl) ?_
  simp only [Act.put, pu]
  refine pw_value (by rfl) (.bool false) (fun _ => rfl) ?_
  simp only [Act.put, pu]
  refine pw_nil ?_
  go_wp2
  go_ret2
  exact ⟨rfl, sb⟩
 | false =>
  simp only [hn] at hA
  cases hm : nn b with
  | true =>
   simp only [hm] at hB
   rw [st_no (stb_b hm), stb_b hm]
   (repeat ((fail_if_success with_reducible refine rg ?_); go_step))
   refine wp_region_pw ?_
   refine pw_value (by rfl) (.int .i64 0) (fun _ => rfl) ?_
   simp only [Act.put, pu]
   refine pw_value (by rfl) (.bool false) (fun _ => rfl) ?_
   simp only [Act.put, pu]
   refine pw_nil ?_
   (repeat ((fail_if_success with_reducible refine rg ?_); go_step))
   refine wp_region_pw ?_
   refine pw_mv (by rfl) rfl rfl ?_
   simp only [Act.put, pu]
   refine pw_callB (by rfl) 24 _ _ rfl Try.func24 (by kernel_rfl) #[.float .f64 a] rfl _ (hA _) ?_
   intro z1001 k
   simp only [Act.put, pu]
   replace sb := sb.trans (k.below w.heap.size sb.size (by simp <;> omega))
   clear k
   refine pw_mv (by rfl) rfl rfl ?_
   simp only [Act.put, pu]
   refine pw_mv (by rfl) rfl rfl ?_
   simp only [Act.put, pu]
   refine pw_callB (by rfl) 24 _ _ rfl Try.func24 (by kernel_rfl) #[.float .f64 b] rfl _ (hB _) ?_
   intro z1004 k
   simp only [Act.put, pu]
   replace sb := sb.trans (k.below w.heap.size sb.size (by simp <;> omega))
   clear k
   refine pw_pick (by rfl) false (v := .bool true) rfl rfl rfl ?_
   simp only [Act.put, pu]
   refine pw_nil ?_
   (repeat ((fail_if_success with_reducible refine rg ?_); go_step))
   refine wp_region_pw ?_
   refine pw_value (by rfl) (.int .i64 0) (fun _ => rfl) ?_
   simp only [Act.put, pu]
   refine pw_value (by rfl) (.bool false) (fun _ => rfl) ?_
   simp only [Act.put, pu]
   refine pw_nil ?_
   go_wp2
   go_ret2
   exact ⟨rfl, sb⟩
  | false =>
   simp only [hm] at hB
   have x1 := xa.2.1 hn
   have x2 := xa.1
   have x3 := xb.2.1 hm
   have x4 := xb.1
   have hs := stb_is hn hm
   by_cases hd : -9223372036854775808 ≤ rnk b - rnk a ∧ rnk b - rnk a < 9223372036854775808
   ·rw [decide_eq_true hd] at hs
    rw [st_yes hs, hs]
    have hq : (!decide (decide (rnk b - rnk a < 0) = decide (rnk b < rnk a))) = false := by
     rw [show decide (rnk b - rnk a < 0) = decide (rnk b < rnk a) from decide_eq_decide.2 (by omega)]; simp
    clear hs xa xb
    generalize rnk a = x at *
    generalize rnk b = y at *
    (repeat ((fail_if_success with_reducible refine rg ?_); go_step))
    refine wp_region_pw ?_
    refine pw_value (by rfl) (.int .i64 0) (fun _ => rfl) ?_
    simp only [Act.put, pu]
    refine pw_value (by rfl) (.bool false) (fun _ => rfl) ?_
    simp only [Act.put, pu]
    refine pw_nil ?_
    (repeat ((fail_if_success with_reducible refine rg ?_); go_step))
    refine wp_region_pw ?_
    refine pw_mv (by rfl) rfl rfl ?_
    simp only [Act.put, pu]
    refine pw_callB (by rfl) 24 _ _ rfl Try.func24 (by kernel_rfl) #[.float .f64 a] rfl _ (hA _) ?_
    intro z1001 k
    simp only [Act.put, pu]
    replace sb := sb.trans (k.below w.heap.size sb.size (by simp <;> omega))
    clear k
    refine pw_mv (by rfl) rfl rfl ?_
    simp only [Act.put, pu]
    refine pw_mv (by rfl) rfl rfl ?_
    simp only [Act.put, pu]
    refine pw_callB (by rfl) 24 _ _ rfl Try.func24 (by kernel_rfl) #[.float .f64 b] rfl _ (hB _) ?_
    intro z1004 k
    simp only [Act.put, pu]
    replace sb := sb.trans (k.below w.heap.size sb.size (by simp <;> omega))
    clear k
    refine pw_pick (by rfl) false (v := .bool false) rfl rfl rfl ?_
    simp only [Act.put, pu]
    refine pw_nil ?_
    (repeat ((fail_if_success with_reducible refine rg ?_); go_step))
    refine wp_region_pw ?_
    refine pw_mv (by rfl) rfl rfl ?_
    simp only [Act.put, pu]
    refine pw_callB (by rfl) 8 _ _ rfl Try.func8 (by kernel_rfl) #[.float .f64 a] rfl _ (hKa _) ?_
    intro z3001 k
    simp only [Act.put, pu]
    replace sb := sb.trans (k.below w.heap.size sb.size (by simp <;> omega))
    clear k
    refine pw_mv (by rfl) rfl rfl ?_
    simp only [Act.put, pu]
    refine pw_callB (by rfl) 8 _ _ rfl Try.func8 (by kernel_rfl) #[.float .f64 b] rfl _ (hKb _) ?_
    intro z3003 k
    simp only [Act.put, pu]
    replace sb := sb.trans (k.below w.heap.size sb.size (by simp <;> omega))
    clear k
    refine pw_as (by rfl) rfl rfl ?_
    simp only [Act.put, pu]
    refine pw_as (by rfl) rfl rfl ?_
    simp only [Act.put, pu]
    refine pw_nil ?_
    (repeat ((fail_if_success with_reducible refine rg ?_); go_step))
    refine wp_region_pw ?_
    refine pw_mv (by rfl) rfl rfl ?_
    simp only [Act.put, pu]
    refine pw_mv (by rfl) rfl rfl ?_
    simp only [Act.put, pu]
    refine pw_value (by rfl) (.int .i64 (y - x)) (x_sub .i64 _ _ _ _ rfl y x _ rfl rfl (wrap_sm _ (by omega) (by omega))) ?_
    simp only [Act.put, pu]
    refine pw_as (by rfl) rfl rfl ?_
    simp only [Act.put, pu]
    refine pw_nil ?_
    (repeat ((fail_if_success with_reducible refine rg ?_); go_step))
    refine wp_region_pw ?_
    refine pw_mv (by rfl) rfl rfl ?_
    simp only [Act.put, pu]
    refine pw_value (by rfl) (.bool (decide (y - x < 0))) (exec_lt_b _ _ _ _ rfl (y - x) 0 rfl rfl _ rfl) ?_
    simp only [Act.put, pu]
    refine pw_mv (by rfl) rfl rfl ?_
    simp only [Act.put, pu]
    refine pw_mv (by rfl) rfl rfl ?_
    simp only [Act.put, pu]
    refine pw_value (by rfl) (.bool (decide (y < x))) (exec_lt_b _ _ _ _ rfl y x rfl rfl _ rfl) ?_
    simp only [Act.put, pu]
    refine pw_value (by rfl) (.bool false) (x_nb _ _ _ _ rfl (decide (y - x < 0)) (decide (y < x)) rfl rfl false hq Try.underlying4) ?_
    simp only [Act.put, pu]
    refine pw_nil ?_
    (repeat ((fail_if_success with_reducible refine rg ?_); go_step))
    refine wp_region_pw ?_
    refine pw_mv (by rfl) rfl rfl ?_
    simp only [Act.put, pu]
    refine pw_as (by rfl) rfl rfl ?_
    simp only [Act.put, pu]
    refine pw_value (by rfl) (.bool true) (fun _ => rfl) ?_
    simp only [Act.put, pu]
    refine pw_nil ?_
    go_wp2
    go_ret2
    exact ⟨rfl, sb⟩
   ·rw [decide_eq_false hd] at hs
    rw [st_no hs, hs]
    obtain ⟨d, hw, hq⟩ : ∃ d : Int, IntKind.i64.wrap (rnk b - rnk a) = d ∧ (!decide (decide (d < 0) = decide (rnk b < rnk a))) = true := by
     refine ⟨_, rfl, ?_⟩
     by_cases hc : rnk b < rnk a
     ·rw [show IntKind.i64.wrap (rnk b - rnk a) = rnk b - rnk a + 18446744073709551616 by rw [IntKind.wrap_i64]; omega, decide_eq_true hc, decide_eq_false (show ¬ (rnk b - rnk a + 18446744073709551616 < 0) by omega)]; rfl
     ·rw [show IntKind.i64.wrap (rnk b - rnk a) = rnk b - rnk a - 18446744073709551616 by rw [IntKind.wrap_i64]; omega, decide_eq_false hc, decide_eq_true (show rnk b - rnk a - 18446744073709551616 < 0 by omega)]; rfl
    clear hs xa xb
    generalize rnk a = x at *
    generalize rnk b = y at *
    (repeat ((fail_if_success with_reducible refine rg ?_); go_step))
    refine wp_region_pw ?_
    refine pw_value (by rfl) (.int .i64 0) (fun _ => rfl) ?_
    simp only [Act.put, pu]
    refine pw_value (by rfl) (.bool false) (fun _ => rfl) ?_
    simp only [Act.put, pu]
    refine pw_nil ?_
    (repeat ((fail_if_success with_reducible refine rg ?_); go_step))
    refine wp_region_pw ?_
    refine pw_mv (by rfl) rfl rfl ?_
    simp only [Act.put, pu]
    refine pw_callB (by rfl) 24 _ _ rfl Try.func24 (by kernel_rfl) #[.float .f64 a] rfl _ (hA _) ?_
    intro z1001 k
    simp only [Act.put, pu]
    replace sb := sb.trans (k.below w.heap.size sb.size (by simp <;> omega))
    clear k
    refine pw_mv (by rfl) rfl rfl ?_
    simp only [Act.put, pu]
    refine pw_mv (by rfl) rfl rfl ?_
    simp only [Act.put, pu]
    refine pw_callB (by rfl) 24 _ _ rfl Try.func24 (by kernel_rfl) #[.float .f64 b] rfl _ (hB _) ?_
    intro z1004 k
    simp only [Act.put, pu]
    replace sb := sb.trans (k.below w.heap.size sb.size (by simp <;> omega))
    clear k
    refine pw_pick (by rfl) false (v := .bool false) rfl rfl rfl ?_
    simp only [Act.put, pu]
    refine pw_nil ?_
    (repeat ((fail_if_success with_reducible refine rg ?_); go_step))
    refine wp_region_pw ?_
    refine pw_mv (by rfl) rfl rfl ?_
    simp only [Act.put, pu]
    refine pw_callB (by rfl) 8 _ _ rfl Try.func8 (by kernel_rfl) #[.float .f64 a] rfl _ (hKa _) ?_
    intro z3001 k
    simp only [Act.put, pu]
    replace sb := sb.trans (k.below w.heap.size sb.size (by simp <;> omega))
    clear k
    refine pw_mv (by rfl) rfl rfl ?_
    simp only [Act.put, pu]
    refine pw_callB (by rfl) 8 _ _ rfl Try.func8 (by kernel_rfl) #[.float .f64 b] rfl _ (hKb _) ?_
    intro z3003 k
    simp only [Act.put, pu]
    replace sb := sb.trans (k.below w.heap.size sb.size (by simp <;> omega))
    clear k
    refine pw_as (by rfl) rfl rfl ?_
    simp only [Act.put, pu]
    refine pw_as (by rfl) rfl rfl ?_
    simp only [Act.put, pu]
    refine pw_nil ?_
    (repeat ((fail_if_success with_reducible refine rg ?_); go_step))
    refine wp_region_pw ?_
    refine pw_mv (by rfl) rfl rfl ?_
    simp only [Act.put, pu]
    refine pw_mv (by rfl) rfl rfl ?_
    simp only [Act.put, pu]
    refine pw_value (by rfl) (.int .i64 d) (x_sub .i64 _ _ _ _ rfl y x _ rfl rfl hw) ?_
    simp only [Act.put, pu]
    refine pw_as (by rfl) rfl rfl ?_
    simp only [Act.put, pu]
    refine pw_nil ?_
    (repeat ((fail_if_success with_reducible refine rg ?_); go_step))
    refine wp_region_pw ?_
    refine pw_mv (by rfl) rfl rfl ?_
    simp only [Act.put, pu]
    refine pw_value (by rfl) (.bool (decide (d < 0))) (exec_lt_b _ _ _ _ rfl d 0 rfl rfl _ rfl) ?_
    simp only [Act.put, pu]
    refine pw_mv (by rfl) rfl rfl ?_
    simp only [Act.put, pu]
    refine pw_mv (by rfl) rfl rfl ?_
    simp only [Act.put, pu]
    refine pw_value (by rfl) (.bool (decide (y < x))) (exec_lt_b _ _ _ _ rfl y x rfl rfl _ rfl) ?_
    simp only [Act.put, pu]
    refine pw_value (by rfl) (.bool true) (x_nb _ _ _ _ rfl (decide (d < 0)) (decide (y < x)) rfl rfl true hq Try.underlying4) ?_
    simp only [Act.put, pu]
    refine pw_nil ?_
    (repeat ((fail_if_success with_reducible refine rg ?_); go_step))
    refine wp_region_pw ?_
    refine pw_value (by rfl) (.int .i64 0) (fun _ => rfl) ?_
    simp only [Act.put, pu]
    refine pw_value (by rfl) (.bool false) (fun _ => rfl) ?_
    simp only [Act.put, pu]
    refine pw_nil ?_
    go_wp2
    go_ret2
    exact ⟨rfl, sb⟩
set_option maxRecDepth 100000 in
set_option maxHeartbeats 2000000 in
theorem rsteps_any (a b : Nat) (ha : a < 18446744073709551616) (hb : b < 18446744073709551616) (w : World) :
  Calls Try.prog 21 #[.float .f64 a, .float .f64 b] w fun e w' => e = .returned (.tuple #[.int .i64 (stz a b), .bool (stb a b)]) ∧ Below w.heap.size w w' := by
 have hA := fun w' => rnone_any a w'
 have hB := fun w' => rnone_any b w'
 have hKa := fun w' => rkey_any a ha w'
 have hKb := fun w' => rkey_any b hb w'
 have xa := rnk_lt ha
 have xb := rnk_lt hb
 go_enter Try.func21, Try.ntmps21
 have sb := sbmk w
 cases hn : nn a with
 | true =>
  simp only [hn] at hA
  rw [st_no (stb_a hn), stb_a hn]
  (repeat ((fail_if_success with_reducible refine rg ?_); go_step))
  refine wp_region_pw ?_
  refine pw_value (by rfl) (.int .i64 0) (fun _ => rfl) ?_
  simp only [Act.put, pu]
  refine pw_value (by rfl) (.bool false) (fun _ => rfl) ?_
  simp only [Act.put, pu]
  refine pw_nil ?_
  (repeat ((fail_if_success with_reducible refine rg ?_); go_step))
  refine wp_region_pw ?_
  refine pw_mv (by rfl) rfl rfl ?_
  simp only [Act.put, pu]
  refine pw_callB (by rfl) 9 _ _ rfl Try.func9 (by kernel_rfl) #[.float .f64 a] rfl _ (hKa _) ?_
  intro z1001 k
  simp only [Act.put, pu]
  replace sb := sb.trans (k.below w.heap.size sb.size (by simp <;> omega))
  clear k
  refine pw_mv (by rfl) rfl rfl ?_
  simp only [Act.put, pu]
  refine pw_callB (by rfl) 9 _ _ rfl Try.func9 (by kernel_rfl) #[.float .f64 b] rfl _ (hKb _) ?_
  intro z1003 k
  simp only [Act.put, pu]
  replace sb := sb.trans (k.below w.heap.size sb.size (by simp <;> omega))
  clear k
  refine pw_as (by rfl) rfl rfl ?_
  simp only [Act.put, pu]
  refine pw_as (by rfl) rfl rfl ?_
  simp only [Act.put, pu]
  refine pw_nil ?_
  (repeat ((fail_if_success with_reducible refine rg ?_); go_step))
  refine wp_region_pw ?_
  refine pw_mv (by rfl) rfl rfl ?_
  simp only [Act.put, pu]
  refine pw_callB (by rfl) 26 _ _ rfl Try.func26 (by kernel_rfl) #[.float .f64 a] rfl _ (hA _) ?_
  intro z2001 k
  simp only [Act.put, pu]
  replace sb := sb.trans (k.below w.heap.size sb.size (by simp <;> omega))
  clear k
  refine pw_mv (by rfl) rfl rfl ?_
  simp only [Act.put, pu]
  refine pw_skip (by rfl) ?_
  simp only [Act.put, pu]
  refine pw_skip (by rfl) ?_
  simp only [Act.put, pu]
  refine pw_pick (by rfl) true (v := .bool true) rfl rfl rfl ?_
  simp only [Act.put, pu]
  refine pw_nil ?_
  (repeat ((fail_if_success with_reducible refine rg ?_); go_step))
  refine wp_region_pw ?_
  refine pw_value (by rfl) (.int .i64 0) (fun _ => rfl) ?_
  simp only [Act.put, pu]
  refine pw_value (by rfl) (.bool false) (fun _ => rfl) ?_
  simp only [Act.put, pu]
  refine pw_nil ?_
  go_wp2
  go_ret2
  exact ⟨rfl, sb⟩
 | false =>
  simp only [hn] at hA
  cases hm : nn b with
  | true =>
   simp only [hm] at hB
   rw [st_no (stb_b hm), stb_b hm]
   (repeat ((fail_if_success with_reducible refine rg ?_); go_step))
   refine wp_region_pw ?_
   refine pw_value (by rfl) (.int .i64 0) (fun _ => rfl) ?_
   simp only [Act.put, pu]
   refine pw_value (by rfl) (.bool false) (fun _ => rfl) ?_
   simp only [Act.put, pu]
   refine pw_nil ?_
   (repeat ((fail_if_success with_reducible refine rg ?_); go_step))
   refine wp_region_pw ?_
   refine pw_mv (by rfl) rfl rfl ?_
   simp only [Act.put, pu]
   refine pw_callB (by rfl) 9 _ _ rfl Try.func9 (by kernel_rfl) #[.float .f64 a] rfl _ (hKa _) ?_
   intro z1001 k
   simp only [Act.put, pu]
   replace sb := sb.trans (k.below w.heap.size sb.size (by simp <;> omega))
   clear k
   refine pw_mv (by rfl) rfl rfl ?_
   simp only [Act.put, pu]
   refine pw_callB (by rfl) 9 _ _ rfl Try.func9 (by kernel_rfl) #[.float .f64 b] rfl _ (hKb _) ?_
   intro z1003 k
   simp only [Act.put, pu]
   replace sb := sb.trans (k.below w.heap.size sb.size (by simp <;> omega))
   clear k
   refine pw_as (by rfl) rfl rfl ?_
   simp only [Act.put, pu]
   refine pw_as (by rfl) rfl rfl ?_
   simp only [Act.put, pu]
   refine pw_nil ?_
   (repeat ((fail_if_success with_reducible refine rg ?_); go_step))
   refine wp_region_pw ?_
   refine pw_mv (by rfl) rfl rfl ?_
   simp only [Act.put, pu]
   refine pw_callB (by rfl) 26 _ _ rfl Try.func26 (by kernel_rfl) #[.float .f64 a] rfl _ (hA _) ?_
   intro z2001 k
   simp only [Act.put, pu]
   replace sb := sb.trans (k.below w.heap.size sb.size (by simp <;> omega))
   clear k
   refine pw_mv (by rfl) rfl rfl ?_
   simp only [Act.put, pu]
   refine pw_mv (by rfl) rfl rfl ?_
   simp only [Act.put, pu]
   refine pw_callB (by rfl) 26 _ _ rfl Try.func26 (by kernel_rfl) #[.float .f64 b] rfl _ (hB _) ?_
   intro z2004 k
   simp only [Act.put, pu]
   replace sb := sb.trans (k.below w.heap.size sb.size (by simp <;> omega))
   clear k
   refine pw_pick (by rfl) false (v := .bool true) rfl rfl rfl ?_
   simp only [Act.put, pu]
   refine pw_nil ?_
   (repeat ((fail_if_success with_reducible refine rg ?_); go_step))
   refine wp_region_pw ?_
   refine pw_value (by rfl) (.int .i64 0) (fun _ => rfl) ?_
   simp only [Act.put, pu]
   refine pw_value (by rfl) (.bool false) (fun _ => rfl) ?_
   simp only [Act.put, pu]
   refine pw_nil ?_
   go_wp2
   go_ret2
   exact ⟨rfl, sb⟩
  | false =>
   simp only [hm] at hB
   have x1 := xa.2.1 hn
   have x2 := xa.1
   have x3 := xb.2.1 hm
   have x4 := xb.1
   have hs := stb_is hn hm
   by_cases hd : -9223372036854775808 ≤ rnk b - rnk a ∧ rnk b - rnk a < 9223372036854775808
   ·rw [decide_eq_true hd] at hs
    rw [st_yes hs, hs]
    clear hs xa xb
    generalize rnk a = x at *
    generalize rnk b = y at *
    by_cases c1 : x < 0
    ·by_cases c2 : 0 ≤ y
     ·skip
      (repeat ((fail_if_success with_reducible refine rg ?_); go_step))
      refine wp_region_pw ?_
      refine pw_value (by rfl) (.int .i64 0) (fun _ => rfl) ?_
      simp only [Act.put, pu]
      refine pw_value (by rfl) (.bool false) (fun _ => rfl) ?_
      simp only [Act.put, pu]
      refine pw_nil ?_
      (repeat ((fail_if_success with_reducible refine rg ?_); go_step))
      refine wp_region_pw ?_
      refine pw_mv (by rfl) rfl rfl ?_
      simp only [Act.put, pu]
      refine pw_callB (by rfl) 9 _ _ rfl Try.func9 (by kernel_rfl) #[.float .f64 a] rfl _ (hKa _) ?_
      intro z1001 k
      simp only [Act.put, pu]
      replace sb := sb.trans (k.below w.heap.size sb.size (by simp <;> omega))
      clear k
      refine pw_mv (by rfl) rfl rfl ?_
      simp only [Act.put, pu]
      refine pw_callB (by rfl) 9 _ _ rfl Try.func9 (by kernel_rfl) #[.float .f64 b] rfl _ (hKb _) ?_
      intro z1003 k
      simp only [Act.put, pu]
      replace sb := sb.trans (k.below w.heap.size sb.size (by simp <;> omega))
      clear k
      refine pw_as (by rfl) rfl rfl ?_
      simp only [Act.put, pu]
      refine pw_as (by rfl) rfl rfl ?_
      simp only [Act.put, pu]
      refine pw_nil ?_
      (repeat ((fail_if_success with_reducible refine rg ?_); go_step))
      refine wp_region_pw ?_
      refine pw_mv (by rfl) rfl rfl ?_
      simp only [Act.put, pu]
      refine pw_callB (by rfl) 26 _ _ rfl Try.func26 (by kernel_rfl) #[.float .f64 a] rfl _ (hA _) ?_
      intro z2001 k
      simp only [Act.put, pu]
      replace sb := sb.trans (k.below w.heap.size sb.size (by simp <;> omega))
      clear k
      refine pw_mv (by rfl) rfl rfl ?_
      simp only [Act.put, pu]
      refine pw_mv (by rfl) rfl rfl ?_
      simp only [Act.put, pu]
      refine pw_callB (by rfl) 26 _ _ rfl Try.func26 (by kernel_rfl) #[.float .f64 b] rfl _ (hB _) ?_
      intro z2004 k
      simp only [Act.put, pu]
      replace sb := sb.trans (k.below w.heap.size sb.size (by simp <;> omega))
      clear k
      refine pw_pick (by rfl) false (v := .bool false) rfl rfl rfl ?_
      simp only [Act.put, pu]
      refine pw_nil ?_
      (repeat ((fail_if_success with_reducible refine rg ?_); go_step))
      refine wp_region_pw ?_
      refine pw_mv (by rfl) rfl rfl ?_
      simp only [Act.put, pu]
      refine pw_value (by rfl) (.bool true) (exec_lt_b _ _ _ _ rfl (x) (0) rfl rfl true (decide_eq_true (by omega))) ?_
      simp only [Act.put, pu]
      refine pw_mv (by rfl) rfl rfl ?_
      simp only [Act.put, pu]
      refine pw_mv (by rfl) rfl rfl ?_
      simp only [Act.put, pu]
      refine pw_value (by rfl) (.bool true) (exec_geq_i _ _ _ _ rfl (y) (0) rfl rfl true (decide_eq_true (by omega))) ?_
      simp only [Act.put, pu]
      refine pw_pick (by rfl) true (v := .bool true) rfl rfl rfl ?_
      simp only [Act.put, pu]
      refine pw_mv (by rfl) rfl rfl ?_
      simp only [Act.put, pu]
      refine pw_mv (by rfl) rfl rfl ?_
      simp only [Act.put, pu]
      refine pw_mv (by rfl) rfl rfl ?_
      simp only [Act.put, pu]
      refine pw_value (by rfl) (.int .i64 (9223372036854775807 + x)) (x_add .i64 _ _ _ _ rfl 9223372036854775807 x _ rfl rfl (wrap_sm _ (by omega) (by omega))) ?_
      simp only [Act.put, pu]
      refine pw_value (by rfl) (.bool false) (exec_gt_i _ _ _ _ rfl (y) (9223372036854775807 + x) rfl rfl false (decide_eq_false (by omega))) ?_
      simp only [Act.put, pu]
      refine pw_pick (by rfl) true (v := .bool false) rfl rfl rfl ?_
      simp only [Act.put, pu]
      refine pw_mv (by rfl) rfl rfl ?_
      simp only [Act.put, pu]
      refine pw_mv (by rfl) rfl rfl ?_
      simp only [Act.put, pu]
      refine pw_value (by rfl) (.bool false) (exec_geq_i _ _ _ _ rfl x 0 rfl rfl false (decide_eq_false (by omega))) ?_
      simp only [Act.put, pu]
      refine pw_mv (by rfl) rfl rfl ?_
      simp only [Act.put, pu]
      refine pw_skip (by rfl) ?_
      simp only [Act.put, pu]
      refine pw_skip (by rfl) ?_
      simp only [Act.put, pu]
      refine pw_pick (by rfl) false (v := .bool false) rfl rfl rfl ?_
      simp only [Act.put, pu]
      refine pw_mv (by rfl) rfl rfl ?_
      simp only [Act.put, pu]
      refine pw_skip (by rfl) ?_
      simp only [Act.put, pu]
      refine pw_skip (by rfl) ?_
      simp only [Act.put, pu]
      refine pw_skip (by rfl) ?_
      simp only [Act.put, pu]
      refine pw_skip (by rfl) ?_
      simp only [Act.put, pu]
      refine pw_pick (by rfl) false (v := .bool false) rfl rfl rfl ?_
      simp only [Act.put, pu]
      refine pw_pick (by rfl) false (v := .bool false) rfl rfl rfl ?_
      simp only [Act.put, pu]
      refine pw_nil ?_
      (repeat ((fail_if_success with_reducible refine rg ?_); go_step))
      refine wp_region_pw ?_
      refine pw_mv (by rfl) rfl rfl ?_
      simp only [Act.put, pu]
      refine pw_mv (by rfl) rfl rfl ?_
      simp only [Act.put, pu]
      refine pw_value (by rfl) (.int .i64 (y - x)) (x_sub .i64 _ _ _ _ rfl y x _ rfl rfl (wrap_sm _ (by omega) (by omega))) ?_
      simp only [Act.put, pu]
      refine pw_as (by rfl) rfl rfl ?_
      simp only [Act.put, pu]
      refine pw_value (by rfl) (.bool true) (fun _ => rfl) ?_
      simp only [Act.put, pu]
      refine pw_nil ?_
      go_wp2
      go_ret2
      exact ⟨rfl, sb⟩
     ·skip
      (repeat ((fail_if_success with_reducible refine rg ?_); go_step))
      refine wp_region_pw ?_
      refine pw_value (by rfl) (.int .i64 0) (fun _ => rfl) ?_
      simp only [Act.put, pu]
      refine pw_value (by rfl) (.bool false) (fun _ => rfl) ?_
      simp only [Act.put, pu]
      refine pw_nil ?_
      (repeat ((fail_if_success with_reducible refine rg ?_); go_step))
      refine wp_region_pw ?_
      refine pw_mv (by rfl) rfl rfl ?_
      simp only [Act.put, pu]
      refine pw_callB (by rfl) 9 _ _ rfl Try.func9 (by kernel_rfl) #[.float .f64 a] rfl _ (hKa _) ?_
      intro z1001 k
      simp only [Act.put, pu]
      replace sb := sb.trans (k.below w.heap.size sb.size (by simp <;> omega))
      clear k
      refine pw_mv (by rfl) rfl rfl ?_
      simp only [Act.put, pu]
      refine pw_callB (by rfl) 9 _ _ rfl Try.func9 (by kernel_rfl) #[.float .f64 b] rfl _ (hKb _) ?_
      intro z1003 k
      simp only [Act.put, pu]
      replace sb := sb.trans (k.below w.heap.size sb.size (by simp <;> omega))
      clear k
      refine pw_as (by rfl) rfl rfl ?_
      simp only [Act.put, pu]
      refine pw_as (by rfl) rfl rfl ?_
      simp only [Act.put, pu]
      refine pw_nil ?_
      (repeat ((fail_if_success with_reducible refine rg ?_); go_step))
      refine wp_region_pw ?_
      refine pw_mv (by rfl) rfl rfl ?_
      simp only [Act.put, pu]
      refine pw_callB (by rfl) 26 _ _ rfl Try.func26 (by kernel_rfl) #[.float .f64 a] rfl _ (hA _) ?_
      intro z2001 k
      simp only [Act.put, pu]
      replace sb := sb.trans (k.below w.heap.size sb.size (by simp <;> omega))
      clear k
      refine pw_mv (by rfl) rfl rfl ?_
      simp only [Act.put, pu]
      refine pw_mv (by rfl) rfl rfl ?_
      simp only [Act.put, pu]
      refine pw_callB (by rfl) 26 _ _ rfl Try.func26 (by kernel_rfl) #[.float .f64 b] rfl _ (hB _) ?_
      intro z2004 k
      simp only [Act.put, pu]
      replace sb := sb.trans (k.below w.heap.size sb.size (by simp <;> omega))
      clear k
      refine pw_pick (by rfl) false (v := .bool false) rfl rfl rfl ?_
      simp only [Act.put, pu]
      refine pw_nil ?_
      (repeat ((fail_if_success with_reducible refine rg ?_); go_step))
      refine wp_region_pw ?_
      refine pw_mv (by rfl) rfl rfl ?_
      simp only [Act.put, pu]
      refine pw_value (by rfl) (.bool true) (exec_lt_b _ _ _ _ rfl (x) (0) rfl rfl true (decide_eq_true (by omega))) ?_
      simp only [Act.put, pu]
      refine pw_mv (by rfl) rfl rfl ?_
      simp only [Act.put, pu]
      refine pw_mv (by rfl) rfl rfl ?_
      simp only [Act.put, pu]
      refine pw_value (by rfl) (.bool false) (exec_geq_i _ _ _ _ rfl (y) (0) rfl rfl false (decide_eq_false (by omega))) ?_
      simp only [Act.put, pu]
      refine pw_pick (by rfl) true (v := .bool false) rfl rfl rfl ?_
      simp only [Act.put, pu]
      refine pw_mv (by rfl) rfl rfl ?_
      simp only [Act.put, pu]
      refine pw_skip (by rfl) ?_
      simp only [Act.put, pu]
      refine pw_skip (by rfl) ?_
      simp only [Act.put, pu]
      refine pw_skip (by rfl) ?_
      simp only [Act.put, pu]
      refine pw_skip (by rfl) ?_
      simp only [Act.put, pu]
      refine pw_pick (by rfl) false (v := .bool false) rfl rfl rfl ?_
      simp only [Act.put, pu]
      refine pw_mv (by rfl) rfl rfl ?_
      simp only [Act.put, pu]
      refine pw_mv (by rfl) rfl rfl ?_
      simp only [Act.put, pu]
      refine pw_value (by rfl) (.bool false) (exec_geq_i _ _ _ _ rfl x 0 rfl rfl false (decide_eq_false (by omega))) ?_
      simp only [Act.put, pu]
      refine pw_mv (by rfl) rfl rfl ?_
      simp only [Act.put, pu]
      refine pw_skip (by rfl) ?_
      simp only [Act.put, pu]
      refine pw_skip (by rfl) ?_
      simp only [Act.put, pu]
      refine pw_pick (by rfl) false (v := .bool false) rfl rfl rfl ?_
      simp only [Act.put, pu]
      refine pw_mv (by rfl) rfl rfl ?_
      simp only [Act.put, pu]
      refine pw_skip (by rfl) ?_
      simp only [Act.put, pu]
      refine pw_skip (by rfl) ?_
      simp only [Act.put, pu]
      refine pw_skip (by rfl) ?_
      simp only [Act.put, pu]
      refine pw_skip (by rfl) ?_
      simp only [Act.put, pu]
      refine pw_pick (by rfl) false (v := .bool false) rfl rfl rfl ?_
      simp only [Act.put, pu]
      refine pw_pick (by rfl) false (v := .bool false) rfl rfl rfl ?_
      simp only [Act.put, pu]
      refine pw_nil ?_
      (repeat ((fail_if_success with_reducible refine rg ?_); go_step))
      refine wp_region_pw ?_
      refine pw_mv (by rfl) rfl rfl ?_
      simp only [Act.put, pu]
      refine pw_mv (by rfl) rfl rfl ?_
      simp only [Act.put, pu]
      refine pw_value (by rfl) (.int .i64 (y - x)) (x_sub .i64 _ _ _ _ rfl y x _ rfl rfl (wrap_sm _ (by omega) (by omega))) ?_
      simp only [Act.put, pu]
      refine pw_as (by rfl) rfl rfl ?_
      simp only [Act.put, pu]
      refine pw_value (by rfl) (.bool true) (fun _ => rfl) ?_
      simp only [Act.put, pu]
      refine pw_nil ?_
      go_wp2
      go_ret2
      exact ⟨rfl, sb⟩
    ·by_cases c2 : 0 ≤ y
     ·skip
      (repeat ((fail_if_success with_reducible refine rg ?_); go_step))
      refine wp_region_pw ?_
      refine pw_value (by rfl) (.int .i64 0) (fun _ => rfl) ?_
      simp only [Act.put, pu]
      refine pw_value (by rfl) (.bool false) (fun _ => rfl) ?_
      simp only [Act.put, pu]
      refine pw_nil ?_
      (repeat ((fail_if_success with_reducible refine rg ?_); go_step))
      refine wp_region_pw ?_
      refine pw_mv (by rfl) rfl rfl ?_
      simp only [Act.put, pu]
      refine pw_callB (by rfl) 9 _ _ rfl Try.func9 (by kernel_rfl) #[.float .f64 a] rfl _ (hKa _) ?_
      intro z1001 k
      simp only [Act.put, pu]
      replace sb := sb.trans (k.below w.heap.size sb.size (by simp <;> omega))
      clear k
      refine pw_mv (by rfl) rfl rfl ?_
      simp only [Act.put, pu]
      refine pw_callB (by rfl) 9 _ _ rfl Try.func9 (by kernel_rfl) #[.float .f64 b] rfl _ (hKb _) ?_
      intro z1003 k
      simp only [Act.put, pu]
      replace sb := sb.trans (k.below w.heap.size sb.size (by simp <;> omega))
      clear k
      refine pw_as (by rfl) rfl rfl ?_
      simp only [Act.put, pu]
      refine pw_as (by rfl) rfl rfl ?_
      simp only [Act.put, pu]
      refine pw_nil ?_
      (repeat ((fail_if_success with_reducible refine rg ?_); go_step))
      refine wp_region_pw ?_
      refine pw_mv (by rfl) rfl rfl ?_
      simp only [Act.put, pu]
      refine pw_callB (by rfl) 26 _ _ rfl Try.func26 (by kernel_rfl) #[.float .f64 a] rfl _ (hA _) ?_
      intro z2001 k
      simp only [Act.put, pu]
      replace sb := sb.trans (k.below w.heap.size sb.size (by simp <;> omega))
      clear k
      refine pw_mv (by rfl) rfl rfl ?_
      simp only [Act.put, pu]
      refine pw_mv (by rfl) rfl rfl ?_
      simp only [Act.put, pu]
      refine pw_callB (by rfl) 26 _ _ rfl Try.func26 (by kernel_rfl) #[.float .f64 b] rfl _ (hB _) ?_
      intro z2004 k
      simp only [Act.put, pu]
      replace sb := sb.trans (k.below w.heap.size sb.size (by simp <;> omega))
      clear k
      refine pw_pick (by rfl) false (v := .bool false) rfl rfl rfl ?_
      simp only [Act.put, pu]
      refine pw_nil ?_
      (repeat ((fail_if_success with_reducible refine rg ?_); go_step))
      refine wp_region_pw ?_
      refine pw_mv (by rfl) rfl rfl ?_
      simp only [Act.put, pu]
      refine pw_value (by rfl) (.bool false) (exec_lt_b _ _ _ _ rfl (x) (0) rfl rfl false (decide_eq_false (by omega))) ?_
      simp only [Act.put, pu]
      refine pw_mv (by rfl) rfl rfl ?_
      simp only [Act.put, pu]
      refine pw_skip (by rfl) ?_
      simp only [Act.put, pu]
      refine pw_skip (by rfl) ?_
      simp only [Act.put, pu]
      refine pw_pick (by rfl) false (v := .bool false) rfl rfl rfl ?_
      simp only [Act.put, pu]
      refine pw_mv (by rfl) rfl rfl ?_
      simp only [Act.put, pu]
      refine pw_skip (by rfl) ?_
      simp only [Act.put, pu]
      refine pw_skip (by rfl) ?_
      simp only [Act.put, pu]
      refine pw_skip (by rfl) ?_
      simp only [Act.put, pu]
      refine pw_skip (by rfl) ?_
      simp only [Act.put, pu]
      refine pw_pick (by rfl) false (v := .bool false) rfl rfl rfl ?_
      simp only [Act.put, pu]
      refine pw_mv (by rfl) rfl rfl ?_
      simp only [Act.put, pu]
      refine pw_mv (by rfl) rfl rfl ?_
      simp only [Act.put, pu]
      refine pw_value (by rfl) (.bool true) (exec_geq_i _ _ _ _ rfl (x) (0) rfl rfl true (decide_eq_true (by omega))) ?_
      simp only [Act.put, pu]
      refine pw_mv (by rfl) rfl rfl ?_
      simp only [Act.put, pu]
      refine pw_mv (by rfl) rfl rfl ?_
      simp only [Act.put, pu]
      refine pw_value (by rfl) (.bool false) (exec_lt_b _ _ _ _ rfl (y) (0) rfl rfl false (decide_eq_false (by omega))) ?_
      simp only [Act.put, pu]
      refine pw_pick (by rfl) true (v := .bool false) rfl rfl rfl ?_
      simp only [Act.put, pu]
      refine pw_mv (by rfl) rfl rfl ?_
      simp only [Act.put, pu]
      refine pw_skip (by rfl) ?_
      simp only [Act.put, pu]
      refine pw_skip (by rfl) ?_
      simp only [Act.put, pu]
      refine pw_skip (by rfl) ?_
      simp only [Act.put, pu]
      refine pw_skip (by rfl) ?_
      simp only [Act.put, pu]
      refine pw_pick (by rfl) false (v := .bool false) rfl rfl rfl ?_
      simp only [Act.put, pu]
      refine pw_pick (by rfl) false (v := .bool false) rfl rfl rfl ?_
      simp only [Act.put, pu]
      refine pw_nil ?_
      (repeat ((fail_if_success with_reducible refine rg ?_); go_step))
      refine wp_region_pw ?_
      refine pw_mv (by rfl) rfl rfl ?_
      simp only [Act.put, pu]
      refine pw_mv (by rfl) rfl rfl ?_
      simp only [Act.put, pu]
      refine pw_value (by rfl) (.int .i64 (y - x)) (x_sub .i64 _ _ _ _ rfl y x _ rfl rfl (wrap_sm _ (by omega) (by omega))) ?_
      simp only [Act.put, pu]
      refine pw_as (by rfl) rfl rfl ?_
      simp only [Act.put, pu]
      refine pw_value (by rfl) (.bool true) (fun _ => rfl) ?_
      simp only [Act.put, pu]
      refine pw_nil ?_
      go_wp2
      go_ret2
      exact ⟨rfl, sb⟩
     ·skip
      (repeat ((fail_if_success with_reducible refine rg ?_); go_step))
      refine wp_region_pw ?_
      refine pw_value (by rfl) (.int .i64 0) (fun _ => rfl) ?_
      simp only [Act.put, pu]
      refine pw_value (by rfl) (.bool false) (fun _ => rfl) ?_
      simp only [Act.put, pu]
      refine pw_nil ?_
      (repeat ((fail_if_success with_reducible refine rg ?_); go_step))
      refine wp_region_pw ?_
      refine pw_mv (by rfl) rfl rfl ?_
      simp only [Act.put, pu]
      refine pw_callB (by rfl) 9 _ _ rfl Try.func9 (by kernel_rfl) #[.float .f64 a] rfl _ (hKa _) ?_
      intro z1001 k
      simp only [Act.put, pu]
      replace sb := sb.trans (k.below w.heap.size sb.size (by simp <;> omega))
      clear k
      refine pw_mv (by rfl) rfl rfl ?_
      simp only [Act.put, pu]
      refine pw_callB (by rfl) 9 _ _ rfl Try.func9 (by kernel_rfl) #[.float .f64 b] rfl _ (hKb _) ?_
      intro z1003 k
      simp only [Act.put, pu]
      replace sb := sb.trans (k.below w.heap.size sb.size (by simp <;> omega))
      clear k
      refine pw_as (by rfl) rfl rfl ?_
      simp only [Act.put, pu]
      refine pw_as (by rfl) rfl rfl ?_
      simp only [Act.put, pu]
      refine pw_nil ?_
      (repeat ((fail_if_success with_reducible refine rg ?_); go_step))
      refine wp_region_pw ?_
      refine pw_mv (by rfl) rfl rfl ?_
      simp only [Act.put, pu]
      refine pw_callB (by rfl) 26 _ _ rfl Try.func26 (by kernel_rfl) #[.float .f64 a] rfl _ (hA _) ?_
      intro z2001 k
      simp only [Act.put, pu]
      replace sb := sb.trans (k.below w.heap.size sb.size (by simp <;> omega))
      clear k
      refine pw_mv (by rfl) rfl rfl ?_
      simp only [Act.put, pu]
      refine pw_mv (by rfl) rfl rfl ?_
      simp only [Act.put, pu]
      refine pw_callB (by rfl) 26 _ _ rfl Try.func26 (by kernel_rfl) #[.float .f64 b] rfl _ (hB _) ?_
      intro z2004 k
      simp only [Act.put, pu]
      replace sb := sb.trans (k.below w.heap.size sb.size (by simp <;> omega))
      clear k
      refine pw_pick (by rfl) false (v := .bool false) rfl rfl rfl ?_
      simp only [Act.put, pu]
      refine pw_nil ?_
      (repeat ((fail_if_success with_reducible refine rg ?_); go_step))
      refine wp_region_pw ?_
      refine pw_mv (by rfl) rfl rfl ?_
      simp only [Act.put, pu]
      refine pw_value (by rfl) (.bool false) (exec_lt_b _ _ _ _ rfl (x) (0) rfl rfl false (decide_eq_false (by omega))) ?_
      simp only [Act.put, pu]
      refine pw_mv (by rfl) rfl rfl ?_
      simp only [Act.put, pu]
      refine pw_skip (by rfl) ?_
      simp only [Act.put, pu]
      refine pw_skip (by rfl) ?_
      simp only [Act.put, pu]
      refine pw_pick (by rfl) false (v := .bool false) rfl rfl rfl ?_
      simp only [Act.put, pu]
      refine pw_mv (by rfl) rfl rfl ?_
      simp only [Act.put, pu]
      refine pw_skip (by rfl) ?_
      simp only [Act.put, pu]
      refine pw_skip (by rfl) ?_
      simp only [Act.put, pu]
      refine pw_skip (by rfl) ?_
      simp only [Act.put, pu]
      refine pw_skip (by rfl) ?_
      simp only [Act.put, pu]
      refine pw_pick (by rfl) false (v := .bool false) rfl rfl rfl ?_
      simp only [Act.put, pu]
      refine pw_mv (by rfl) rfl rfl ?_
      simp only [Act.put, pu]
      refine pw_mv (by rfl) rfl rfl ?_
      simp only [Act.put, pu]
      refine pw_value (by rfl) (.bool true) (exec_geq_i _ _ _ _ rfl (x) (0) rfl rfl true (decide_eq_true (by omega))) ?_
      simp only [Act.put, pu]
      refine pw_mv (by rfl) rfl rfl ?_
      simp only [Act.put, pu]
      refine pw_mv (by rfl) rfl rfl ?_
      simp only [Act.put, pu]
      refine pw_value (by rfl) (.bool true) (exec_lt_b _ _ _ _ rfl (y) (0) rfl rfl true (decide_eq_true (by omega))) ?_
      simp only [Act.put, pu]
      refine pw_pick (by rfl) true (v := .bool true) rfl rfl rfl ?_
      simp only [Act.put, pu]
      refine pw_mv (by rfl) rfl rfl ?_
      simp only [Act.put, pu]
      refine pw_mv (by rfl) rfl rfl ?_
      simp only [Act.put, pu]
      refine pw_mv (by rfl) rfl rfl ?_
      simp only [Act.put, pu]
      refine pw_value (by rfl) (.int .i64 (y - -9223372036854775808)) (x_sub .i64 _ _ _ _ rfl y (-9223372036854775808) _ rfl rfl (wrap_sm _ (by omega) (by omega))) ?_
      simp only [Act.put, pu]
      refine pw_value (by rfl) (.bool false) (exec_gt_i _ _ _ _ rfl (x) (y - -9223372036854775808) rfl rfl false (decide_eq_false (by omega))) ?_
      simp only [Act.put, pu]
      refine pw_pick (by rfl) true (v := .bool false) rfl rfl rfl ?_
      simp only [Act.put, pu]
      refine pw_pick (by rfl) false (v := .bool false) rfl rfl rfl ?_
      simp only [Act.put, pu]
      refine pw_nil ?_
      (repeat ((fail_if_success with_reducible refine rg ?_); go_step))
      refine wp_region_pw ?_
      refine pw_mv (by rfl) rfl rfl ?_
      simp only [Act.put, pu]
      refine pw_mv (by rfl) rfl rfl ?_
      simp only [Act.put, pu]
      refine pw_value (by rfl) (.int .i64 (y - x)) (x_sub .i64 _ _ _ _ rfl y x _ rfl rfl (wrap_sm _ (by omega) (by omega))) ?_
      simp only [Act.put, pu]
      refine pw_as (by rfl) rfl rfl ?_
      simp only [Act.put, pu]
      refine pw_value (by rfl) (.bool true) (fun _ => rfl) ?_
      simp only [Act.put, pu]
      refine pw_nil ?_
      go_wp2
      go_ret2
      exact ⟨rfl, sb⟩
   ·rw [decide_eq_false hd] at hs
    rw [st_no hs, hs]
    clear hs xa xb
    generalize rnk a = x at *
    generalize rnk b = y at *
    by_cases c1 : x < 0
    ·have c2 : 0 ≤ y := by omega
     (repeat ((fail_if_success with_reducible refine rg ?_); go_step))
     refine wp_region_pw ?_
     refine pw_value (by rfl) (.int .i64 0) (fun _ => rfl) ?_
     simp only [Act.put, pu]
     refine pw_value (by rfl) (.bool false) (fun _ => rfl) ?_
     simp only [Act.put, pu]
     refine pw_nil ?_
     (repeat ((fail_if_success with_reducible refine rg ?_); go_step))
     refine wp_region_pw ?_
     refine pw_mv (by rfl) rfl rfl ?_
     simp only [Act.put, pu]
     refine pw_callB (by rfl) 9 _ _ rfl Try.func9 (by kernel_rfl) #[.float .f64 a] rfl _ (hKa _) ?_
     intro z1001 k
     simp only [Act.put, pu]
     replace sb := sb.trans (k.below w.heap.size sb.size (by simp <;> omega))
     clear k
     refine pw_mv (by rfl) rfl rfl ?_
     simp only [Act.put, pu]
     refine pw_callB (by rfl) 9 _ _ rfl Try.func9 (by kernel_rfl) #[.float .f64 b] rfl _ (hKb _) ?_
     intro z1003 k
     simp only [Act.put, pu]
     replace sb := sb.trans (k.below w.heap.size sb.size (by simp <;> omega))
     clear k
     refine pw_as (by rfl) rfl rfl ?_
     simp only [Act.put, pu]
     refine pw_as (by rfl) rfl rfl ?_
     simp only [Act.put, pu]
     refine pw_nil ?_
     (repeat ((fail_if_success with_reducible refine rg ?_); go_step))
     refine wp_region_pw ?_
     refine pw_mv (by rfl) rfl rfl ?_
     simp only [Act.put, pu]
     refine pw_callB (by rfl) 26 _ _ rfl Try.func26 (by kernel_rfl) #[.float .f64 a] rfl _ (hA _) ?_
     intro z2001 k
     simp only [Act.put, pu]
     replace sb := sb.trans (k.below w.heap.size sb.size (by simp <;> omega))
     clear k
     refine pw_mv (by rfl) rfl rfl ?_
     simp only [Act.put, pu]
     refine pw_mv (by rfl) rfl rfl ?_
     simp only [Act.put, pu]
     refine pw_callB (by rfl) 26 _ _ rfl Try.func26 (by kernel_rfl) #[.float .f64 b] rfl _ (hB _) ?_
     intro z2004 k
     simp only [Act.put, pu]
     replace sb := sb.trans (k.below w.heap.size sb.size (by simp <;> omega))
     clear k
     refine pw_pick (by rfl) false (v := .bool false) rfl rfl rfl ?_
     simp only [Act.put, pu]
     refine pw_nil ?_
     (repeat ((fail_if_success with_reducible refine rg ?_); go_step))
     refine wp_region_pw ?_
     refine pw_mv (by rfl) rfl rfl ?_
     simp only [Act.put, pu]
     refine pw_value (by rfl) (.bool true) (exec_lt_b _ _ _ _ rfl (x) (0) rfl rfl true (decide_eq_true (by omega))) ?_
     simp only [Act.put, pu]
     refine pw_mv (by rfl) rfl rfl ?_
     simp only [Act.put, pu]
     refine pw_mv (by rfl) rfl rfl ?_
     simp only [Act.put, pu]
     refine pw_value (by rfl) (.bool true) (exec_geq_i _ _ _ _ rfl (y) (0) rfl rfl true (decide_eq_true (by omega))) ?_
     simp only [Act.put, pu]
     refine pw_pick (by rfl) true (v := .bool true) rfl rfl rfl ?_
     simp only [Act.put, pu]
     refine pw_mv (by rfl) rfl rfl ?_
     simp only [Act.put, pu]
     refine pw_mv (by rfl) rfl rfl ?_
     simp only [Act.put, pu]
     refine pw_mv (by rfl) rfl rfl ?_
     simp only [Act.put, pu]
     refine pw_value (by rfl) (.int .i64 (9223372036854775807 + x)) (x_add .i64 _ _ _ _ rfl 9223372036854775807 x _ rfl rfl (wrap_sm _ (by omega) (by omega))) ?_
     simp only [Act.put, pu]
     refine pw_value (by rfl) (.bool true) (exec_gt_i _ _ _ _ rfl (y) (9223372036854775807 + x) rfl rfl true (decide_eq_true (by omega))) ?_
     simp only [Act.put, pu]
     refine pw_pick (by rfl) true (v := .bool true) rfl rfl rfl ?_
     simp only [Act.put, pu]
     refine pw_mv (by rfl) rfl rfl ?_
     simp only [Act.put, pu]
     refine pw_skip (by rfl) ?_
     simp only [Act.put, pu]
     refine pw_skip (by rfl) ?_
     simp only [Act.put, pu]
     refine pw_skip (by rfl) ?_
     simp only [Act.put, pu]
     refine pw_skip (by rfl) ?_
     simp only [Act.put, pu]
     refine pw_skip (by rfl) ?_
     simp only [Act.put, pu]
     refine pw_skip (by rfl) ?_
     simp only [Act.put, pu]
     refine pw_skip (by rfl) ?_
     simp only [Act.put, pu]
     refine pw_skip (by rfl) ?_
     simp only [Act.put, pu]
     refine pw_skip (by rfl) ?_
     simp only [Act.put, pu]
     refine pw_skip (by rfl) ?_
     simp only [Act.put, pu]
     refine pw_skip (by rfl) ?_
     simp only [Act.put, pu]
     refine pw_skip (by rfl) ?_
     simp only [Act.put, pu]
     refine pw_pick (by rfl) true (v := .bool true) rfl rfl rfl ?_
     simp only [Act.put, pu]
     refine pw_nil ?_
     (repeat ((fail_if_success with_reducible refine rg ?_); go_step))
     refine wp_region_pw ?_
     refine pw_value (by rfl) (.int .i64 0) (fun _ => rfl) ?_
     simp only [Act.put, pu]
     refine pw_value (by rfl) (.bool false) (fun _ => rfl) ?_
     simp only [Act.put, pu]
     refine pw_nil ?_
     go_wp2
     go_ret2
     exact ⟨rfl, sb⟩
    ·have c2 : y < 0 := by omega
     (repeat ((fail_if_success with_reducible refine rg ?_); go_step))
     refine wp_region_pw ?_
     refine pw_value (by rfl) (.int .i64 0) (fun _ => rfl) ?_
     simp only [Act.put, pu]
     refine pw_value (by rfl) (.bool false) (fun _ => rfl) ?_
     simp only [Act.put, pu]
     refine pw_nil ?_
     (repeat ((fail_if_success with_reducible refine rg ?_); go_step))
     refine wp_region_pw ?_
     refine pw_mv (by rfl) rfl rfl ?_
     simp only [Act.put, pu]
     refine pw_callB (by rfl) 9 _ _ rfl Try.func9 (by kernel_rfl) #[.float .f64 a] rfl _ (hKa _) ?_
     intro z1001 k
     simp only [Act.put, pu]
     replace sb := sb.trans (k.below w.heap.size sb.size (by simp <;> omega))
     clear k
     refine pw_mv (by rfl) rfl rfl ?_
     simp only [Act.put, pu]
     refine pw_callB (by rfl) 9 _ _ rfl Try.func9 (by kernel_rfl) #[.float .f64 b] rfl _ (hKb _) ?_
     intro z1003 k
     simp only [Act.put, pu]
     replace sb := sb.trans (k.below w.heap.size sb.size (by simp <;> omega))
     clear k
     refine pw_as (by rfl) rfl rfl ?_
     simp only [Act.put, pu]
     refine pw_as (by rfl) rfl rfl ?_
     simp only [Act.put, pu]
     refine pw_nil ?_
     (repeat ((fail_if_success with_reducible refine rg ?_); go_step))
     refine wp_region_pw ?_
     refine pw_mv (by rfl) rfl rfl ?_
     simp only [Act.put, pu]
     refine pw_callB (by rfl) 26 _ _ rfl Try.func26 (by kernel_rfl) #[.float .f64 a] rfl _ (hA _) ?_
     intro z2001 k
     simp only [Act.put, pu]
     replace sb := sb.trans (k.below w.heap.size sb.size (by simp <;> omega))
     clear k
     refine pw_mv (by rfl) rfl rfl ?_
     simp only [Act.put, pu]
     refine pw_mv (by rfl) rfl rfl ?_
     simp only [Act.put, pu]
     refine pw_callB (by rfl) 26 _ _ rfl Try.func26 (by kernel_rfl) #[.float .f64 b] rfl _ (hB _) ?_
     intro z2004 k
     simp only [Act.put, pu]
     replace sb := sb.trans (k.below w.heap.size sb.size (by simp <;> omega))
     clear k
     refine pw_pick (by rfl) false (v := .bool false) rfl rfl rfl ?_
     simp only [Act.put, pu]
     refine pw_nil ?_
     (repeat ((fail_if_success with_reducible refine rg ?_); go_step))
     refine wp_region_pw ?_
     refine pw_mv (by rfl) rfl rfl ?_
     simp only [Act.put, pu]
     refine pw_value (by rfl) (.bool false) (exec_lt_b _ _ _ _ rfl (x) (0) rfl rfl false (decide_eq_false (by omega))) ?_
     simp only [Act.put, pu]
     refine pw_mv (by rfl) rfl rfl ?_
     simp only [Act.put, pu]
     refine pw_skip (by rfl) ?_
     simp only [Act.put, pu]
     refine pw_skip (by rfl) ?_
     simp only [Act.put, pu]
     refine pw_pick (by rfl) false (v := .bool false) rfl rfl rfl ?_
     simp only [Act.put, pu]
     refine pw_mv (by rfl) rfl rfl ?_
     simp only [Act.put, pu]
     refine pw_skip (by rfl) ?_
     simp only [Act.put, pu]
     refine pw_skip (by rfl) ?_
     simp only [Act.put, pu]
     refine pw_skip (by rfl) ?_
     simp only [Act.put, pu]
     refine pw_skip (by rfl) ?_
     simp only [Act.put, pu]
     refine pw_pick (by rfl) false (v := .bool false) rfl rfl rfl ?_
     simp only [Act.put, pu]
     refine pw_mv (by rfl) rfl rfl ?_
     simp only [Act.put, pu]
     refine pw_mv (by rfl) rfl rfl ?_
     simp only [Act.put, pu]
     refine pw_value (by rfl) (.bool true) (exec_geq_i _ _ _ _ rfl (x) (0) rfl rfl true (decide_eq_true (by omega))) ?_
     simp only [Act.put, pu]
     refine pw_mv (by rfl) rfl rfl ?_
     simp only [Act.put, pu]
     refine pw_mv (by rfl) rfl rfl ?_
     simp only [Act.put, pu]
     refine pw_value (by rfl) (.bool true) (exec_lt_b _ _ _ _ rfl (y) (0) rfl rfl true (decide_eq_true (by omega))) ?_
     simp only [Act.put, pu]
     refine pw_pick (by rfl) true (v := .bool true) rfl rfl rfl ?_
     simp only [Act.put, pu]
     refine pw_mv (by rfl) rfl rfl ?_
     simp only [Act.put, pu]
     refine pw_mv (by rfl) rfl rfl ?_
     simp only [Act.put, pu]
     refine pw_mv (by rfl) rfl rfl ?_
     simp only [Act.put, pu]
     refine pw_value (by rfl) (.int .i64 (y - -9223372036854775808)) (x_sub .i64 _ _ _ _ rfl y (-9223372036854775808) _ rfl rfl (wrap_sm _ (by omega) (by omega))) ?_
     simp only [Act.put, pu]
     refine pw_value (by rfl) (.bool true) (exec_gt_i _ _ _ _ rfl (x) (y - -9223372036854775808) rfl rfl true (decide_eq_true (by omega))) ?_
     simp only [Act.put, pu]
     refine pw_pick (by rfl) true (v := .bool true) rfl rfl rfl ?_
     simp only [Act.put, pu]
     refine pw_pick (by rfl) false (v := .bool true) rfl rfl rfl ?_
     simp only [Act.put, pu]
     refine pw_nil ?_
     (repeat ((fail_if_success with_reducible refine rg ?_); go_step))
     refine wp_region_pw ?_
     refine pw_value (by rfl) (.int .i64 0) (fun _ => rfl) ?_
     simp only [Act.put, pu]
     refine pw_value (by rfl) (.bool false) (fun _ => rfl) ?_
     simp only [Act.put, pu]
     refine pw_nil ?_
     go_wp2
     go_ret2
     exact ⟨rfl, sb⟩
end Go.Proofs.Ytonppckllfamiaa
