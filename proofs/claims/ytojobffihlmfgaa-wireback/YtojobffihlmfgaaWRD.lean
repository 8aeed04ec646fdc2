/- The document's May: may a message be? -/
import Derived.Test.YtojobffihlmfgaaWRB
import Derived.Test.YtojobffihlmfgaaWRC
import Derived.Test.YtojobffihlmfgaaMA
namespace Go.Proofs.Ytojobffihlmfgaa
open Go.RowKit
set_option linter.unusedVariables false
set_option linter.unusedSimpArgs false
end Go.Proofs.Ytojobffihlmfgaa
/- The document's Put and Few of layer 18. -/
namespace Go.Proofs.Ytojobffihlmfgaa
open Go.RowKit
set_option linter.unusedVariables false
set_option linter.unusedSimpArgs false
theorem rmfew_any (K : Nat) (a1 : Option Addr) (n c1 : Nat) (N : Nat → Nat) (M : Nat → Nat → Nat) (w : World) (hK : K ≤ 1000) (h : MtA w a1 n N M) :
  Calls Try.prog 27 #[.slice a1 n c1, .int .i64 (K : Nat)] w fun e w' => ∃ B : Bool, e = .returned (.bool B) ∧ (B = true ↔ n ≤ K ∧ ∀ i, i < n → N i ≤ 8) ∧ Below w.heap.size w w' := by
 obtain ⟨S, gb, ob, bcs, tb, h1, h2⟩ := h
 exact rfew_any K a1 n c1 S gb ob bcs tb N w hK h1 (fun i hi => by
  obtain ⟨ai, ci, _, _, _, _, e, _⟩ := h2 i hi
  exact ⟨ai, ci, e⟩)
theorem rmfew_b (K : Nat) (b : Bool) (a1 : Option Addr) (n c1 : Nat) (N : Nat → Nat) (M : Nat → Nat → Nat) (w : World) (hK : K ≤ 1000) (hb : b = true ↔ n ≤ K ∧ ∀ i, i < n → N i ≤ 8) (h : MtA w a1 n N M) :
  Calls Try.prog 27 #[.slice a1 n c1, .int .i64 (K : Nat)] w fun e w' => e = .returned (.bool b) ∧ Below w.heap.size w w' :=
 (rmfew_any K a1 n c1 N M w hK h).mono fun e w' ⟨B, he, hB, hw⟩ => ⟨by rw [he, Bool.eq_iff_iff.2 (hB.trans hb.symm)], hw⟩
/-- Has a message few bytes? -/
noncomputable def fwB (key dg : List UInt8) (n : Nat) (N : Nat → Nat) (m : Nat) : Bool := @decide (key.length ≤ 40 ∧ dg.length ≤ 60 ∧ (n ≤ 26 ∧ ∀ i, i < n → N i ≤ 8) ∧ m ≤ 27) (Classical.propDecidable _)
theorem fwB_yes {key dg : List UInt8} {n : Nat} {N : Nat → Nat} {m : Nat} (h : key.length ≤ 40 ∧ dg.length ≤ 60 ∧ (n ≤ 26 ∧ ∀ i, i < n → N i ≤ 8) ∧ m ≤ 27) : fwB key dg n N m = true := @decide_eq_true _ (Classical.propDecidable _) h
theorem fwB_no {key dg : List UInt8} {n : Nat} {N : Nat → Nat} {m : Nat} (h : ¬ (key.length ≤ 40 ∧ dg.length ≤ 60 ∧ (n ≤ 26 ∧ ∀ i, i < n → N i ≤ 8) ∧ m ≤ 27)) : fwB key dg n N m = false := @decide_eq_false _ (Classical.propDecidable _) h
theorem fwB_is {key dg : List UInt8} {n : Nat} {N : Nat → Nat} {m : Nat} (h : fwB key dg n N m = true) : key.length ≤ 40 ∧ dg.length ≤ 60 ∧ (n ≤ 26 ∧ ∀ i, i < n → N i ≤ 8) ∧ m ≤ 27 := @of_decide_eq_true _ (Classical.propDecidable _) h
set_option maxRecDepth 100000 in
set_option maxHeartbeats 2000000 in
theorem rFew_any (kd op : Int) (key : List UInt8) (sq cl : Int) (dg : List UInt8) (a1 : Option Addr) (n c1 : Nat) (a2 : Option Addr) (m c2 : Nat)  (N : Nat → Nat) (M : Nat → Nat → Nat) (w : World) (hM : MtA w a1 n N M) :
  Calls Try.prog 10 #[.agg (msC kd op key sq cl dg a1 n c1 a2 m c2)] w fun e w' => e = .returned (.bool (fwB key dg n N m)) ∧ Below w.heap.size w w' := by
 by_cases h1 : key.length ≤ 40
 rotate_left
 ·rw [show fwB key dg n N m = false from fwB_no (fun h => h1 h.1)]
  go_enter Try.func10, Try.ntmps10
  (repeat ((fail_if_success with_reducible refine rg ?_); go_step))
  refine wp_region_pw ?_
  refine pw_boxr (by rfl) 29 _ rfl (msC kd op key sq cl dg a1 n c1 a2 m c2) rfl ?_
  intro g1 z0 n0 r1 k
  simp only [Act.put, pu]
  have b1 : w.heap.size ≤ g1 := n0
  clear n0
  have sb := k.below w.heap.size (Nat.le_refl _) (by simp)
  clear k
  refine pw_value (by rfl) (.bool false) (fun _ => rfl) ?_
  simp only [Act.put, pu]
  refine pw_nil ?_
  (repeat ((fail_if_success with_reducible refine rg ?_); go_step))
  refine wp_region_pw ?_
  refine pw_value (by rfl) (.pointer (some ⟨g1, 2, none⟩)) (exec_field 29 _ 2 rfl g1 0 rfl _ Try.underlying29 _ rfl 0 Try.sizeOf9) ?_
  simp only [Act.put, pu]
  refine pw_loadk (by rfl) 9 _ rfl _ (2) rfl r1.r (.string ⟨key.toArray⟩) rfl Try.isAgg9 ?_
  simp only [Act.put, pu]
  refine pw_value (by rfl) (.int .i64 (key.length : Nat)) (y_lenS _ _ rfl key rfl Try.underlying9) ?_
  simp only [Act.put, pu]
  refine pw_value (by rfl) (.bool false) (w_le _ _ _ _ rfl (key.length : Nat) 40 rfl rfl false (decide_eq_false (by omega))) ?_
  simp only [Act.put, pu]
  refine pw_mv (by rfl) rfl rfl ?_
  simp only [Act.put, pu]
  refine pw_skip (by rfl) ?_
  simp only [Act.put, pu]
  refine pw_skip (by rfl) ?_
  simp only [Act.put, pu]
  refine pw_skip (by rfl) ?_
  simp only [Act.put, pu]
  refine pw_skip (by rfl) ?_
  simp only [Act.put, pu]
  refine pw_pick (by rfl) false (v := .bool false) rfl rfl rfl ?_
  simp only [Act.put, pu]
  refine pw_mv (by rfl) rfl rfl ?_
  simp only [Act.put, pu]
  refine pw_skip (by rfl) ?_
  simp only [Act.put, pu]
  refine pw_skip (by rfl) ?_
  simp only [Act.put, pu]
  refine pw_skip (by rfl) ?_
  simp only [Act.put, pu]
  refine pw_pick (by rfl) false (v := .bool false) rfl rfl rfl ?_
  simp only [Act.put, pu]
  refine pw_mv (by rfl) rfl rfl ?_
  simp only [Act.put, pu]
  refine pw_skip (by rfl) ?_
  simp only [Act.put, pu]
  refine pw_skip (by rfl) ?_
  simp only [Act.put, pu]
  refine pw_skip (by rfl) ?_
  simp only [Act.put, pu]
  refine pw_skip (by rfl) ?_
  simp only [Act.put, pu]
  refine pw_pick (by rfl) false (v := .bool false) rfl rfl rfl ?_
  simp only [Act.put, pu]
  refine pw_as (by rfl) rfl rfl ?_
  simp only [Act.put, pu]
  refine pw_nil ?_
  go_wp2
  go_ret
  exact ⟨rfl, sb⟩
 by_cases h2 : dg.length ≤ 60
 rotate_left
 ·rw [show fwB key dg n N m = false from fwB_no (fun h => h2 h.2.1)]
  go_enter Try.func10, Try.ntmps10
  (repeat ((fail_if_success with_reducible refine rg ?_); go_step))
  refine wp_region_pw ?_
  refine pw_boxr (by rfl) 29 _ rfl (msC kd op key sq cl dg a1 n c1 a2 m c2) rfl ?_
  intro g1 z0 n0 r1 k
  simp only [Act.put, pu]
  have b1 : w.heap.size ≤ g1 := n0
  clear n0
  have sb := k.below w.heap.size (Nat.le_refl _) (by simp)
  clear k
  refine pw_value (by rfl) (.bool false) (fun _ => rfl) ?_
  simp only [Act.put, pu]
  refine pw_nil ?_
  (repeat ((fail_if_success with_reducible refine rg ?_); go_step))
  refine wp_region_pw ?_
  refine pw_value (by rfl) (.pointer (some ⟨g1, 2, none⟩)) (exec_field 29 _ 2 rfl g1 0 rfl _ Try.underlying29 _ rfl 0 Try.sizeOf9) ?_
  simp only [Act.put, pu]
  refine pw_loadk (by rfl) 9 _ rfl _ (2) rfl r1.r (.string ⟨key.toArray⟩) rfl Try.isAgg9 ?_
  simp only [Act.put, pu]
  refine pw_value (by rfl) (.int .i64 (key.length : Nat)) (y_lenS _ _ rfl key rfl Try.underlying9) ?_
  simp only [Act.put, pu]
  refine pw_value (by rfl) (.bool true) (w_le _ _ _ _ rfl (key.length : Nat) 40 rfl rfl true (decide_eq_true (by omega))) ?_
  simp only [Act.put, pu]
  refine pw_mv (by rfl) rfl rfl ?_
  simp only [Act.put, pu]
  refine pw_value (by rfl) (.pointer (some ⟨g1, 5, none⟩)) (exec_field 29 _ 4 rfl g1 0 rfl _ Try.underlying29 _ rfl 0 Try.sizeOf9) ?_
  simp only [Act.put, pu]
  refine pw_loadk (by rfl) 9 _ rfl _ (5) rfl r1.r (.string ⟨dg.toArray⟩) rfl Try.isAgg9 ?_
  simp only [Act.put, pu]
  refine pw_value (by rfl) (.int .i64 (dg.length : Nat)) (y_lenS _ _ rfl dg rfl Try.underlying9) ?_
  simp only [Act.put, pu]
  refine pw_value (by rfl) (.bool false) (w_le _ _ _ _ rfl (dg.length : Nat) 60 rfl rfl false (decide_eq_false (by omega))) ?_
  simp only [Act.put, pu]
  refine pw_pick (by rfl) true (v := .bool false) rfl rfl rfl ?_
  simp only [Act.put, pu]
  refine pw_mv (by rfl) rfl rfl ?_
  simp only [Act.put, pu]
  refine pw_skip (by rfl) ?_
  simp only [Act.put, pu]
  refine pw_skip (by rfl) ?_
  simp only [Act.put, pu]
  refine pw_skip (by rfl) ?_
  simp only [Act.put, pu]
  refine pw_pick (by rfl) false (v := .bool false) rfl rfl rfl ?_
  simp only [Act.put, pu]
  refine pw_mv (by rfl) rfl rfl ?_
  simp only [Act.put, pu]
  refine pw_skip (by rfl) ?_
  simp only [Act.put, pu]
  refine pw_skip (by rfl) ?_
  simp only [Act.put, pu]
  refine pw_skip (by rfl) ?_
  simp only [Act.put, pu]
  refine pw_skip (by rfl) ?_
  simp only [Act.put, pu]
  refine pw_pick (by rfl) false (v := .bool false) rfl rfl rfl ?_
  simp only [Act.put, pu]
  refine pw_as (by rfl) rfl rfl ?_
  simp only [Act.put, pu]
  refine pw_nil ?_
  go_wp2
  go_ret
  exact ⟨rfl, sb⟩
 by_cases h3 : n ≤ 26 ∧ ∀ i, i < n → N i ≤ 8
 rotate_left
 ·rw [show fwB key dg n N m = false from fwB_no (fun h => h3 h.2.2.1)]
  go_enter Try.func10, Try.ntmps10
  (repeat ((fail_if_success with_reducible refine rg ?_); go_step))
  refine wp_region_pw ?_
  refine pw_boxr (by rfl) 29 _ rfl (msC kd op key sq cl dg a1 n c1 a2 m c2) rfl ?_
  intro g1 z0 n0 r1 k
  simp only [Act.put, pu]
  have b1 : w.heap.size ≤ g1 := n0
  clear n0
  have sb := k.below w.heap.size (Nat.le_refl _) (by simp)
  clear k
  refine pw_value (by rfl) (.bool false) (fun _ => rfl) ?_
  simp only [Act.put, pu]
  refine pw_nil ?_
  (repeat ((fail_if_success with_reducible refine rg ?_); go_step))
  refine wp_region_pw ?_
  refine pw_value (by rfl) (.pointer (some ⟨g1, 2, none⟩)) (exec_field 29 _ 2 rfl g1 0 rfl _ Try.underlying29 _ rfl 0 Try.sizeOf9) ?_
  simp only [Act.put, pu]
  refine pw_loadk (by rfl) 9 _ rfl _ (2) rfl r1.r (.string ⟨key.toArray⟩) rfl Try.isAgg9 ?_
  simp only [Act.put, pu]
  refine pw_value (by rfl) (.int .i64 (key.length : Nat)) (y_lenS _ _ rfl key rfl Try.underlying9) ?_
  simp only [Act.put, pu]
  refine pw_value (by rfl) (.bool true) (w_le _ _ _ _ rfl (key.length : Nat) 40 rfl rfl true (decide_eq_true (by omega))) ?_
  simp only [Act.put, pu]
  refine pw_mv (by rfl) rfl rfl ?_
  simp only [Act.put, pu]
  refine pw_value (by rfl) (.pointer (some ⟨g1, 5, none⟩)) (exec_field 29 _ 4 rfl g1 0 rfl _ Try.underlying29 _ rfl 0 Try.sizeOf9) ?_
  simp only [Act.put, pu]
  refine pw_loadk (by rfl) 9 _ rfl _ (5) rfl r1.r (.string ⟨dg.toArray⟩) rfl Try.isAgg9 ?_
  simp only [Act.put, pu]
  refine pw_value (by rfl) (.int .i64 (dg.length : Nat)) (y_lenS _ _ rfl dg rfl Try.underlying9) ?_
  simp only [Act.put, pu]
  refine pw_value (by rfl) (.bool true) (w_le _ _ _ _ rfl (dg.length : Nat) 60 rfl rfl true (decide_eq_true (by omega))) ?_
  simp only [Act.put, pu]
  refine pw_pick (by rfl) true (v := .bool true) rfl rfl rfl ?_
  simp only [Act.put, pu]
  refine pw_mv (by rfl) rfl rfl ?_
  simp only [Act.put, pu]
  refine pw_value (by rfl) (.pointer (some ⟨g1, 6, none⟩)) (exec_field 29 _ 5 rfl g1 0 rfl _ Try.underlying29 _ rfl 0 Try.sizeOf26) ?_
  simp only [Act.put, pu]
  refine pw_loadk (by rfl) 26 _ rfl _ (6) rfl r1.r (.slice a1 n c1) rfl Try.isAgg26 ?_
  simp only [Act.put, pu]
  refine pw_callB (by rfl) 27 _ _ rfl Try.func27 (by kernel_rfl) #[.slice a1 n c1, .int .i64 26] rfl _ (rmfew_b 26 false a1 n c1 N M _ (by decide) (iff_of_false (by decide) h3) (hM.below sb)) ?_
  intro z1013 k
  simp only [Act.put, pu]
  replace r1 := k.row r1 (by simp <;> omega)
  replace sb := sb.trans (k.below w.heap.size sb.size (by simp <;> omega))
  clear k
  refine pw_pick (by rfl) true (v := .bool false) rfl rfl rfl ?_
  simp only [Act.put, pu]
  refine pw_mv (by rfl) rfl rfl ?_
  simp only [Act.put, pu]
  refine pw_skip (by rfl) ?_
  simp only [Act.put, pu]
  refine pw_skip (by rfl) ?_
  simp only [Act.put, pu]
  refine pw_skip (by rfl) ?_
  simp only [Act.put, pu]
  refine pw_skip (by rfl) ?_
  simp only [Act.put, pu]
  refine pw_pick (by rfl) false (v := .bool false) rfl rfl rfl ?_
  simp only [Act.put, pu]
  refine pw_as (by rfl) rfl rfl ?_
  simp only [Act.put, pu]
  refine pw_nil ?_
  go_wp2
  go_ret
  exact ⟨rfl, sb⟩
 by_cases h4 : m ≤ 27
 rotate_left
 ·rw [show fwB key dg n N m = false from fwB_no (fun h => h4 h.2.2.2)]
  go_enter Try.func10, Try.ntmps10
  (repeat ((fail_if_success with_reducible refine rg ?_); go_step))
  refine wp_region_pw ?_
  refine pw_boxr (by rfl) 29 _ rfl (msC kd op key sq cl dg a1 n c1 a2 m c2) rfl ?_
  intro g1 z0 n0 r1 k
  simp only [Act.put, pu]
  have b1 : w.heap.size ≤ g1 := n0
  clear n0
  have sb := k.below w.heap.size (Nat.le_refl _) (by simp)
  clear k
  refine pw_value (by rfl) (.bool false) (fun _ => rfl) ?_
  simp only [Act.put, pu]
  refine pw_nil ?_
  (repeat ((fail_if_success with_reducible refine rg ?_); go_step))
  refine wp_region_pw ?_
  refine pw_value (by rfl) (.pointer (some ⟨g1, 2, none⟩)) (exec_field 29 _ 2 rfl g1 0 rfl _ Try.underlying29 _ rfl 0 Try.sizeOf9) ?_
  simp only [Act.put, pu]
  refine pw_loadk (by rfl) 9 _ rfl _ (2) rfl r1.r (.string ⟨key.toArray⟩) rfl Try.isAgg9 ?_
  simp only [Act.put, pu]
  refine pw_value (by rfl) (.int .i64 (key.length : Nat)) (y_lenS _ _ rfl key rfl Try.underlying9) ?_
  simp only [Act.put, pu]
  refine pw_value (by rfl) (.bool true) (w_le _ _ _ _ rfl (key.length : Nat) 40 rfl rfl true (decide_eq_true (by omega))) ?_
  simp only [Act.put, pu]
  refine pw_mv (by rfl) rfl rfl ?_
  simp only [Act.put, pu]
  refine pw_value (by rfl) (.pointer (some ⟨g1, 5, none⟩)) (exec_field 29 _ 4 rfl g1 0 rfl _ Try.underlying29 _ rfl 0 Try.sizeOf9) ?_
  simp only [Act.put, pu]
  refine pw_loadk (by rfl) 9 _ rfl _ (5) rfl r1.r (.string ⟨dg.toArray⟩) rfl Try.isAgg9 ?_
  simp only [Act.put, pu]
  refine pw_value (by rfl) (.int .i64 (dg.length : Nat)) (y_lenS _ _ rfl dg rfl Try.underlying9) ?_
  simp only [Act.put, pu]
  refine pw_value (by rfl) (.bool true) (w_le _ _ _ _ rfl (dg.length : Nat) 60 rfl rfl true (decide_eq_true (by omega))) ?_
  simp only [Act.put, pu]
  refine pw_pick (by rfl) true (v := .bool true) rfl rfl rfl ?_
  simp only [Act.put, pu]
  refine pw_mv (by rfl) rfl rfl ?_
  simp only [Act.put, pu]
  refine pw_value (by rfl) (.pointer (some ⟨g1, 6, none⟩)) (exec_field 29 _ 5 rfl g1 0 rfl _ Try.underlying29 _ rfl 0 Try.sizeOf26) ?_
  simp only [Act.put, pu]
  refine pw_loadk (by rfl) 26 _ rfl _ (6) rfl r1.r (.slice a1 n c1) rfl Try.isAgg26 ?_
  simp only [Act.put, pu]
  refine pw_callB (by rfl) 27 _ _ rfl Try.func27 (by kernel_rfl) #[.slice a1 n c1, .int .i64 26] rfl _ (rmfew_b 26 true a1 n c1 N M _ (by decide) (iff_of_true rfl h3) (hM.below sb)) ?_
  intro z1013 k
  simp only [Act.put, pu]
  replace r1 := k.row r1 (by simp <;> omega)
  replace sb := sb.trans (k.below w.heap.size sb.size (by simp <;> omega))
  clear k
  refine pw_pick (by rfl) true (v := .bool true) rfl rfl rfl ?_
  simp only [Act.put, pu]
  refine pw_mv (by rfl) rfl rfl ?_
  simp only [Act.put, pu]
  refine pw_value (by rfl) (.pointer (some ⟨g1, 7, none⟩)) (exec_field 29 _ 6 rfl g1 0 rfl _ Try.underlying29 _ rfl 0 Try.sizeOf27) ?_
  simp only [Act.put, pu]
  refine pw_loadk (by rfl) 27 _ rfl _ (7) rfl r1.r (.slice a2 m c2) rfl Try.isAgg27 ?_
  simp only [Act.put, pu]
  refine pw_value (by rfl) (.int .i64 (m : Nat)) (exec_len_s 27 _ rfl a2 m c2 rfl sl_yw) ?_
  simp only [Act.put, pu]
  refine pw_value (by rfl) (.bool false) (w_le _ _ _ _ rfl (m : Nat) 27 rfl rfl false (decide_eq_false (by omega))) ?_
  simp only [Act.put, pu]
  refine pw_pick (by rfl) true (v := .bool false) rfl rfl rfl ?_
  simp only [Act.put, pu]
  refine pw_as (by rfl) rfl rfl ?_
  simp only [Act.put, pu]
  refine pw_nil ?_
  go_wp2
  go_ret
  exact ⟨rfl, sb⟩
 rw [show fwB key dg n N m = true from fwB_yes ⟨h1, h2, h3, h4⟩]
 go_enter Try.func10, Try.ntmps10
 (repeat ((fail_if_success with_reducible refine rg ?_); go_step))
 refine wp_region_pw ?_
 refine pw_boxr (by rfl) 29 _ rfl (msC kd op key sq cl dg a1 n c1 a2 m c2) rfl ?_
 intro g1 z0 n0 r1 k
 simp only [Act.put, pu]
 have b1 : w.heap.size ≤ g1 := n0
 clear n0
 have sb := k.below w.heap.size (Nat.le_refl _) (by simp)
 clear k
 refine pw_value (by rfl) (.bool false) (fun _ => rfl) ?_
 simp only [Act.put, pu]
 refine pw_nil ?_
 (repeat ((fail_if_success with_reducible refine rg ?_); go_step))
 refine wp_region_pw ?_
 refine pw_value (by rfl) (.pointer (some ⟨g1, 2, none⟩)) (exec_field 29 _ 2 rfl g1 0 rfl _ Try.underlying29 _ rfl 0 Try.sizeOf9) ?_
 simp only [Act.put, pu]
 refine pw_loadk (by rfl) 9 _ rfl _ (2) rfl r1.r (.string ⟨key.toArray⟩) rfl Try.isAgg9 ?_
 simp only [Act.put, pu]
 refine pw_value (by rfl) (.int .i64 (key.length : Nat)) (y_lenS _ _ rfl key rfl Try.underlying9) ?_
 simp only [Act.put, pu]
 refine pw_value (by rfl) (.bool true) (w_le _ _ _ _ rfl (key.length : Nat) 40 rfl rfl true (decide_eq_true (by omega))) ?_
 simp only [Act.put, pu]
 refine pw_mv (by rfl) rfl rfl ?_
 simp only [Act.put, pu]
 refine pw_value (by rfl) (.pointer (some ⟨g1, 5, none⟩)) (exec_field 29 _ 4 rfl g1 0 rfl _ Try.underlying29 _ rfl 0 Try.sizeOf9) ?_
 simp only [Act.put, pu]
 refine pw_loadk (by rfl) 9 _ rfl _ (5) rfl r1.r (.string ⟨dg.toArray⟩) rfl Try.isAgg9 ?_
 simp only [Act.put, pu]
 refine pw_value (by rfl) (.int .i64 (dg.length : Nat)) (y_lenS _ _ rfl dg rfl Try.underlying9) ?_
 simp only [Act.put, pu]
 refine pw_value (by rfl) (.bool true) (w_le _ _ _ _ rfl (dg.length : Nat) 60 rfl rfl true (decide_eq_true (by omega))) ?_
 simp only [Act.put, pu]
 refine pw_pick (by rfl) true (v := .bool true) rfl rfl rfl ?_
 simp only [Act.put, pu]
 refine pw_mv (by rfl) rfl rfl ?_
 simp only [Act.put, pu]
 refine pw_value (by rfl) (.pointer (some ⟨g1, 6, none⟩)) (exec_field 29 _ 5 rfl g1 0 rfl _ Try.underlying29 _ rfl 0 Try.sizeOf26) ?_
 simp only [Act.put, pu]
 refine pw_loadk (by rfl) 26 _ rfl _ (6) rfl r1.r (.slice a1 n c1) rfl Try.isAgg26 ?_
 simp only [Act.put, pu]
 refine pw_callB (by rfl) 27 _ _ rfl Try.func27 (by kernel_rfl) #[.slice a1 n c1, .int .i64 26] rfl _ (rmfew_b 26 true a1 n c1 N M _ (by decide) (iff_of_true rfl h3) (hM.below sb)) ?_
 intro z1013 k
 simp only [Act.put, pu]
 replace r1 := k.row r1 (by simp <;> omega)
 replace sb := sb.trans (k.below w.heap.size sb.size (by simp <;> omega))
 clear k
 refine pw_pick (by rfl) true (v := .bool true) rfl rfl rfl ?_
 simp only [Act.put, pu]
 refine pw_mv (by rfl) rfl rfl ?_
 simp only [Act.put, pu]
 refine pw_value (by rfl) (.pointer (some ⟨g1, 7, none⟩)) (exec_field 29 _ 6 rfl g1 0 rfl _ Try.underlying29 _ rfl 0 Try.sizeOf27) ?_
 simp only [Act.put, pu]
 refine pw_loadk (by rfl) 27 _ rfl _ (7) rfl r1.r (.slice a2 m c2) rfl Try.isAgg27 ?_
 simp only [Act.put, pu]
 refine pw_value (by rfl) (.int .i64 (m : Nat)) (exec_len_s 27 _ rfl a2 m c2 rfl sl_yw) ?_
 simp only [Act.put, pu]
 refine pw_value (by rfl) (.bool true) (w_le _ _ _ _ rfl (m : Nat) 27 rfl rfl true (decide_eq_true (by omega))) ?_
 simp only [Act.put, pu]
 refine pw_pick (by rfl) true (v := .bool true) rfl rfl rfl ?_
 simp only [Act.put, pu]
 refine pw_as (by rfl) rfl rfl ?_
 simp only [Act.put, pu]
 refine pw_nil ?_
 go_wp2
 go_ret
 exact ⟨rfl, sb⟩
end Go.Proofs.Ytojobffihlmfgaa
