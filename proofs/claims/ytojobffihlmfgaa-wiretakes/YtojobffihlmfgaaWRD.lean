/- The document's May: may a message be? -/
import Derived.Test.YtojobffihlmfgaaWRB
import Derived.Test.YtojobffihlmfgaaWRC
import Derived.Test.YtojobffihlmfgaaMA
namespace Go.Proofs.Ytojobffihlmfgaa
open Go.RowKit
set_option linter.unusedVariables false
set_option linter.unusedSimpArgs false
theorem w_neI {P : Program} {o : Oper} {ρ : Operand → Value} (t : TypeId) (x y : Operand) (u : TypeId) (ho : o.op = .binOp .neq t x y u) (k : IntKind) (n m : Int) (hx : ρ x = .int k n) (hy : ρ y = .int k m) (b : Bool) (hb : decide (n = m) = !b) (w : World) :
  (execOp ρ o).run P w = .ok (.value (.bool b)) w := by
 unfold execOp
 simp only [ho, hx, hy]
 simp [eqGuard, go_sem]
 cases b <;> simp at hb <;> simp [hb]
set_option maxRecDepth 100000 in
set_option maxHeartbeats 2000000 in
theorem rmayX_any (kd op : Int) (key : List UInt8) (sq cl : Int) (dg : List UInt8) (a1 : Option Addr) (n c1 : Nat) (a2 : Option Addr) (m c2 : Nat) (X : List UInt8) (w : World) (hkl : key.length < 9223372036854775808)
  (hD : ∀ w', Below w.heap.size w w' → Calls Try.prog 67 #[.agg (msC kd op key sq cl dg a1 n c1 a2 m c2)] w' fun e w2 => e = .returned (.bool (dlB n m X)) ∧ Below w'.heap.size w' w2) :
  Calls Try.prog 41 #[.agg (msC kd op key sq cl dg a1 n c1 a2 m c2)] w fun e w' => e = .returned (.bool (wmB kd op key sq cl dg (brB n m) (dlB n m X))) ∧ Below w.heap.size w w' := by
 obtain ⟨W0, hW0⟩ : ∃ b, wmB kd op key sq cl dg (brB n m) (dlB n m X) = b := ⟨_, rfl⟩
 rw [hW0]
 go_enter Try.func41, Try.ntmps41
 (repeat ((fail_if_success with_reducible refine rg ?_); go_step))
 refine wp_region_pw ?_
 refine pw_boxr (by rfl) 29 _ rfl (msC kd op key sq cl dg a1 n c1 a2 m c2) rfl ?_
 intro g1 z0 n0 r1 k
 simp only [Act.put, pu]
 have b1 : w.heap.size ≤ g1 := n0
 clear n0
 have sb := k.below w.heap.size (Nat.le_refl _) (by simp)
 clear k
 refine pw_value (by rfl) (.bool false) (fun _ => rfl) ?_
 simp only [Act.put, pu]
 refine pw_nil ?_
 by_cases h5 : kd = 5
 ·skip
  (repeat ((fail_if_success with_reducible refine rg ?_); go_step))
  refine wp_region_pw ?_
  refine pw_value (by rfl) (.pointer (some ⟨g1, 0, none⟩)) (exec_field 29 _ 0 rfl g1 0 rfl _ Try.underlying29 _ rfl 0 Try.sizeOf3) ?_
  simp only [Act.put, pu]
  refine pw_loadk (by rfl) 3 _ rfl _ (0) rfl r1.r (.int .i64 kd) rfl Try.isAgg3 ?_
  simp only [Act.put, pu]
  refine pw_value (by rfl) (.bool true) (x_eqI _ _ _ _ rfl .i64 kd 5 rfl rfl true (decide_eq_true (by omega))) ?_
  simp only [Act.put, pu]
  refine pw_mv (by rfl) rfl rfl ?_
  simp only [Act.put, pu]
  refine pw_skip (by rfl) ?_
  simp only [Act.put, pu]
  refine pw_skip (by rfl) ?_
  simp only [Act.put, pu]
  refine pw_skip (by rfl) ?_
  simp only [Act.put, pu]
  refine pw_pick (by rfl) true (v := .bool true) rfl rfl rfl ?_
  simp only [Act.put, pu]
  refine pw_as (by rfl) rfl rfl ?_
  simp only [Act.put, pu]
  refine pw_nil ?_
  cases hk : keyB key with
  | false =>
   have hv : W0 = false := by rw [← hW0]; simp [wmB, hk]
   (repeat ((fail_if_success with_reducible refine rg ?_); go_step))
   refine wp_region_pw ?_
   refine pw_value (by rfl) (.pointer (some ⟨g1, 2, none⟩)) (exec_field 29 _ 2 rfl g1 0 rfl _ Try.underlying29 _ rfl 0 Try.sizeOf9) ?_
   simp only [Act.put, pu]
   refine pw_loadk (by rfl) 9 _ rfl _ (2) rfl r1.r (.string ⟨key.toArray⟩) rfl Try.isAgg9 ?_
   simp only [Act.put, pu]
   refine pw_callB (by rfl) 64 _ _ rfl Try.func64 (by kernel_rfl) #[.string ⟨key.toArray⟩] rfl _ ((rwkey_any key _ hkl).mono fun e w' ⟨he, hb⟩ => ⟨he.trans (by rw [hk]), hb⟩) ?_
   intro z2002 k
   simp only [Act.put, pu]
   replace r1 := k.row r1 (by simp <;> omega)
   replace sb := sb.trans (k.below w.heap.size sb.size (by simp <;> omega))
   clear k
   refine pw_value (by rfl) (.bool true) (exec_not _ _ rfl false rfl) ?_
   simp only [Act.put, pu]
   refine pw_mv (by rfl) rfl rfl ?_
   simp only [Act.put, pu]
   refine pw_skip (by rfl) ?_
   simp only [Act.put, pu]
   refine pw_skip (by rfl) ?_
   simp only [Act.put, pu]
   refine pw_skip (by rfl) ?_
   simp only [Act.put, pu]
   refine pw_skip (by rfl) ?_
   simp only [Act.put, pu]
   refine pw_skip (by rfl) ?_
   simp only [Act.put, pu]
   refine pw_skip (by rfl) ?_
   simp only [Act.put, pu]
   refine pw_pick (by rfl) true (v := .bool true) rfl rfl rfl ?_
   simp only [Act.put, pu]
   refine pw_mv (by rfl) rfl rfl ?_
   simp only [Act.put, pu]
   refine pw_skip (by rfl) ?_
   simp only [Act.put, pu]
   refine pw_skip (by rfl) ?_
   simp only [Act.put, pu]
   refine pw_skip (by rfl) ?_
   simp only [Act.put, pu]
   refine pw_skip (by rfl) ?_
   simp only [Act.put, pu]
   refine pw_skip (by rfl) ?_
   simp only [Act.put, pu]
   refine pw_skip (by rfl) ?_
   simp only [Act.put, pu]
   refine pw_skip (by rfl) ?_
   simp only [Act.put, pu]
   refine pw_skip (by rfl) ?_
   simp only [Act.put, pu]
   refine pw_skip (by rfl) ?_
   simp only [Act.put, pu]
   refine pw_skip (by rfl) ?_
   simp only [Act.put, pu]
   refine pw_skip (by rfl) ?_
   simp only [Act.put, pu]
   refine pw_skip (by rfl) ?_
   simp only [Act.put, pu]
   refine pw_pick (by rfl) true (v := .bool true) rfl rfl rfl ?_
   simp only [Act.put, pu]
   refine pw_nil ?_
   (repeat ((fail_if_success with_reducible refine rg ?_); go_step))
   refine wp_region_pw ?_
   refine pw_value (by rfl) (.bool false) (fun _ => rfl) ?_
   simp only [Act.put, pu]
   refine pw_nil ?_
   go_wp2
   go_ret
   first | exact ⟨by rw [hv]; rfl, sb⟩ | exact ⟨rfl, sb⟩
  | true =>
   by_cases ho : op = 0
   ·have hop : opB kd op = true := by unfold opB; rw [if_pos (by omega)]; exact decide_eq_true ho
    (repeat ((fail_if_success with_reducible refine rg ?_); go_step))
    refine wp_region_pw ?_
    refine pw_value (by rfl) (.pointer (some ⟨g1, 2, none⟩)) (exec_field 29 _ 2 rfl g1 0 rfl _ Try.underlying29 _ rfl 0 Try.sizeOf9) ?_
    simp only [Act.put, pu]
    refine pw_loadk (by rfl) 9 _ rfl _ (2) rfl r1.r (.string ⟨key.toArray⟩) rfl Try.isAgg9 ?_
    simp only [Act.put, pu]
    refine pw_callB (by rfl) 64 _ _ rfl Try.func64 (by kernel_rfl) #[.string ⟨key.toArray⟩] rfl _ ((rwkey_any key _ hkl).mono fun e w' ⟨he, hb⟩ => ⟨he.trans (by rw [hk]), hb⟩) ?_
    intro z2002 k
    simp only [Act.put, pu]
    replace r1 := k.row r1 (by simp <;> omega)
    replace sb := sb.trans (k.below w.heap.size sb.size (by simp <;> omega))
    clear k
    refine pw_value (by rfl) (.bool false) (exec_not _ _ rfl true rfl) ?_
    simp only [Act.put, pu]
    refine pw_mv (by rfl) rfl rfl ?_
    simp only [Act.put, pu]
    refine pw_mv (by rfl) rfl rfl ?_
    simp only [Act.put, pu]
    refine pw_mv (by rfl) rfl rfl ?_
    simp only [Act.put, pu]
    refine pw_value (by rfl) (.pointer (some ⟨g1, 1, none⟩)) (exec_field 29 _ 1 rfl g1 0 rfl _ Try.underlying29 _ rfl 0 Try.sizeOf3) ?_
    simp only [Act.put, pu]
    refine pw_loadk (by rfl) 3 _ rfl _ (1) rfl r1.r (.int .i64 op) rfl Try.isAgg3 ?_
    simp only [Act.put, pu]
    refine pw_value (by rfl) (.bool false) (w_neI _ _ _ _ rfl .i64 op 0 rfl rfl false (decide_eq_true (by omega))) ?_
    simp only [Act.put, pu]
    refine pw_pick (by rfl) true (v := .bool false) rfl rfl rfl ?_
    simp only [Act.put, pu]
    refine pw_pick (by rfl) false (v := .bool false) rfl rfl rfl ?_
    simp only [Act.put, pu]
    refine pw_mv (by rfl) rfl rfl ?_
    simp only [Act.put, pu]
    refine pw_mv (by rfl) rfl rfl ?_
    simp only [Act.put, pu]
    refine pw_value (by rfl) (.bool false) (exec_not _ _ rfl true rfl) ?_
    simp only [Act.put, pu]
    refine pw_mv (by rfl) rfl rfl ?_
    simp only [Act.put, pu]
    refine pw_skip (by rfl) ?_
    simp only [Act.put, pu]
    refine pw_skip (by rfl) ?_
    simp only [Act.put, pu]
    refine pw_skip (by rfl) ?_
    simp only [Act.put, pu]
    refine pw_skip (by rfl) ?_
    simp only [Act.put, pu]
    refine pw_skip (by rfl) ?_
    simp only [Act.put, pu]
    refine pw_skip (by rfl) ?_
    simp only [Act.put, pu]
    refine pw_skip (by rfl) ?_
    simp only [Act.put, pu]
    refine pw_skip (by rfl) ?_
    simp only [Act.put, pu]
    refine pw_pick (by rfl) false (v := .bool false) rfl rfl rfl ?_
    simp only [Act.put, pu]
    refine pw_pick (by rfl) false (v := .bool false) rfl rfl rfl ?_
    simp only [Act.put, pu]
    refine pw_nil ?_
    (repeat ((fail_if_success with_reducible refine rg ?_); go_step))
    refine wp_region_pw ?_
    refine pw_value (by rfl) (.pointer (some ⟨g1, 3, none⟩)) (exec_field 29 _ 3 rfl g1 0 rfl _ Try.underlying29 _ rfl 1 Try.sizeOf24) ?_
    simp only [Act.put, pu]
    refine pw_loadm (by rfl) 24 _ rfl _ (3) rfl r1.r (tsC sq cl) (ms_st _ _ _ _ _ _ _ _ _ _ _ _) _ Try.underlying24 rfl size_st ?_
    simp only [Act.put, pu]
    refine pw_value (by rfl) (.agg (tsC 0 0)) (exec_buildv _ [] rfl [] rfl _ built_st0) ?_
    simp only [Act.put, pu]
    refine pw_value (by rfl) (.bool (zsB sq cl)) (exec_eql_st _ _ _ rfl sq cl 0 0 rfl rfl _ rfl) ?_
    simp only [Act.put, pu]
    refine pw_as (by rfl) rfl rfl ?_
    simp only [Act.put, pu]
    refine pw_nil ?_
    (repeat ((fail_if_success with_reducible refine rg ?_); go_step))
    refine wp_region_pw ?_
    refine pw_value (by rfl) (.pointer (some ⟨g1, 0, none⟩)) (exec_field 29 _ 0 rfl g1 0 rfl _ Try.underlying29 _ rfl 0 Try.sizeOf3) ?_
    simp only [Act.put, pu]
    refine pw_loadk (by rfl) 3 _ rfl _ (0) rfl r1.r (.int .i64 kd) rfl Try.isAgg3 ?_
    simp only [Act.put, pu]
    refine pw_nil ?_
    (repeat ((fail_if_success with_reducible refine rg ?_); go_step))
    refine wp_region_pw ?_
    refine pw_value (by rfl) (.bool false) (x_eqI _ _ _ _ rfl .i64 kd 1 rfl rfl false (decide_eq_false (by omega))) ?_
    simp only [Act.put, pu]
    refine pw_as (by rfl) rfl rfl ?_
    simp only [Act.put, pu]
    refine pw_nil ?_
    (repeat ((fail_if_success with_reducible refine rg ?_); go_step))
    refine wp_region_pw ?_
    refine pw_value (by rfl) (.bool false) (x_eqI _ _ _ _ rfl .i64 kd 2 rfl rfl false (decide_eq_false (by omega))) ?_
    simp only [Act.put, pu]
    refine pw_as (by rfl) rfl rfl ?_
    simp only [Act.put, pu]
    refine pw_nil ?_
    (repeat ((fail_if_success with_reducible refine rg ?_); go_step))
    refine wp_region_pw ?_
    refine pw_value (by rfl) (.bool false) (x_eqI _ _ _ _ rfl .i64 kd 3 rfl rfl false (decide_eq_false (by omega))) ?_
    simp only [Act.put, pu]
    refine pw_as (by rfl) rfl rfl ?_
    simp only [Act.put, pu]
    refine pw_nil ?_
    (repeat ((fail_if_success with_reducible refine rg ?_); go_step))
    refine wp_region_pw ?_
    refine pw_value (by rfl) (.bool false) (x_eqI _ _ _ _ rfl .i64 kd 4 rfl rfl false (decide_eq_false (by omega))) ?_
    simp only [Act.put, pu]
    refine pw_as (by rfl) rfl rfl ?_
    simp only [Act.put, pu]
    refine pw_nil ?_
    (repeat ((fail_if_success with_reducible refine rg ?_); go_step))
    refine wp_region_pw ?_
    refine pw_value (by rfl) (.bool false) (x_eqI _ _ _ _ rfl .i64 kd 8 rfl rfl false (decide_eq_false (by omega))) ?_
    simp only [Act.put, pu]
    refine pw_as (by rfl) rfl rfl ?_
    simp only [Act.put, pu]
    refine pw_nil ?_
    (repeat ((fail_if_success with_reducible refine rg ?_); go_step))
    refine wp_region_pw ?_
    refine pw_value (by rfl) (.bool true) (x_eqI _ _ _ _ rfl .i64 kd 5 rfl rfl true (decide_eq_true (by omega))) ?_
    simp only [Act.put, pu]
    refine pw_as (by rfl) rfl rfl ?_
    simp only [Act.put, pu]
    refine pw_nil ?_
    cases hst : stB sq cl with
    | true =>
     cases h32 : g32 dg with
     | true =>
      cases hbr : brB n m with
      | true =>
       have hv : W0 = true := by rw [← hW0, wm_kn hk hop]; simp [kndB, h5, hst, h32, hbr]
       (repeat ((fail_if_success with_reducible refine rg ?_); go_step))
       refine wp_region_pw ?_
       refine pw_value (by rfl) (.pointer (some ⟨g1, 3, none⟩)) (exec_field 29 _ 3 rfl g1 0 rfl _ Try.underlying29 _ rfl 1 Try.sizeOf24) ?_
       simp only [Act.put, pu]
       refine pw_loadm (by rfl) 24 _ rfl _ (3) rfl r1.r (tsC sq cl) (ms_st _ _ _ _ _ _ _ _ _ _ _ _) _ Try.underlying24 rfl size_st ?_
       simp only [Act.put, pu]
       refine pw_callB (by rfl) 66 _ _ rfl Try.func66 (by kernel_rfl) #[.agg (tsC sq cl)] rfl _ ((rwst_any sq cl _).mono fun e w' ⟨he, hb⟩ => ⟨he.trans (by rw [hst]), hb⟩) ?_
       intro z18002 k
       simp only [Act.put, pu]
       replace r1 := k.row r1 (by simp <;> omega)
       replace sb := sb.trans (k.below w.heap.size sb.size (by simp <;> omega))
       clear k
       refine pw_mv (by rfl) rfl rfl ?_
       simp only [Act.put, pu]
       refine pw_value (by rfl) (.pointer (some ⟨g1, 5, none⟩)) (exec_field 29 _ 4 rfl g1 0 rfl _ Try.underlying29 _ rfl 0 Try.sizeOf9) ?_
       simp only [Act.put, pu]
       refine pw_loadk (by rfl) 9 _ rfl _ (5) rfl r1.r (.string ⟨dg.toArray⟩) rfl Try.isAgg9 ?_
       simp only [Act.put, pu]
       refine pw_value (by rfl) (.int .i64 (dg.length : Nat)) (y_lenS _ _ rfl dg rfl Try.underlying9) ?_
       simp only [Act.put, pu]
       refine pw_value (by rfl) (.bool true) (x_eqI _ _ _ _ rfl .i64 (dg.length : Nat) 32 rfl rfl true h32) ?_
       simp only [Act.put, pu]
       refine pw_pick (by rfl) true (v := .bool true) rfl rfl rfl ?_
       simp only [Act.put, pu]
       refine pw_mv (by rfl) rfl rfl ?_
       simp only [Act.put, pu]
       refine pw_loadm (by rfl) 29 _ rfl _ (0) rfl r1.r (msC kd op key sq cl dg a1 n c1 a2 m c2) (part_all _) _ Try.underlying29 rfl size_ms ?_
       simp only [Act.put, pu]
       refine pw_callB (by rfl) 65 _ _ rfl Try.func65 (by kernel_rfl) #[.agg (msC kd op key sq cl dg a1 n c1 a2 m c2)] rfl _ ((rwbare_any kd op key sq cl dg a1 n c1 a2 m c2 _).mono fun e w' ⟨he, hb⟩ => ⟨he.trans (by rw [hbr]), hb⟩) ?_
       intro z18011 k
       simp only [Act.put, pu]
       replace r1 := k.row r1 (by simp <;> omega)
       replace sb := sb.trans (k.below w.heap.size sb.size (by simp <;> omega))
       clear k
       refine pw_pick (by rfl) true (v := .bool true) rfl rfl rfl ?_
       simp only [Act.put, pu]
       refine pw_as (by rfl) rfl rfl ?_
       simp only [Act.put, pu]
       refine pw_nil ?_
       go_wp2
       go_ret
       first | exact ⟨by rw [hv]; rfl, sb⟩ | exact ⟨rfl, sb⟩
      | false =>
       have hv : W0 = false := by rw [← hW0, wm_kn hk hop]; simp [kndB, h5, hst, h32, hbr]
       (repeat ((fail_if_success with_reducible refine rg ?_); go_step))
       refine wp_region_pw ?_
       refine pw_value (by rfl) (.pointer (some ⟨g1, 3, none⟩)) (exec_field 29 _ 3 rfl g1 0 rfl _ Try.underlying29 _ rfl 1 Try.sizeOf24) ?_
       simp only [Act.put, pu]
       refine pw_loadm (by rfl) 24 _ rfl _ (3) rfl r1.r (tsC sq cl) (ms_st _ _ _ _ _ _ _ _ _ _ _ _) _ Try.underlying24 rfl size_st ?_
       simp only [Act.put, pu]
       refine pw_callB (by rfl) 66 _ _ rfl Try.func66 (by kernel_rfl) #[.agg (tsC sq cl)] rfl _ ((rwst_any sq cl _).mono fun e w' ⟨he, hb⟩ => ⟨he.trans (by rw [hst]), hb⟩) ?_
       intro z18002 k
       simp only [Act.put, pu]
       replace r1 := k.row r1 (by simp <;> omega)
       replace sb := sb.trans (k.below w.heap.size sb.size (by simp <;> omega))
       clear k
       refine pw_mv (by rfl) rfl rfl ?_
       simp only [Act.put, pu]
       refine pw_value (by rfl) (.pointer (some ⟨g1, 5, none⟩)) (exec_field 29 _ 4 rfl g1 0 rfl _ Try.underlying29 _ rfl 0 Try.sizeOf9) ?_
       simp only [Act.put, pu]
       refine pw_loadk (by rfl) 9 _ rfl _ (5) rfl r1.r (.string ⟨dg.toArray⟩) rfl Try.isAgg9 ?_
       simp only [Act.put, pu]
       refine pw_value (by rfl) (.int .i64 (dg.length : Nat)) (y_lenS _ _ rfl dg rfl Try.underlying9) ?_
       simp only [Act.put, pu]
       refine pw_value (by rfl) (.bool true) (x_eqI _ _ _ _ rfl .i64 (dg.length : Nat) 32 rfl rfl true h32) ?_
       simp only [Act.put, pu]
       refine pw_pick (by rfl) true (v := .bool true) rfl rfl rfl ?_
       simp only [Act.put, pu]
       refine pw_mv (by rfl) rfl rfl ?_
       simp only [Act.put, pu]
       refine pw_loadm (by rfl) 29 _ rfl _ (0) rfl r1.r (msC kd op key sq cl dg a1 n c1 a2 m c2) (part_all _) _ Try.underlying29 rfl size_ms ?_
       simp only [Act.put, pu]
       refine pw_callB (by rfl) 65 _ _ rfl Try.func65 (by kernel_rfl) #[.agg (msC kd op key sq cl dg a1 n c1 a2 m c2)] rfl _ ((rwbare_any kd op key sq cl dg a1 n c1 a2 m c2 _).mono fun e w' ⟨he, hb⟩ => ⟨he.trans (by rw [hbr]), hb⟩) ?_
       intro z18011 k
       simp only [Act.put, pu]
       replace r1 := k.row r1 (by simp <;> omega)
       replace sb := sb.trans (k.below w.heap.size sb.size (by simp <;> omega))
       clear k
       refine pw_pick (by rfl) true (v := .bool false) rfl rfl rfl ?_
       simp only [Act.put, pu]
       refine pw_as (by rfl) rfl rfl ?_
       simp only [Act.put, pu]
       refine pw_nil ?_
       go_wp2
       go_ret
       first | exact ⟨by rw [hv]; rfl, sb⟩ | exact ⟨rfl, sb⟩
     | false =>
      have hv : W0 = false := by rw [← hW0, wm_kn hk hop]; simp [kndB, h5, hst, h32]
      (repeat ((fail_if_success with_reducible refine rg ?_); go_step))
      refine wp_region_pw ?_
      refine pw_value (by rfl) (.pointer (some ⟨g1, 3, none⟩)) (exec_field 29 _ 3 rfl g1 0 rfl _ Try.underlying29 _ rfl 1 Try.sizeOf24) ?_
      simp only [Act.put, pu]
      refine pw_loadm (by rfl) 24 _ rfl _ (3) rfl r1.r (tsC sq cl) (ms_st _ _ _ _ _ _ _ _ _ _ _ _) _ Try.underlying24 rfl size_st ?_
      simp only [Act.put, pu]
      refine pw_callB (by rfl) 66 _ _ rfl Try.func66 (by kernel_rfl) #[.agg (tsC sq cl)] rfl _ ((rwst_any sq cl _).mono fun e w' ⟨he, hb⟩ => ⟨he.trans (by rw [hst]), hb⟩) ?_
      intro z18002 k
      simp only [Act.put, pu]
      replace r1 := k.row r1 (by simp <;> omega)
      replace sb := sb.trans (k.below w.heap.size sb.size (by simp <;> omega))
      clear k
      refine pw_mv (by rfl) rfl rfl ?_
      simp only [Act.put, pu]
      refine pw_value (by rfl) (.pointer (some ⟨g1, 5, none⟩)) (exec_field 29 _ 4 rfl g1 0 rfl _ Try.underlying29 _ rfl 0 Try.sizeOf9) ?_
      simp only [Act.put, pu]
      refine pw_loadk (by rfl) 9 _ rfl _ (5) rfl r1.r (.string ⟨dg.toArray⟩) rfl Try.isAgg9 ?_
      simp only [Act.put, pu]
      refine pw_value (by rfl) (.int .i64 (dg.length : Nat)) (y_lenS _ _ rfl dg rfl Try.underlying9) ?_
      simp only [Act.put, pu]
      refine pw_value (by rfl) (.bool false) (x_eqI _ _ _ _ rfl .i64 (dg.length : Nat) 32 rfl rfl false h32) ?_
      simp only [Act.put, pu]
      refine pw_pick (by rfl) true (v := .bool false) rfl rfl rfl ?_
      simp only [Act.put, pu]
      refine pw_mv (by rfl) rfl rfl ?_
      simp only [Act.put, pu]
      refine pw_skip (by rfl) ?_
      simp only [Act.put, pu]
      refine pw_skip (by rfl) ?_
      simp only [Act.put, pu]
      refine pw_pick (by rfl) false (v := .bool false) rfl rfl rfl ?_
      simp only [Act.put, pu]
      refine pw_as (by rfl) rfl rfl ?_
      simp only [Act.put, pu]
      refine pw_nil ?_
      go_wp2
      go_ret
      first | exact ⟨by rw [hv]; rfl, sb⟩ | exact ⟨rfl, sb⟩
    | false =>
     have hv : W0 = false := by rw [← hW0, wm_kn hk hop]; simp [kndB, h5, hst]
     (repeat ((fail_if_success with_reducible refine rg ?_); go_step))
     refine wp_region_pw ?_
     refine pw_value (by rfl) (.pointer (some ⟨g1, 3, none⟩)) (exec_field 29 _ 3 rfl g1 0 rfl _ Try.underlying29 _ rfl 1 Try.sizeOf24) ?_
     simp only [Act.put, pu]
     refine pw_loadm (by rfl) 24 _ rfl _ (3) rfl r1.r (tsC sq cl) (ms_st _ _ _ _ _ _ _ _ _ _ _ _) _ Try.underlying24 rfl size_st ?_
     simp only [Act.put, pu]
     refine pw_callB (by rfl) 66 _ _ rfl Try.func66 (by kernel_rfl) #[.agg (tsC sq cl)] rfl _ ((rwst_any sq cl _).mono fun e w' ⟨he, hb⟩ => ⟨he.trans (by rw [hst]), hb⟩) ?_
     intro z18002 k
     simp only [Act.put, pu]
     replace r1 := k.row r1 (by simp <;> omega)
     replace sb := sb.trans (k.below w.heap.size sb.size (by simp <;> omega))
     clear k
     refine pw_mv (by rfl) rfl rfl ?_
     simp only [Act.put, pu]
     refine pw_skip (by rfl) ?_
     simp only [Act.put, pu]
     refine pw_skip (by rfl) ?_
     simp only [Act.put, pu]
     refine pw_skip (by rfl) ?_
     simp only [Act.put, pu]
     refine pw_skip (by rfl) ?_
     simp only [Act.put, pu]
     refine pw_pick (by rfl) false (v := .bool false) rfl rfl rfl ?_
     simp only [Act.put, pu]
     refine pw_mv (by rfl) rfl rfl ?_
     simp only [Act.put, pu]
     refine pw_skip (by rfl) ?_
     simp only [Act.put, pu]
     refine pw_skip (by rfl) ?_
     simp only [Act.put, pu]
     refine pw_pick (by rfl) false (v := .bool false) rfl rfl rfl ?_
     simp only [Act.put, pu]
     refine pw_as (by rfl) rfl rfl ?_
     simp only [Act.put, pu]
     refine pw_nil ?_
     go_wp2
     go_ret
     first | exact ⟨by rw [hv]; rfl, sb⟩ | exact ⟨rfl, sb⟩
   ·have hop : opB kd op = false := by unfold opB; rw [if_pos (by omega)]; exact decide_eq_false ho
    have hv : W0 = false := by rw [← hW0]; simp [wmB, hop]
    (repeat ((fail_if_success with_reducible refine rg ?_); go_step))
    refine wp_region_pw ?_
    refine pw_value (by rfl) (.pointer (some ⟨g1, 2, none⟩)) (exec_field 29 _ 2 rfl g1 0 rfl _ Try.underlying29 _ rfl 0 Try.sizeOf9) ?_
    simp only [Act.put, pu]
    refine pw_loadk (by rfl) 9 _ rfl _ (2) rfl r1.r (.string ⟨key.toArray⟩) rfl Try.isAgg9 ?_
    simp only [Act.put, pu]
    refine pw_callB (by rfl) 64 _ _ rfl Try.func64 (by kernel_rfl) #[.string ⟨key.toArray⟩] rfl _ ((rwkey_any key _ hkl).mono fun e w' ⟨he, hb⟩ => ⟨he.trans (by rw [hk]), hb⟩) ?_
    intro z2002 k
    simp only [Act.put, pu]
    replace r1 := k.row r1 (by simp <;> omega)
    replace sb := sb.trans (k.below w.heap.size sb.size (by simp <;> omega))
    clear k
    refine pw_value (by rfl) (.bool false) (exec_not _ _ rfl true rfl) ?_
    simp only [Act.put, pu]
    refine pw_mv (by rfl) rfl rfl ?_
    simp only [Act.put, pu]
    refine pw_mv (by rfl) rfl rfl ?_
    simp only [Act.put, pu]
    refine pw_mv (by rfl) rfl rfl ?_
    simp only [Act.put, pu]
    refine pw_value (by rfl) (.pointer (some ⟨g1, 1, none⟩)) (exec_field 29 _ 1 rfl g1 0 rfl _ Try.underlying29 _ rfl 0 Try.sizeOf3) ?_
    simp only [Act.put, pu]
    refine pw_loadk (by rfl) 3 _ rfl _ (1) rfl r1.r (.int .i64 op) rfl Try.isAgg3 ?_
    simp only [Act.put, pu]
    refine pw_value (by rfl) (.bool true) (w_neI _ _ _ _ rfl .i64 op 0 rfl rfl true (decide_eq_false (by omega))) ?_
    simp only [Act.put, pu]
    refine pw_pick (by rfl) true (v := .bool true) rfl rfl rfl ?_
    simp only [Act.put, pu]
    refine pw_pick (by rfl) false (v := .bool true) rfl rfl rfl ?_
    simp only [Act.put, pu]
    refine pw_mv (by rfl) rfl rfl ?_
    simp only [Act.put, pu]
    refine pw_skip (by rfl) ?_
    simp only [Act.put, pu]
    refine pw_skip (by rfl) ?_
    simp only [Act.put, pu]
    refine pw_skip (by rfl) ?_
    simp only [Act.put, pu]
    refine pw_skip (by rfl) ?_
    simp only [Act.put, pu]
    refine pw_skip (by rfl) ?_
    simp only [Act.put, pu]
    refine pw_skip (by rfl) ?_
    simp only [Act.put, pu]
    refine pw_skip (by rfl) ?_
    simp only [Act.put, pu]
    refine pw_skip (by rfl) ?_
    simp only [Act.put, pu]
    refine pw_skip (by rfl) ?_
    simp only [Act.put, pu]
    refine pw_skip (by rfl) ?_
    simp only [Act.put, pu]
    refine pw_skip (by rfl) ?_
    simp only [Act.put, pu]
    refine pw_skip (by rfl) ?_
    simp only [Act.put, pu]
    refine pw_pick (by rfl) true (v := .bool true) rfl rfl rfl ?_
    simp only [Act.put, pu]
    refine pw_nil ?_
    (repeat ((fail_if_success with_reducible refine rg ?_); go_step))
    refine wp_region_pw ?_
    refine pw_value (by rfl) (.bool false) (fun _ => rfl) ?_
    simp only [Act.put, pu]
    refine pw_nil ?_
    go_wp2
    go_ret
    first | exact ⟨by rw [hv]; rfl, sb⟩ | exact ⟨rfl, sb⟩
 by_cases h6 : kd = 6
 ·skip
  (repeat ((fail_if_success with_reducible refine rg ?_); go_step))
  refine wp_region_pw ?_
  refine pw_value (by rfl) (.pointer (some ⟨g1, 0, none⟩)) (exec_field 29 _ 0 rfl g1 0 rfl _ Try.underlying29 _ rfl 0 Try.sizeOf3) ?_
  simp only [Act.put, pu]
  refine pw_loadk (by rfl) 3 _ rfl _ (0) rfl r1.r (.int .i64 kd) rfl Try.isAgg3 ?_
  simp only [Act.put, pu]
  refine pw_value (by rfl) (.bool false) (x_eqI _ _ _ _ rfl .i64 kd 5 rfl rfl false (decide_eq_false (by omega))) ?_
  simp only [Act.put, pu]
  refine pw_mv (by rfl) rfl rfl ?_
  simp only [Act.put, pu]
  refine pw_value (by rfl) (.pointer (some ⟨g1, 0, none⟩)) (exec_field 29 _ 0 rfl g1 0 rfl _ Try.underlying29 _ rfl 0 Try.sizeOf3) ?_
  simp only [Act.put, pu]
  refine pw_loadk (by rfl) 3 _ rfl _ (0) rfl r1.r (.int .i64 kd) rfl Try.isAgg3 ?_
  simp only [Act.put, pu]
  refine pw_value (by rfl) (.bool true) (x_eqI _ _ _ _ rfl .i64 kd 6 rfl rfl true (decide_eq_true (by omega))) ?_
  simp only [Act.put, pu]
  refine pw_pick (by rfl) false (v := .bool true) rfl rfl rfl ?_
  simp only [Act.put, pu]
  refine pw_as (by rfl) rfl rfl ?_
  simp only [Act.put, pu]
  refine pw_nil ?_
  cases hk : keyB key with
  | false =>
   have hv : W0 = false := by rw [← hW0]; simp [wmB, hk]
   (repeat ((fail_if_success with_reducible refine rg ?_); go_step))
   refine wp_region_pw ?_
   refine pw_value (by rfl) (.pointer (some ⟨g1, 2, none⟩)) (exec_field 29 _ 2 rfl g1 0 rfl _ Try.underlying29 _ rfl 0 Try.sizeOf9) ?_
   simp only [Act.put, pu]
   refine pw_loadk (by rfl) 9 _ rfl _ (2) rfl r1.r (.string ⟨key.toArray⟩) rfl Try.isAgg9 ?_
   simp only [Act.put, pu]
   refine pw_callB (by rfl) 64 _ _ rfl Try.func64 (by kernel_rfl) #[.string ⟨key.toArray⟩] rfl _ ((rwkey_any key _ hkl).mono fun e w' ⟨he, hb⟩ => ⟨he.trans (by rw [hk]), hb⟩) ?_
   intro z2002 k
   simp only [Act.put, pu]
   replace r1 := k.row r1 (by simp <;> omega)
   replace sb := sb.trans (k.below w.heap.size sb.size (by simp <;> omega))
   clear k
   refine pw_value (by rfl) (.bool true) (exec_not _ _ rfl false rfl) ?_
   simp only [Act.put, pu]
   refine pw_mv (by rfl) rfl rfl ?_
   simp only [Act.put, pu]
   refine pw_skip (by rfl) ?_
   simp only [Act.put, pu]
   refine pw_skip (by rfl) ?_
   simp only [Act.put, pu]
   refine pw_skip (by rfl) ?_
   simp only [Act.put, pu]
   refine pw_skip (by rfl) ?_
   simp only [Act.put, pu]
   refine pw_skip (by rfl) ?_
   simp only [Act.put, pu]
   refine pw_skip (by rfl) ?_
   simp only [Act.put, pu]
   refine pw_pick (by rfl) true (v := .bool true) rfl rfl rfl ?_
   simp only [Act.put, pu]
   refine pw_mv (by rfl) rfl rfl ?_
   simp only [Act.put, pu]
   refine pw_skip (by rfl) ?_
   simp only [Act.put, pu]
   refine pw_skip (by rfl) ?_
   simp only [Act.put, pu]
   refine pw_skip (by rfl) ?_
   simp only [Act.put, pu]
   refine pw_skip (by rfl) ?_
   simp only [Act.put, pu]
   refine pw_skip (by rfl) ?_
   simp only [Act.put, pu]
   refine pw_skip (by rfl) ?_
   simp only [Act.put, pu]
   refine pw_skip (by rfl) ?_
   simp only [Act.put, pu]
   refine pw_skip (by rfl) ?_
   simp only [Act.put, pu]
   refine pw_skip (by rfl) ?_
   simp only [Act.put, pu]
   refine pw_skip (by rfl) ?_
   simp only [Act.put, pu]
   refine pw_skip (by rfl) ?_
   simp only [Act.put, pu]
   refine pw_skip (by rfl) ?_
   simp only [Act.put, pu]
   refine pw_pick (by rfl) true (v := .bool true) rfl rfl rfl ?_
   simp only [Act.put, pu]
   refine pw_nil ?_
   (repeat ((fail_if_success with_reducible refine rg ?_); go_step))
   refine wp_region_pw ?_
   refine pw_value (by rfl) (.bool false) (fun _ => rfl) ?_
   simp only [Act.put, pu]
   refine pw_nil ?_
   go_wp2
   go_ret
   first | exact ⟨by rw [hv]; rfl, sb⟩ | exact ⟨rfl, sb⟩
  | true =>
   by_cases ho : op = 0
   ·have hop : opB kd op = true := by unfold opB; rw [if_pos (by omega)]; exact decide_eq_true ho
    (repeat ((fail_if_success with_reducible refine rg ?_); go_step))
    refine wp_region_pw ?_
    refine pw_value (by rfl) (.pointer (some ⟨g1, 2, none⟩)) (exec_field 29 _ 2 rfl g1 0 rfl _ Try.underlying29 _ rfl 0 Try.sizeOf9) ?_
    simp only [Act.put, pu]
    refine pw_loadk (by rfl) 9 _ rfl _ (2) rfl r1.r (.string ⟨key.toArray⟩) rfl Try.isAgg9 ?_
    simp only [Act.put, pu]
    refine pw_callB (by rfl) 64 _ _ rfl Try.func64 (by kernel_rfl) #[.string ⟨key.toArray⟩] rfl _ ((rwkey_any key _ hkl).mono fun e w' ⟨he, hb⟩ => ⟨he.trans (by rw [hk]), hb⟩) ?_
    intro z2002 k
    simp only [Act.put, pu]
    replace r1 := k.row r1 (by simp <;> omega)
    replace sb := sb.trans (k.below w.heap.size sb.size (by simp <;> omega))
    clear k
    refine pw_value (by rfl) (.bool false) (exec_not _ _ rfl true rfl) ?_
    simp only [Act.put, pu]
    refine pw_mv (by rfl) rfl rfl ?_
    simp only [Act.put, pu]
    refine pw_mv (by rfl) rfl rfl ?_
    simp only [Act.put, pu]
    refine pw_mv (by rfl) rfl rfl ?_
    simp only [Act.put, pu]
    refine pw_value (by rfl) (.pointer (some ⟨g1, 1, none⟩)) (exec_field 29 _ 1 rfl g1 0 rfl _ Try.underlying29 _ rfl 0 Try.sizeOf3) ?_
    simp only [Act.put, pu]
    refine pw_loadk (by rfl) 3 _ rfl _ (1) rfl r1.r (.int .i64 op) rfl Try.isAgg3 ?_
    simp only [Act.put, pu]
    refine pw_value (by rfl) (.bool false) (w_neI _ _ _ _ rfl .i64 op 0 rfl rfl false (decide_eq_true (by omega))) ?_
    simp only [Act.put, pu]
    refine pw_pick (by rfl) true (v := .bool false) rfl rfl rfl ?_
    simp only [Act.put, pu]
    refine pw_pick (by rfl) false (v := .bool false) rfl rfl rfl ?_
    simp only [Act.put, pu]
    refine pw_mv (by rfl) rfl rfl ?_
    simp only [Act.put, pu]
    refine pw_mv (by rfl) rfl rfl ?_
    simp only [Act.put, pu]
    refine pw_value (by rfl) (.bool false) (exec_not _ _ rfl true rfl) ?_
    simp only [Act.put, pu]
    refine pw_mv (by rfl) rfl rfl ?_
    simp only [Act.put, pu]
    refine pw_skip (by rfl) ?_
    simp only [Act.put, pu]
    refine pw_skip (by rfl) ?_
    simp only [Act.put, pu]
    refine pw_skip (by rfl) ?_
    simp only [Act.put, pu]
    refine pw_skip (by rfl) ?_
    simp only [Act.put, pu]
    refine pw_skip (by rfl) ?_
    simp only [Act.put, pu]
    refine pw_skip (by rfl) ?_
    simp only [Act.put, pu]
    refine pw_skip (by rfl) ?_
    simp only [Act.put, pu]
    refine pw_skip (by rfl) ?_
    simp only [Act.put, pu]
    refine pw_pick (by rfl) false (v := .bool false) rfl rfl rfl ?_
    simp only [Act.put, pu]
    refine pw_pick (by rfl) false (v := .bool false) rfl rfl rfl ?_
    simp only [Act.put, pu]
    refine pw_nil ?_
    (repeat ((fail_if_success with_reducible refine rg ?_); go_step))
    refine wp_region_pw ?_
    refine pw_value (by rfl) (.pointer (some ⟨g1, 3, none⟩)) (exec_field 29 _ 3 rfl g1 0 rfl _ Try.underlying29 _ rfl 1 Try.sizeOf24) ?_
    simp only [Act.put, pu]
    refine pw_loadm (by rfl) 24 _ rfl _ (3) rfl r1.r (tsC sq cl) (ms_st _ _ _ _ _ _ _ _ _ _ _ _) _ Try.underlying24 rfl size_st ?_
    simp only [Act.put, pu]
    refine pw_value (by rfl) (.agg (tsC 0 0)) (exec_buildv _ [] rfl [] rfl _ built_st0) ?_
    simp only [Act.put, pu]
    refine pw_value (by rfl) (.bool (zsB sq cl)) (exec_eql_st _ _ _ rfl sq cl 0 0 rfl rfl _ rfl) ?_
    simp only [Act.put, pu]
    refine pw_as (by rfl) rfl rfl ?_
    simp only [Act.put, pu]
    refine pw_nil ?_
    (repeat ((fail_if_success with_reducible refine rg ?_); go_step))
    refine wp_region_pw ?_
    refine pw_value (by rfl) (.pointer (some ⟨g1, 0, none⟩)) (exec_field 29 _ 0 rfl g1 0 rfl _ Try.underlying29 _ rfl 0 Try.sizeOf3) ?_
    simp only [Act.put, pu]
    refine pw_loadk (by rfl) 3 _ rfl _ (0) rfl r1.r (.int .i64 kd) rfl Try.isAgg3 ?_
    simp only [Act.put, pu]
    refine pw_nil ?_
    (repeat ((fail_if_success with_reducible refine rg ?_); go_step))
    refine wp_region_pw ?_
    refine pw_value (by rfl) (.bool false) (x_eqI _ _ _ _ rfl .i64 kd 1 rfl rfl false (decide_eq_false (by omega))) ?_
    simp only [Act.put, pu]
    refine pw_as (by rfl) rfl rfl ?_
    simp only [Act.put, pu]
    refine pw_nil ?_
    (repeat ((fail_if_success with_reducible refine rg ?_); go_step))
    refine wp_region_pw ?_
    refine pw_value (by rfl) (.bool false) (x_eqI _ _ _ _ rfl .i64 kd 2 rfl rfl false (decide_eq_false (by omega))) ?_
    simp only [Act.put, pu]
    refine pw_as (by rfl) rfl rfl ?_
    simp only [Act.put, pu]
    refine pw_nil ?_
    (repeat ((fail_if_success with_reducible refine rg ?_); go_step))
    refine wp_region_pw ?_
    refine pw_value (by rfl) (.bool false) (x_eqI _ _ _ _ rfl .i64 kd 3 rfl rfl false (decide_eq_false (by omega))) ?_
    simp only [Act.put, pu]
    refine pw_as (by rfl) rfl rfl ?_
    simp only [Act.put, pu]
    refine pw_nil ?_
    (repeat ((fail_if_success with_reducible refine rg ?_); go_step))
    refine wp_region_pw ?_
    refine pw_value (by rfl) (.bool false) (x_eqI _ _ _ _ rfl .i64 kd 4 rfl rfl false (decide_eq_false (by omega))) ?_
    simp only [Act.put, pu]
    refine pw_as (by rfl) rfl rfl ?_
    simp only [Act.put, pu]
    refine pw_nil ?_
    (repeat ((fail_if_success with_reducible refine rg ?_); go_step))
    refine wp_region_pw ?_
    refine pw_value (by rfl) (.bool false) (x_eqI _ _ _ _ rfl .i64 kd 8 rfl rfl false (decide_eq_false (by omega))) ?_
    simp only [Act.put, pu]
    refine pw_as (by rfl) rfl rfl ?_
    simp only [Act.put, pu]
    refine pw_nil ?_
    (repeat ((fail_if_success with_reducible refine rg ?_); go_step))
    refine wp_region_pw ?_
    refine pw_value (by rfl) (.bool false) (x_eqI _ _ _ _ rfl .i64 kd 5 rfl rfl false (decide_eq_false (by omega))) ?_
    simp only [Act.put, pu]
    refine pw_as (by rfl) rfl rfl ?_
    simp only [Act.put, pu]
    refine pw_nil ?_
    (repeat ((fail_if_success with_reducible refine rg ?_); go_step))
    refine wp_region_pw ?_
    refine pw_value (by rfl) (.bool true) (x_eqI _ _ _ _ rfl .i64 kd 6 rfl rfl true (decide_eq_true (by omega))) ?_
    simp only [Act.put, pu]
    refine pw_as (by rfl) rfl rfl ?_
    simp only [Act.put, pu]
    refine pw_nil ?_
    cases hst : stB sq cl with
    | true =>
     cases h32 : g32 dg with
     | true =>
      cases hbr : brB n m with
      | true =>
       have hv : W0 = true := by rw [← hW0, wm_kn hk hop]; simp [kndB, h6, hst, h32, hbr]
       (repeat ((fail_if_success with_reducible refine rg ?_); go_step))
       refine wp_region_pw ?_
       refine pw_value (by rfl) (.pointer (some ⟨g1, 3, none⟩)) (exec_field 29 _ 3 rfl g1 0 rfl _ Try.underlying29 _ rfl 1 Try.sizeOf24) ?_
       simp only [Act.put, pu]
       refine pw_loadm (by rfl) 24 _ rfl _ (3) rfl r1.r (tsC sq cl) (ms_st _ _ _ _ _ _ _ _ _ _ _ _) _ Try.underlying24 rfl size_st ?_
       simp only [Act.put, pu]
       refine pw_callB (by rfl) 66 _ _ rfl Try.func66 (by kernel_rfl) #[.agg (tsC sq cl)] rfl _ ((rwst_any sq cl _).mono fun e w' ⟨he, hb⟩ => ⟨he.trans (by rw [hst]), hb⟩) ?_
       intro z18002 k
       simp only [Act.put, pu]
       replace r1 := k.row r1 (by simp <;> omega)
       replace sb := sb.trans (k.below w.heap.size sb.size (by simp <;> omega))
       clear k
       refine pw_mv (by rfl) rfl rfl ?_
       simp only [Act.put, pu]
       refine pw_value (by rfl) (.pointer (some ⟨g1, 5, none⟩)) (exec_field 29 _ 4 rfl g1 0 rfl _ Try.underlying29 _ rfl 0 Try.sizeOf9) ?_
       simp only [Act.put, pu]
       refine pw_loadk (by rfl) 9 _ rfl _ (5) rfl r1.r (.string ⟨dg.toArray⟩) rfl Try.isAgg9 ?_
       simp only [Act.put, pu]
       refine pw_value (by rfl) (.int .i64 (dg.length : Nat)) (y_lenS _ _ rfl dg rfl Try.underlying9) ?_
       simp only [Act.put, pu]
       refine pw_value (by rfl) (.bool true) (x_eqI _ _ _ _ rfl .i64 (dg.length : Nat) 32 rfl rfl true h32) ?_
       simp only [Act.put, pu]
       refine pw_pick (by rfl) true (v := .bool true) rfl rfl rfl ?_
       simp only [Act.put, pu]
       refine pw_mv (by rfl) rfl rfl ?_
       simp only [Act.put, pu]
       refine pw_loadm (by rfl) 29 _ rfl _ (0) rfl r1.r (msC kd op key sq cl dg a1 n c1 a2 m c2) (part_all _) _ Try.underlying29 rfl size_ms ?_
       simp only [Act.put, pu]
       refine pw_callB (by rfl) 65 _ _ rfl Try.func65 (by kernel_rfl) #[.agg (msC kd op key sq cl dg a1 n c1 a2 m c2)] rfl _ ((rwbare_any kd op key sq cl dg a1 n c1 a2 m c2 _).mono fun e w' ⟨he, hb⟩ => ⟨he.trans (by rw [hbr]), hb⟩) ?_
       intro z18011 k
       simp only [Act.put, pu]
       replace r1 := k.row r1 (by simp <;> omega)
       replace sb := sb.trans (k.below w.heap.size sb.size (by simp <;> omega))
       clear k
       refine pw_pick (by rfl) true (v := .bool true) rfl rfl rfl ?_
       simp only [Act.put, pu]
       refine pw_as (by rfl) rfl rfl ?_
       simp only [Act.put, pu]
       refine pw_nil ?_
       go_wp2
       go_ret
       first | exact ⟨by rw [hv]; rfl, sb⟩ | exact ⟨rfl, sb⟩
      | false =>
       have hv : W0 = false := by rw [← hW0, wm_kn hk hop]; simp [kndB, h6, hst, h32, hbr]
       (repeat ((fail_if_success with_reducible refine rg ?_); go_step))
       refine wp_region_pw ?_
       refine pw_value (by rfl) (.pointer (some ⟨g1, 3, none⟩)) (exec_field 29 _ 3 rfl g1 0 rfl _ Try.underlying29 _ rfl 1 Try.sizeOf24) ?_
       simp only [Act.put, pu]
       refine pw_loadm (by rfl) 24 _ rfl _ (3) rfl r1.r (tsC sq cl) (ms_st _ _ _ _ _ _ _ _ _ _ _ _) _ Try.underlying24 rfl size_st ?_
       simp only [Act.put, pu]
       refine pw_callB (by rfl) 66 _ _ rfl Try.func66 (by kernel_rfl) #[.agg (tsC sq cl)] rfl _ ((rwst_any sq cl _).mono fun e w' ⟨he, hb⟩ => ⟨he.trans (by rw [hst]), hb⟩) ?_
       intro z18002 k
       simp only [Act.put, pu]
       replace r1 := k.row r1 (by simp <;> omega)
       replace sb := sb.trans (k.below w.heap.size sb.size (by simp <;> omega))
       clear k
       refine pw_mv (by rfl) rfl rfl ?_
       simp only [Act.put, pu]
       refine pw_value (by rfl) (.pointer (some ⟨g1, 5, none⟩)) (exec_field 29 _ 4 rfl g1 0 rfl _ Try.underlying29 _ rfl 0 Try.sizeOf9) ?_
       simp only [Act.put, pu]
       refine pw_loadk (by rfl) 9 _ rfl _ (5) rfl r1.r (.string ⟨dg.toArray⟩) rfl Try.isAgg9 ?_
       simp only [Act.put, pu]
       refine pw_value (by rfl) (.int .i64 (dg.length : Nat)) (y_lenS _ _ rfl dg rfl Try.underlying9) ?_
       simp only [Act.put, pu]
       refine pw_value (by rfl) (.bool true) (x_eqI _ _ _ _ rfl .i64 (dg.length : Nat) 32 rfl rfl true h32) ?_
       simp only [Act.put, pu]
       refine pw_pick (by rfl) true (v := .bool true) rfl rfl rfl ?_
       simp only [Act.put, pu]
       refine pw_mv (by rfl) rfl rfl ?_
       simp only [Act.put, pu]
       refine pw_loadm (by rfl) 29 _ rfl _ (0) rfl r1.r (msC kd op key sq cl dg a1 n c1 a2 m c2) (part_all _) _ Try.underlying29 rfl size_ms ?_
       simp only [Act.put, pu]
       refine pw_callB (by rfl) 65 _ _ rfl Try.func65 (by kernel_rfl) #[.agg (msC kd op key sq cl dg a1 n c1 a2 m c2)] rfl _ ((rwbare_any kd op key sq cl dg a1 n c1 a2 m c2 _).mono fun e w' ⟨he, hb⟩ => ⟨he.trans (by rw [hbr]), hb⟩) ?_
       intro z18011 k
       simp only [Act.put, pu]
       replace r1 := k.row r1 (by simp <;> omega)
       replace sb := sb.trans (k.below w.heap.size sb.size (by simp <;> omega))
       clear k
       refine pw_pick (by rfl) true (v := .bool false) rfl rfl rfl ?_
       simp only [Act.put, pu]
       refine pw_as (by rfl) rfl rfl ?_
       simp only [Act.put, pu]
       refine pw_nil ?_
       go_wp2
       go_ret
       first | exact ⟨by rw [hv]; rfl, sb⟩ | exact ⟨rfl, sb⟩
     | false =>
      have hv : W0 = false := by rw [← hW0, wm_kn hk hop]; simp [kndB, h6, hst, h32]
      (repeat ((fail_if_success with_reducible refine rg ?_); go_step))
      refine wp_region_pw ?_
      refine pw_value (by rfl) (.pointer (some ⟨g1, 3, none⟩)) (exec_field 29 _ 3 rfl g1 0 rfl _ Try.underlying29 _ rfl 1 Try.sizeOf24) ?_
      simp only [Act.put, pu]
      refine pw_loadm (by rfl) 24 _ rfl _ (3) rfl r1.r (tsC sq cl) (ms_st _ _ _ _ _ _ _ _ _ _ _ _) _ Try.underlying24 rfl size_st ?_
      simp only [Act.put, pu]
      refine pw_callB (by rfl) 66 _ _ rfl Try.func66 (by kernel_rfl) #[.agg (tsC sq cl)] rfl _ ((rwst_any sq cl _).mono fun e w' ⟨he, hb⟩ => ⟨he.trans (by rw [hst]), hb⟩) ?_
      intro z18002 k
      simp only [Act.put, pu]
      replace r1 := k.row r1 (by simp <;> omega)
      replace sb := sb.trans (k.below w.heap.size sb.size (by simp <;> omega))
      clear k
      refine pw_mv (by rfl) rfl rfl ?_
      simp only [Act.put, pu]
      refine pw_value (by rfl) (.pointer (some ⟨g1, 5, none⟩)) (exec_field 29 _ 4 rfl g1 0 rfl _ Try.underlying29 _ rfl 0 Try.sizeOf9) ?_
      simp only [Act.put, pu]
      refine pw_loadk (by rfl) 9 _ rfl _ (5) rfl r1.r (.string ⟨dg.toArray⟩) rfl Try.isAgg9 ?_
      simp only [Act.put, pu]
      refine pw_value (by rfl) (.int .i64 (dg.length : Nat)) (y_lenS _ _ rfl dg rfl Try.underlying9) ?_
      simp only [Act.put, pu]
      refine pw_value (by rfl) (.bool false) (x_eqI _ _ _ _ rfl .i64 (dg.length : Nat) 32 rfl rfl false h32) ?_
      simp only [Act.put, pu]
      refine pw_pick (by rfl) true (v := .bool false) rfl rfl rfl ?_
      simp only [Act.put, pu]
      refine pw_mv (by rfl) rfl rfl ?_
      simp only [Act.put, pu]
      refine pw_skip (by rfl) ?_
      simp only [Act.put, pu]
      refine pw_skip (by rfl) ?_
      simp only [Act.put, pu]
      refine pw_pick (by rfl) false (v := .bool false) rfl rfl rfl ?_
      simp only [Act.put, pu]
      refine pw_as (by rfl) rfl rfl ?_
      simp only [Act.put, pu]
      refine pw_nil ?_
      go_wp2
      go_ret
      first | exact ⟨by rw [hv]; rfl, sb⟩ | exact ⟨rfl, sb⟩
    | false =>
     have hv : W0 = false := by rw [← hW0, wm_kn hk hop]; simp [kndB, h6, hst]
     (repeat ((fail_if_success with_reducible refine rg ?_); go_step))
     refine wp_region_pw ?_
     refine pw_value (by rfl) (.pointer (some ⟨g1, 3, none⟩)) (exec_field 29 _ 3 rfl g1 0 rfl _ Try.underlying29 _ rfl 1 Try.sizeOf24) ?_
     simp only [Act.put, pu]
     refine pw_loadm (by rfl) 24 _ rfl _ (3) rfl r1.r (tsC sq cl) (ms_st _ _ _ _ _ _ _ _ _ _ _ _) _ Try.underlying24 rfl size_st ?_
     simp only [Act.put, pu]
     refine pw_callB (by rfl) 66 _ _ rfl Try.func66 (by kernel_rfl) #[.agg (tsC sq cl)] rfl _ ((rwst_any sq cl _).mono fun e w' ⟨he, hb⟩ => ⟨he.trans (by rw [hst]), hb⟩) ?_
     intro z18002 k
     simp only [Act.put, pu]
     replace r1 := k.row r1 (by simp <;> omega)
     replace sb := sb.trans (k.below w.heap.size sb.size (by simp <;> omega))
     clear k
     refine pw_mv (by rfl) rfl rfl ?_
     simp only [Act.put, pu]
     refine pw_skip (by rfl) ?_
     simp only [Act.put, pu]
     refine pw_skip (by rfl) ?_
     simp only [Act.put, pu]
     refine pw_skip (by rfl) ?_
     simp only [Act.put, pu]
     refine pw_skip (by rfl) ?_
     simp only [Act.put, pu]
     refine pw_pick (by rfl) false (v := .bool false) rfl rfl rfl ?_
     simp only [Act.put, pu]
     refine pw_mv (by rfl) rfl rfl ?_
     simp only [Act.put, pu]
     refine pw_skip (by rfl) ?_
     simp only [Act.put, pu]
     refine pw_skip (by rfl) ?_
     simp only [Act.put, pu]
     refine pw_pick (by rfl) false (v := .bool false) rfl rfl rfl ?_
     simp only [Act.put, pu]
     refine pw_as (by rfl) rfl rfl ?_
     simp only [Act.put, pu]
     refine pw_nil ?_
     go_wp2
     go_ret
     first | exact ⟨by rw [hv]; rfl, sb⟩ | exact ⟨rfl, sb⟩
   ·have hop : opB kd op = false := by unfold opB; rw [if_pos (by omega)]; exact decide_eq_false ho
    have hv : W0 = false := by rw [← hW0]; simp [wmB, hop]
    (repeat ((fail_if_success with_reducible refine rg ?_); go_step))
    refine wp_region_pw ?_
    refine pw_value (by rfl) (.pointer (some ⟨g1, 2, none⟩)) (exec_field 29 _ 2 rfl g1 0 rfl _ Try.underlying29 _ rfl 0 Try.sizeOf9) ?_
    simp only [Act.put, pu]
    refine pw_loadk (by rfl) 9 _ rfl _ (2) rfl r1.r (.string ⟨key.toArray⟩) rfl Try.isAgg9 ?_
    simp only [Act.put, pu]
    refine pw_callB (by rfl) 64 _ _ rfl Try.func64 (by kernel_rfl) #[.string ⟨key.toArray⟩] rfl _ ((rwkey_any key _ hkl).mono fun e w' ⟨he, hb⟩ => ⟨he.trans (by rw [hk]), hb⟩) ?_
    intro z2002 k
    simp only [Act.put, pu]
    replace r1 := k.row r1 (by simp <;> omega)
    replace sb := sb.trans (k.below w.heap.size sb.size (by simp <;> omega))
    clear k
    refine pw_value (by rfl) (.bool false) (exec_not _ _ rfl true rfl) ?_
    simp only [Act.put, pu]
    refine pw_mv (by rfl) rfl rfl ?_
    simp only [Act.put, pu]
    refine pw_mv (by rfl) rfl rfl ?_
    simp only [Act.put, pu]
    refine pw_mv (by rfl) rfl rfl ?_
    simp only [Act.put, pu]
    refine pw_value (by rfl) (.pointer (some ⟨g1, 1, none⟩)) (exec_field 29 _ 1 rfl g1 0 rfl _ Try.underlying29 _ rfl 0 Try.sizeOf3) ?_
    simp only [Act.put, pu]
    refine pw_loadk (by rfl) 3 _ rfl _ (1) rfl r1.r (.int .i64 op) rfl Try.isAgg3 ?_
    simp only [Act.put, pu]
    refine pw_value (by rfl) (.bool true) (w_neI _ _ _ _ rfl .i64 op 0 rfl rfl true (decide_eq_false (by omega))) ?_
    simp only [Act.put, pu]
    refine pw_pick (by rfl) true (v := .bool true) rfl rfl rfl ?_
    simp only [Act.put, pu]
    refine pw_pick (by rfl) false (v := .bool true) rfl rfl rfl ?_
    simp only [Act.put, pu]
    refine pw_mv (by rfl) rfl rfl ?_
    simp only [Act.put, pu]
    refine pw_skip (by rfl) ?_
    simp only [Act.put, pu]
    refine pw_skip (by rfl) ?_
    simp only [Act.put, pu]
    refine pw_skip (by rfl) ?_
    simp only [Act.put, pu]
    refine pw_skip (by rfl) ?_
    simp only [Act.put, pu]
    refine pw_skip (by rfl) ?_
    simp only [Act.put, pu]
    refine pw_skip (by rfl) ?_
    simp only [Act.put, pu]
    refine pw_skip (by rfl) ?_
    simp only [Act.put, pu]
    refine pw_skip (by rfl) ?_
    simp only [Act.put, pu]
    refine pw_skip (by rfl) ?_
    simp only [Act.put, pu]
    refine pw_skip (by rfl) ?_
    simp only [Act.put, pu]
    refine pw_skip (by rfl) ?_
    simp only [Act.put, pu]
    refine pw_skip (by rfl) ?_
    simp only [Act.put, pu]
    refine pw_pick (by rfl) true (v := .bool true) rfl rfl rfl ?_
    simp only [Act.put, pu]
    refine pw_nil ?_
    (repeat ((fail_if_success with_reducible refine rg ?_); go_step))
    refine wp_region_pw ?_
    refine pw_value (by rfl) (.bool false) (fun _ => rfl) ?_
    simp only [Act.put, pu]
    refine pw_nil ?_
    go_wp2
    go_ret
    first | exact ⟨by rw [hv]; rfl, sb⟩ | exact ⟨rfl, sb⟩
 (repeat ((fail_if_success with_reducible refine rg ?_); go_step))
 refine wp_region_pw ?_
 refine pw_value (by rfl) (.pointer (some ⟨g1, 0, none⟩)) (exec_field 29 _ 0 rfl g1 0 rfl _ Try.underlying29 _ rfl 0 Try.sizeOf3) ?_
 simp only [Act.put, pu]
 refine pw_loadk (by rfl) 3 _ rfl _ (0) rfl r1.r (.int .i64 kd) rfl Try.isAgg3 ?_
 simp only [Act.put, pu]
 refine pw_value (by rfl) (.bool false) (x_eqI _ _ _ _ rfl .i64 kd 5 rfl rfl false (decide_eq_false (by omega))) ?_
 simp only [Act.put, pu]
 refine pw_mv (by rfl) rfl rfl ?_
 simp only [Act.put, pu]
 refine pw_value (by rfl) (.pointer (some ⟨g1, 0, none⟩)) (exec_field 29 _ 0 rfl g1 0 rfl _ Try.underlying29 _ rfl 0 Try.sizeOf3) ?_
 simp only [Act.put, pu]
 refine pw_loadk (by rfl) 3 _ rfl _ (0) rfl r1.r (.int .i64 kd) rfl Try.isAgg3 ?_
 simp only [Act.put, pu]
 refine pw_value (by rfl) (.bool false) (x_eqI _ _ _ _ rfl .i64 kd 6 rfl rfl false (decide_eq_false (by omega))) ?_
 simp only [Act.put, pu]
 refine pw_pick (by rfl) false (v := .bool false) rfl rfl rfl ?_
 simp only [Act.put, pu]
 refine pw_as (by rfl) rfl rfl ?_
 simp only [Act.put, pu]
 refine pw_nil ?_
 cases hk : keyB key with
 | false =>
  have hv : W0 = false := by rw [← hW0]; simp [wmB, hk]
  (repeat ((fail_if_success with_reducible refine rg ?_); go_step))
  refine wp_region_pw ?_
  refine pw_value (by rfl) (.pointer (some ⟨g1, 2, none⟩)) (exec_field 29 _ 2 rfl g1 0 rfl _ Try.underlying29 _ rfl 0 Try.sizeOf9) ?_
  simp only [Act.put, pu]
  refine pw_loadk (by rfl) 9 _ rfl _ (2) rfl r1.r (.string ⟨key.toArray⟩) rfl Try.isAgg9 ?_
  simp only [Act.put, pu]
  refine pw_callB (by rfl) 64 _ _ rfl Try.func64 (by kernel_rfl) #[.string ⟨key.toArray⟩] rfl _ ((rwkey_any key _ hkl).mono fun e w' ⟨he, hb⟩ => ⟨he.trans (by rw [hk]), hb⟩) ?_
  intro z2002 k
  simp only [Act.put, pu]
  replace r1 := k.row r1 (by simp <;> omega)
  replace sb := sb.trans (k.below w.heap.size sb.size (by simp <;> omega))
  clear k
  refine pw_value (by rfl) (.bool true) (exec_not _ _ rfl false rfl) ?_
  simp only [Act.put, pu]
  refine pw_mv (by rfl) rfl rfl ?_
  simp only [Act.put, pu]
  refine pw_skip (by rfl) ?_
  simp only [Act.put, pu]
  refine pw_skip (by rfl) ?_
  simp only [Act.put, pu]
  refine pw_skip (by rfl) ?_
  simp only [Act.put, pu]
  refine pw_skip (by rfl) ?_
  simp only [Act.put, pu]
  refine pw_skip (by rfl) ?_
  simp only [Act.put, pu]
  refine pw_skip (by rfl) ?_
  simp only [Act.put, pu]
  refine pw_pick (by rfl) true (v := .bool true) rfl rfl rfl ?_
  simp only [Act.put, pu]
  refine pw_mv (by rfl) rfl rfl ?_
  simp only [Act.put, pu]
  refine pw_skip (by rfl) ?_
  simp only [Act.put, pu]
  refine pw_skip (by rfl) ?_
  simp only [Act.put, pu]
  refine pw_skip (by rfl) ?_
  simp only [Act.put, pu]
  refine pw_skip (by rfl) ?_
  simp only [Act.put, pu]
  refine pw_skip (by rfl) ?_
  simp only [Act.put, pu]
  refine pw_skip (by rfl) ?_
  simp only [Act.put, pu]
  refine pw_skip (by rfl) ?_
  simp only [Act.put, pu]
  refine pw_skip (by rfl) ?_
  simp only [Act.put, pu]
  refine pw_skip (by rfl) ?_
  simp only [Act.put, pu]
  refine pw_skip (by rfl) ?_
  simp only [Act.put, pu]
  refine pw_skip (by rfl) ?_
  simp only [Act.put, pu]
  refine pw_skip (by rfl) ?_
  simp only [Act.put, pu]
  refine pw_pick (by rfl) true (v := .bool true) rfl rfl rfl ?_
  simp only [Act.put, pu]
  refine pw_nil ?_
  (repeat ((fail_if_success with_reducible refine rg ?_); go_step))
  refine wp_region_pw ?_
  refine pw_value (by rfl) (.bool false) (fun _ => rfl) ?_
  simp only [Act.put, pu]
  refine pw_nil ?_
  go_wp2
  go_ret
  first | exact ⟨by rw [hv]; rfl, sb⟩ | exact ⟨rfl, sb⟩
 | true =>
  by_cases hl : op < 1
  ·have hop : opB kd op = false := by unfold opB; rw [if_neg (by omega)]; exact decide_eq_false (by omega)
   have hv : W0 = false := by rw [← hW0]; simp [wmB, hop]
   (repeat ((fail_if_success with_reducible refine rg ?_); go_step))
   refine wp_region_pw ?_
   refine pw_value (by rfl) (.pointer (some ⟨g1, 2, none⟩)) (exec_field 29 _ 2 rfl g1 0 rfl _ Try.underlying29 _ rfl 0 Try.sizeOf9) ?_
   simp only [Act.put, pu]
   refine pw_loadk (by rfl) 9 _ rfl _ (2) rfl r1.r (.string ⟨key.toArray⟩) rfl Try.isAgg9 ?_
   simp only [Act.put, pu]
   refine pw_callB (by rfl) 64 _ _ rfl Try.func64 (by kernel_rfl) #[.string ⟨key.toArray⟩] rfl _ ((rwkey_any key _ hkl).mono fun e w' ⟨he, hb⟩ => ⟨he.trans (by rw [hk]), hb⟩) ?_
   intro z2002 k
   simp only [Act.put, pu]
   replace r1 := k.row r1 (by simp <;> omega)
   replace sb := sb.trans (k.below w.heap.size sb.size (by simp <;> omega))
   clear k
   refine pw_value (by rfl) (.bool false) (exec_not _ _ rfl true rfl) ?_
   simp only [Act.put, pu]
   refine pw_mv (by rfl) rfl rfl ?_
   simp only [Act.put, pu]
   refine pw_mv (by rfl) rfl rfl ?_
   simp only [Act.put, pu]
   refine pw_mv (by rfl) rfl rfl ?_
   simp only [Act.put, pu]
   refine pw_skip (by rfl) ?_
   simp only [Act.put, pu]
   refine pw_skip (by rfl) ?_
   simp only [Act.put, pu]
   refine pw_skip (by rfl) ?_
   simp only [Act.put, pu]
   refine pw_pick (by rfl) false (v := .bool false) rfl rfl rfl ?_
   simp only [Act.put, pu]
   refine pw_pick (by rfl) false (v := .bool false) rfl rfl rfl ?_
   simp only [Act.put, pu]
   refine pw_mv (by rfl) rfl rfl ?_
   simp only [Act.put, pu]
   refine pw_mv (by rfl) rfl rfl ?_
   simp only [Act.put, pu]
   refine pw_value (by rfl) (.bool true) (exec_not _ _ rfl false rfl) ?_
   simp only [Act.put, pu]
   refine pw_mv (by rfl) rfl rfl ?_
   simp only [Act.put, pu]
   refine pw_value (by rfl) (.pointer (some ⟨g1, 1, none⟩)) (exec_field 29 _ 1 rfl g1 0 rfl _ Try.underlying29 _ rfl 0 Try.sizeOf3) ?_
   simp only [Act.put, pu]
   refine pw_loadk (by rfl) 3 _ rfl _ (1) rfl r1.r (.int .i64 op) rfl Try.isAgg3 ?_
   simp only [Act.put, pu]
   refine pw_value (by rfl) (.bool true) (x_lt _ _ _ _ rfl op 1 rfl rfl true (decide_eq_true (by omega))) ?_
   simp only [Act.put, pu]
   refine pw_mv (by rfl) rfl rfl ?_
   simp only [Act.put, pu]
   refine pw_skip (by rfl) ?_
   simp only [Act.put, pu]
   refine pw_skip (by rfl) ?_
   simp only [Act.put, pu]
   refine pw_skip (by rfl) ?_
   simp only [Act.put, pu]
   refine pw_pick (by rfl) true (v := .bool true) rfl rfl rfl ?_
   simp only [Act.put, pu]
   refine pw_pick (by rfl) true (v := .bool true) rfl rfl rfl ?_
   simp only [Act.put, pu]
   refine pw_pick (by rfl) false (v := .bool true) rfl rfl rfl ?_
   simp only [Act.put, pu]
   refine pw_nil ?_
   (repeat ((fail_if_success with_reducible refine rg ?_); go_step))
   refine wp_region_pw ?_
   refine pw_value (by rfl) (.bool false) (fun _ => rfl) ?_
   simp only [Act.put, pu]
   refine pw_nil ?_
   go_wp2
   go_ret
   first | exact ⟨by rw [hv]; rfl, sb⟩ | exact ⟨rfl, sb⟩
  by_cases hg : 1048576 < op
  ·have hop : opB kd op = false := by unfold opB; rw [if_neg (by omega)]; exact decide_eq_false (by omega)
   have hv : W0 = false := by rw [← hW0]; simp [wmB, hop]
   (repeat ((fail_if_success with_reducible refine rg ?_); go_step))
   refine wp_region_pw ?_
   refine pw_value (by rfl) (.pointer (some ⟨g1, 2, none⟩)) (exec_field 29 _ 2 rfl g1 0 rfl _ Try.underlying29 _ rfl 0 Try.sizeOf9) ?_
   simp only [Act.put, pu]
   refine pw_loadk (by rfl) 9 _ rfl _ (2) rfl r1.r (.string ⟨key.toArray⟩) rfl Try.isAgg9 ?_
   simp only [Act.put, pu]
   refine pw_callB (by rfl) 64 _ _ rfl Try.func64 (by kernel_rfl) #[.string ⟨key.toArray⟩] rfl _ ((rwkey_any key _ hkl).mono fun e w' ⟨he, hb⟩ => ⟨he.trans (by rw [hk]), hb⟩) ?_
   intro z2002 k
   simp only [Act.put, pu]
   replace r1 := k.row r1 (by simp <;> omega)
   replace sb := sb.trans (k.below w.heap.size sb.size (by simp <;> omega))
   clear k
   refine pw_value (by rfl) (.bool false) (exec_not _ _ rfl true rfl) ?_
   simp only [Act.put, pu]
   refine pw_mv (by rfl) rfl rfl ?_
   simp only [Act.put, pu]
   refine pw_mv (by rfl) rfl rfl ?_
   simp only [Act.put, pu]
   refine pw_mv (by rfl) rfl rfl ?_
   simp only [Act.put, pu]
   refine pw_skip (by rfl) ?_
   simp only [Act.put, pu]
   refine pw_skip (by rfl) ?_
   simp only [Act.put, pu]
   refine pw_skip (by rfl) ?_
   simp only [Act.put, pu]
   refine pw_pick (by rfl) false (v := .bool false) rfl rfl rfl ?_
   simp only [Act.put, pu]
   refine pw_pick (by rfl) false (v := .bool false) rfl rfl rfl ?_
   simp only [Act.put, pu]
   refine pw_mv (by rfl) rfl rfl ?_
   simp only [Act.put, pu]
   refine pw_mv (by rfl) rfl rfl ?_
   simp only [Act.put, pu]
   refine pw_value (by rfl) (.bool true) (exec_not _ _ rfl false rfl) ?_
   simp only [Act.put, pu]
   refine pw_mv (by rfl) rfl rfl ?_
   simp only [Act.put, pu]
   refine pw_value (by rfl) (.pointer (some ⟨g1, 1, none⟩)) (exec_field 29 _ 1 rfl g1 0 rfl _ Try.underlying29 _ rfl 0 Try.sizeOf3) ?_
   simp only [Act.put, pu]
   refine pw_loadk (by rfl) 3 _ rfl _ (1) rfl r1.r (.int .i64 op) rfl Try.isAgg3 ?_
   simp only [Act.put, pu]
   refine pw_value (by rfl) (.bool false) (x_lt _ _ _ _ rfl op 1 rfl rfl false (decide_eq_false (by omega))) ?_
   simp only [Act.put, pu]
   refine pw_mv (by rfl) rfl rfl ?_
   simp only [Act.put, pu]
   refine pw_value (by rfl) (.pointer (some ⟨g1, 1, none⟩)) (exec_field 29 _ 1 rfl g1 0 rfl _ Try.underlying29 _ rfl 0 Try.sizeOf3) ?_
   simp only [Act.put, pu]
   refine pw_loadk (by rfl) 3 _ rfl _ (1) rfl r1.r (.int .i64 op) rfl Try.isAgg3 ?_
   simp only [Act.put, pu]
   refine pw_value (by rfl) (.bool true) (x_gt _ _ _ _ rfl op 1048576 rfl rfl true (decide_eq_true (by omega))) ?_
   simp only [Act.put, pu]
   refine pw_pick (by rfl) false (v := .bool true) rfl rfl rfl ?_
   simp only [Act.put, pu]
   refine pw_pick (by rfl) true (v := .bool true) rfl rfl rfl ?_
   simp only [Act.put, pu]
   refine pw_pick (by rfl) false (v := .bool true) rfl rfl rfl ?_
   simp only [Act.put, pu]
   refine pw_nil ?_
   (repeat ((fail_if_success with_reducible refine rg ?_); go_step))
   refine wp_region_pw ?_
   refine pw_value (by rfl) (.bool false) (fun _ => rfl) ?_
   simp only [Act.put, pu]
   refine pw_nil ?_
   go_wp2
   go_ret
   first | exact ⟨by rw [hv]; rfl, sb⟩ | exact ⟨rfl, sb⟩
  have hop : opB kd op = true := by unfold opB; rw [if_neg (by omega)]; exact decide_eq_true (by omega)
  (repeat ((fail_if_success with_reducible refine rg ?_); go_step))
  refine wp_region_pw ?_
  refine pw_value (by rfl) (.pointer (some ⟨g1, 2, none⟩)) (exec_field 29 _ 2 rfl g1 0 rfl _ Try.underlying29 _ rfl 0 Try.sizeOf9) ?_
  simp only [Act.put, pu]
  refine pw_loadk (by rfl) 9 _ rfl _ (2) rfl r1.r (.string ⟨key.toArray⟩) rfl Try.isAgg9 ?_
  simp only [Act.put, pu]
  refine pw_callB (by rfl) 64 _ _ rfl Try.func64 (by kernel_rfl) #[.string ⟨key.toArray⟩] rfl _ ((rwkey_any key _ hkl).mono fun e w' ⟨he, hb⟩ => ⟨he.trans (by rw [hk]), hb⟩) ?_
  intro z2002 k
  simp only [Act.put, pu]
  replace r1 := k.row r1 (by simp <;> omega)
  replace sb := sb.trans (k.below w.heap.size sb.size (by simp <;> omega))
  clear k
  refine pw_value (by rfl) (.bool false) (exec_not _ _ rfl true rfl) ?_
  simp only [Act.put, pu]
  refine pw_mv (by rfl) rfl rfl ?_
  simp only [Act.put, pu]
  refine pw_mv (by rfl) rfl rfl ?_
  simp only [Act.put, pu]
  refine pw_mv (by rfl) rfl rfl ?_
  simp only [Act.put, pu]
  refine pw_skip (by rfl) ?_
  simp only [Act.put, pu]
  refine pw_skip (by rfl) ?_
  simp only [Act.put, pu]
  refine pw_skip (by rfl) ?_
  simp only [Act.put, pu]
  refine pw_pick (by rfl) false (v := .bool false) rfl rfl rfl ?_
  simp only [Act.put, pu]
  refine pw_pick (by rfl) false (v := .bool false) rfl rfl rfl ?_
  simp only [Act.put, pu]
  refine pw_mv (by rfl) rfl rfl ?_
  simp only [Act.put, pu]
  refine pw_mv (by rfl) rfl rfl ?_
  simp only [Act.put, pu]
  refine pw_value (by rfl) (.bool true) (exec_not _ _ rfl false rfl) ?_
  simp only [Act.put, pu]
  refine pw_mv (by rfl) rfl rfl ?_
  simp only [Act.put, pu]
  refine pw_value (by rfl) (.pointer (some ⟨g1, 1, none⟩)) (exec_field 29 _ 1 rfl g1 0 rfl _ Try.underlying29 _ rfl 0 Try.sizeOf3) ?_
  simp only [Act.put, pu]
  refine pw_loadk (by rfl) 3 _ rfl _ (1) rfl r1.r (.int .i64 op) rfl Try.isAgg3 ?_
  simp only [Act.put, pu]
  refine pw_value (by rfl) (.bool false) (x_lt _ _ _ _ rfl op 1 rfl rfl false (decide_eq_false (by omega))) ?_
  simp only [Act.put, pu]
  refine pw_mv (by rfl) rfl rfl ?_
  simp only [Act.put, pu]
  refine pw_value (by rfl) (.pointer (some ⟨g1, 1, none⟩)) (exec_field 29 _ 1 rfl g1 0 rfl _ Try.underlying29 _ rfl 0 Try.sizeOf3) ?_
  simp only [Act.put, pu]
  refine pw_loadk (by rfl) 3 _ rfl _ (1) rfl r1.r (.int .i64 op) rfl Try.isAgg3 ?_
  simp only [Act.put, pu]
  refine pw_value (by rfl) (.bool false) (x_gt _ _ _ _ rfl op 1048576 rfl rfl false (decide_eq_false (by omega))) ?_
  simp only [Act.put, pu]
  refine pw_pick (by rfl) false (v := .bool false) rfl rfl rfl ?_
  simp only [Act.put, pu]
  refine pw_pick (by rfl) true (v := .bool false) rfl rfl rfl ?_
  simp only [Act.put, pu]
  refine pw_pick (by rfl) false (v := .bool false) rfl rfl rfl ?_
  simp only [Act.put, pu]
  refine pw_nil ?_
  (repeat ((fail_if_success with_reducible refine rg ?_); go_step))
  refine wp_region_pw ?_
  refine pw_value (by rfl) (.pointer (some ⟨g1, 3, none⟩)) (exec_field 29 _ 3 rfl g1 0 rfl _ Try.underlying29 _ rfl 1 Try.sizeOf24) ?_
  simp only [Act.put, pu]
  refine pw_loadm (by rfl) 24 _ rfl _ (3) rfl r1.r (tsC sq cl) (ms_st _ _ _ _ _ _ _ _ _ _ _ _) _ Try.underlying24 rfl size_st ?_
  simp only [Act.put, pu]
  refine pw_value (by rfl) (.agg (tsC 0 0)) (exec_buildv _ [] rfl [] rfl _ built_st0) ?_
  simp only [Act.put, pu]
  refine pw_value (by rfl) (.bool (zsB sq cl)) (exec_eql_st _ _ _ rfl sq cl 0 0 rfl rfl _ rfl) ?_
  simp only [Act.put, pu]
  refine pw_as (by rfl) rfl rfl ?_
  simp only [Act.put, pu]
  refine pw_nil ?_
  (repeat ((fail_if_success with_reducible refine rg ?_); go_step))
  refine wp_region_pw ?_
  refine pw_value (by rfl) (.pointer (some ⟨g1, 0, none⟩)) (exec_field 29 _ 0 rfl g1 0 rfl _ Try.underlying29 _ rfl 0 Try.sizeOf3) ?_
  simp only [Act.put, pu]
  refine pw_loadk (by rfl) 3 _ rfl _ (0) rfl r1.r (.int .i64 kd) rfl Try.isAgg3 ?_
  simp only [Act.put, pu]
  refine pw_nil ?_
  by_cases h1 : kd = 1
  ·skip
   (repeat ((fail_if_success with_reducible refine rg ?_); go_step))
   refine wp_region_pw ?_
   refine pw_value (by rfl) (.bool true) (x_eqI _ _ _ _ rfl .i64 kd 1 rfl rfl true (decide_eq_true (by omega))) ?_
   simp only [Act.put, pu]
   refine pw_as (by rfl) rfl rfl ?_
   simp only [Act.put, pu]
   refine pw_nil ?_
   cases hzs : zsB sq cl with
   | true =>
    cases hnl : nlB dg with
    | true =>
     cases hbr : brB n m with
     | true =>
      have hv : W0 = true := by rw [← hW0, wm_kn hk hop]; simp [kndB, h1, hzs, hnl, hbr]
      (repeat ((fail_if_success with_reducible refine rg ?_); go_step))
      refine wp_region_pw ?_
      refine pw_mv (by rfl) rfl rfl ?_
      simp only [Act.put, pu]
      refine pw_mv (by rfl) rfl rfl ?_
      simp only [Act.put, pu]
      refine pw_value (by rfl) (.pointer (some ⟨g1, 5, none⟩)) (exec_field 29 _ 4 rfl g1 0 rfl _ Try.underlying29 _ rfl 0 Try.sizeOf9) ?_
      simp only [Act.put, pu]
      refine pw_loadk (by rfl) 9 _ rfl _ (5) rfl r1.r (.string ⟨dg.toArray⟩) rfl Try.isAgg9 ?_
      simp only [Act.put, pu]
      refine pw_value (by rfl) (.bool true) (y_eqS _ _ _ _ rfl dg [] rfl rfl true hnl) ?_
      simp only [Act.put, pu]
      refine pw_pick (by rfl) true (v := .bool true) rfl rfl rfl ?_
      simp only [Act.put, pu]
      refine pw_mv (by rfl) rfl rfl ?_
      simp only [Act.put, pu]
      refine pw_loadm (by rfl) 29 _ rfl _ (0) rfl r1.r (msC kd op key sq cl dg a1 n c1 a2 m c2) (part_all _) _ Try.underlying29 rfl size_ms ?_
      simp only [Act.put, pu]
      refine pw_callB (by rfl) 65 _ _ rfl Try.func65 (by kernel_rfl) #[.agg (msC kd op key sq cl dg a1 n c1 a2 m c2)] rfl _ ((rwbare_any kd op key sq cl dg a1 n c1 a2 m c2 _).mono fun e w' ⟨he, hb⟩ => ⟨he.trans (by rw [hbr]), hb⟩) ?_
      intro z8008 k
      simp only [Act.put, pu]
      replace r1 := k.row r1 (by simp <;> omega)
      replace sb := sb.trans (k.below w.heap.size sb.size (by simp <;> omega))
      clear k
      refine pw_pick (by rfl) true (v := .bool true) rfl rfl rfl ?_
      simp only [Act.put, pu]
      refine pw_as (by rfl) rfl rfl ?_
      simp only [Act.put, pu]
      refine pw_nil ?_
      go_wp2
      go_ret
      first | exact ⟨by rw [hv]; rfl, sb⟩ | exact ⟨rfl, sb⟩
     | false =>
      have hv : W0 = false := by rw [← hW0, wm_kn hk hop]; simp [kndB, h1, hzs, hnl, hbr]
      (repeat ((fail_if_success with_reducible refine rg ?_); go_step))
      refine wp_region_pw ?_
      refine pw_mv (by rfl) rfl rfl ?_
      simp only [Act.put, pu]
      refine pw_mv (by rfl) rfl rfl ?_
      simp only [Act.put, pu]
      refine pw_value (by rfl) (.pointer (some ⟨g1, 5, none⟩)) (exec_field 29 _ 4 rfl g1 0 rfl _ Try.underlying29 _ rfl 0 Try.sizeOf9) ?_
      simp only [Act.put, pu]
      refine pw_loadk (by rfl) 9 _ rfl _ (5) rfl r1.r (.string ⟨dg.toArray⟩) rfl Try.isAgg9 ?_
      simp only [Act.put, pu]
      refine pw_value (by rfl) (.bool true) (y_eqS _ _ _ _ rfl dg [] rfl rfl true hnl) ?_
      simp only [Act.put, pu]
      refine pw_pick (by rfl) true (v := .bool true) rfl rfl rfl ?_
      simp only [Act.put, pu]
      refine pw_mv (by rfl) rfl rfl ?_
      simp only [Act.put, pu]
      refine pw_loadm (by rfl) 29 _ rfl _ (0) rfl r1.r (msC kd op key sq cl dg a1 n c1 a2 m c2) (part_all _) _ Try.underlying29 rfl size_ms ?_
      simp only [Act.put, pu]
      refine pw_callB (by rfl) 65 _ _ rfl Try.func65 (by kernel_rfl) #[.agg (msC kd op key sq cl dg a1 n c1 a2 m c2)] rfl _ ((rwbare_any kd op key sq cl dg a1 n c1 a2 m c2 _).mono fun e w' ⟨he, hb⟩ => ⟨he.trans (by rw [hbr]), hb⟩) ?_
      intro z8008 k
      simp only [Act.put, pu]
      replace r1 := k.row r1 (by simp <;> omega)
      replace sb := sb.trans (k.below w.heap.size sb.size (by simp <;> omega))
      clear k
      refine pw_pick (by rfl) true (v := .bool false) rfl rfl rfl ?_
      simp only [Act.put, pu]
      refine pw_as (by rfl) rfl rfl ?_
      simp only [Act.put, pu]
      refine pw_nil ?_
      go_wp2
      go_ret
      first | exact ⟨by rw [hv]; rfl, sb⟩ | exact ⟨rfl, sb⟩
    | false =>
     have hv : W0 = false := by rw [← hW0, wm_kn hk hop]; simp [kndB, h1, hzs, hnl]
     (repeat ((fail_if_success with_reducible refine rg ?_); go_step))
     refine wp_region_pw ?_
     refine pw_mv (by rfl) rfl rfl ?_
     simp only [Act.put, pu]
     refine pw_mv (by rfl) rfl rfl ?_
     simp only [Act.put, pu]
     refine pw_value (by rfl) (.pointer (some ⟨g1, 5, none⟩)) (exec_field 29 _ 4 rfl g1 0 rfl _ Try.underlying29 _ rfl 0 Try.sizeOf9) ?_
     simp only [Act.put, pu]
     refine pw_loadk (by rfl) 9 _ rfl _ (5) rfl r1.r (.string ⟨dg.toArray⟩) rfl Try.isAgg9 ?_
     simp only [Act.put, pu]
     refine pw_value (by rfl) (.bool false) (y_eqS _ _ _ _ rfl dg [] rfl rfl false hnl) ?_
     simp only [Act.put, pu]
     refine pw_pick (by rfl) true (v := .bool false) rfl rfl rfl ?_
     simp only [Act.put, pu]
     refine pw_mv (by rfl) rfl rfl ?_
     simp only [Act.put, pu]
     refine pw_skip (by rfl) ?_
     simp only [Act.put, pu]
     refine pw_skip (by rfl) ?_
     simp only [Act.put, pu]
     refine pw_pick (by rfl) false (v := .bool false) rfl rfl rfl ?_
     simp only [Act.put, pu]
     refine pw_as (by rfl) rfl rfl ?_
     simp only [Act.put, pu]
     refine pw_nil ?_
     go_wp2
     go_ret
     first | exact ⟨by rw [hv]; rfl, sb⟩ | exact ⟨rfl, sb⟩
   | false =>
    have hv : W0 = false := by rw [← hW0, wm_kn hk hop]; simp [kndB, h1, hzs]
    (repeat ((fail_if_success with_reducible refine rg ?_); go_step))
    refine wp_region_pw ?_
    refine pw_mv (by rfl) rfl rfl ?_
    simp only [Act.put, pu]
    refine pw_mv (by rfl) rfl rfl ?_
    simp only [Act.put, pu]
    refine pw_skip (by rfl) ?_
    simp only [Act.put, pu]
    refine pw_skip (by rfl) ?_
    simp only [Act.put, pu]
    refine pw_skip (by rfl) ?_
    simp only [Act.put, pu]
    refine pw_pick (by rfl) false (v := .bool false) rfl rfl rfl ?_
    simp only [Act.put, pu]
    refine pw_mv (by rfl) rfl rfl ?_
    simp only [Act.put, pu]
    refine pw_skip (by rfl) ?_
    simp only [Act.put, pu]
    refine pw_skip (by rfl) ?_
    simp only [Act.put, pu]
    refine pw_pick (by rfl) false (v := .bool false) rfl rfl rfl ?_
    simp only [Act.put, pu]
    refine pw_as (by rfl) rfl rfl ?_
    simp only [Act.put, pu]
    refine pw_nil ?_
    go_wp2
    go_ret
    first | exact ⟨by rw [hv]; rfl, sb⟩ | exact ⟨rfl, sb⟩
  (repeat ((fail_if_success with_reducible refine rg ?_); go_step))
  refine wp_region_pw ?_
  refine pw_value (by rfl) (.bool false) (x_eqI _ _ _ _ rfl .i64 kd 1 rfl rfl false (decide_eq_false (by omega))) ?_
  simp only [Act.put, pu]
  refine pw_as (by rfl) rfl rfl ?_
  simp only [Act.put, pu]
  refine pw_nil ?_
  by_cases h2 : kd = 2
  ·skip
   (repeat ((fail_if_success with_reducible refine rg ?_); go_step))
   refine wp_region_pw ?_
   refine pw_value (by rfl) (.bool true) (x_eqI _ _ _ _ rfl .i64 kd 2 rfl rfl true (decide_eq_true (by omega))) ?_
   simp only [Act.put, pu]
   refine pw_as (by rfl) rfl rfl ?_
   simp only [Act.put, pu]
   refine pw_nil ?_
   cases hzs : zsB sq cl with
   | true =>
    cases hnl : nlB dg with
    | true =>
     cases hbr : brB n m with
     | true =>
      have hv : W0 = true := by rw [← hW0, wm_kn hk hop]; simp [kndB, h2, hzs, hnl, hbr]
      (repeat ((fail_if_success with_reducible refine rg ?_); go_step))
      refine wp_region_pw ?_
      refine pw_mv (by rfl) rfl rfl ?_
      simp only [Act.put, pu]
      refine pw_mv (by rfl) rfl rfl ?_
      simp only [Act.put, pu]
      refine pw_value (by rfl) (.pointer (some ⟨g1, 5, none⟩)) (exec_field 29 _ 4 rfl g1 0 rfl _ Try.underlying29 _ rfl 0 Try.sizeOf9) ?_
      simp only [Act.put, pu]
      refine pw_loadk (by rfl) 9 _ rfl _ (5) rfl r1.r (.string ⟨dg.toArray⟩) rfl Try.isAgg9 ?_
      simp only [Act.put, pu]
      refine pw_value (by rfl) (.bool true) (y_eqS _ _ _ _ rfl dg [] rfl rfl true hnl) ?_
      simp only [Act.put, pu]
      refine pw_pick (by rfl) true (v := .bool true) rfl rfl rfl ?_
      simp only [Act.put, pu]
      refine pw_mv (by rfl) rfl rfl ?_
      simp only [Act.put, pu]
      refine pw_loadm (by rfl) 29 _ rfl _ (0) rfl r1.r (msC kd op key sq cl dg a1 n c1 a2 m c2) (part_all _) _ Try.underlying29 rfl size_ms ?_
      simp only [Act.put, pu]
      refine pw_callB (by rfl) 65 _ _ rfl Try.func65 (by kernel_rfl) #[.agg (msC kd op key sq cl dg a1 n c1 a2 m c2)] rfl _ ((rwbare_any kd op key sq cl dg a1 n c1 a2 m c2 _).mono fun e w' ⟨he, hb⟩ => ⟨he.trans (by rw [hbr]), hb⟩) ?_
      intro z8008 k
      simp only [Act.put, pu]
      replace r1 := k.row r1 (by simp <;> omega)
      replace sb := sb.trans (k.below w.heap.size sb.size (by simp <;> omega))
      clear k
      refine pw_pick (by rfl) true (v := .bool true) rfl rfl rfl ?_
      simp only [Act.put, pu]
      refine pw_as (by rfl) rfl rfl ?_
      simp only [Act.put, pu]
      refine pw_nil ?_
      go_wp2
      go_ret
      first | exact ⟨by rw [hv]; rfl, sb⟩ | exact ⟨rfl, sb⟩
     | false =>
      have hv : W0 = false := by rw [← hW0, wm_kn hk hop]; simp [kndB, h2, hzs, hnl, hbr]
      (repeat ((fail_if_success with_reducible refine rg ?_); go_step))
      refine wp_region_pw ?_
      refine pw_mv (by rfl) rfl rfl ?_
      simp only [Act.put, pu]
      refine pw_mv (by rfl) rfl rfl ?_
      simp only [Act.put, pu]
      refine pw_value (by rfl) (.pointer (some ⟨g1, 5, none⟩)) (exec_field 29 _ 4 rfl g1 0 rfl _ Try.underlying29 _ rfl 0 Try.sizeOf9) ?_
      simp only [Act.put, pu]
      refine pw_loadk (by rfl) 9 _ rfl _ (5) rfl r1.r (.string ⟨dg.toArray⟩) rfl Try.isAgg9 ?_
      simp only [Act.put, pu]
      refine pw_value (by rfl) (.bool true) (y_eqS _ _ _ _ rfl dg [] rfl rfl true hnl) ?_
      simp only [Act.put, pu]
      refine pw_pick (by rfl) true (v := .bool true) rfl rfl rfl ?_
      simp only [Act.put, pu]
      refine pw_mv (by rfl) rfl rfl ?_
      simp only [Act.put, pu]
      refine pw_loadm (by rfl) 29 _ rfl _ (0) rfl r1.r (msC kd op key sq cl dg a1 n c1 a2 m c2) (part_all _) _ Try.underlying29 rfl size_ms ?_
      simp only [Act.put, pu]
      refine pw_callB (by rfl) 65 _ _ rfl Try.func65 (by kernel_rfl) #[.agg (msC kd op key sq cl dg a1 n c1 a2 m c2)] rfl _ ((rwbare_any kd op key sq cl dg a1 n c1 a2 m c2 _).mono fun e w' ⟨he, hb⟩ => ⟨he.trans (by rw [hbr]), hb⟩) ?_
      intro z8008 k
      simp only [Act.put, pu]
      replace r1 := k.row r1 (by simp <;> omega)
      replace sb := sb.trans (k.below w.heap.size sb.size (by simp <;> omega))
      clear k
      refine pw_pick (by rfl) true (v := .bool false) rfl rfl rfl ?_
      simp only [Act.put, pu]
      refine pw_as (by rfl) rfl rfl ?_
      simp only [Act.put, pu]
      refine pw_nil ?_
      go_wp2
      go_ret
      first | exact ⟨by rw [hv]; rfl, sb⟩ | exact ⟨rfl, sb⟩
    | false =>
     have hv : W0 = false := by rw [← hW0, wm_kn hk hop]; simp [kndB, h2, hzs, hnl]
     (repeat ((fail_if_success with_reducible refine rg ?_); go_step))
     refine wp_region_pw ?_
     refine pw_mv (by rfl) rfl rfl ?_
     simp only [Act.put, pu]
     refine pw_mv (by rfl) rfl rfl ?_
     simp only [Act.put, pu]
     refine pw_value (by rfl) (.pointer (some ⟨g1, 5, none⟩)) (exec_field 29 _ 4 rfl g1 0 rfl _ Try.underlying29 _ rfl 0 Try.sizeOf9) ?_
     simp only [Act.put, pu]
     refine pw_loadk (by rfl) 9 _ rfl _ (5) rfl r1.r (.string ⟨dg.toArray⟩) rfl Try.isAgg9 ?_
     simp only [Act.put, pu]
     refine pw_value (by rfl) (.bool false) (y_eqS _ _ _ _ rfl dg [] rfl rfl false hnl) ?_
     simp only [Act.put, pu]
     refine pw_pick (by rfl) true (v := .bool false) rfl rfl rfl ?_
     simp only [Act.put, pu]
     refine pw_mv (by rfl) rfl rfl ?_
     simp only [Act.put, pu]
     refine pw_skip (by rfl) ?_
     simp only [Act.put, pu]
     refine pw_skip (by rfl) ?_
     simp only [Act.put, pu]
     refine pw_pick (by rfl) false (v := .bool false) rfl rfl rfl ?_
     simp only [Act.put, pu]
     refine pw_as (by rfl) rfl rfl ?_
     simp only [Act.put, pu]
     refine pw_nil ?_
     go_wp2
     go_ret
     first | exact ⟨by rw [hv]; rfl, sb⟩ | exact ⟨rfl, sb⟩
   | false =>
    have hv : W0 = false := by rw [← hW0, wm_kn hk hop]; simp [kndB, h2, hzs]
    (repeat ((fail_if_success with_reducible refine rg ?_); go_step))
    refine wp_region_pw ?_
    refine pw_mv (by rfl) rfl rfl ?_
    simp only [Act.put, pu]
    refine pw_mv (by rfl) rfl rfl ?_
    simp only [Act.put, pu]
    refine pw_skip (by rfl) ?_
    simp only [Act.put, pu]
    refine pw_skip (by rfl) ?_
    simp only [Act.put, pu]
    refine pw_skip (by rfl) ?_
    simp only [Act.put, pu]
    refine pw_pick (by rfl) false (v := .bool false) rfl rfl rfl ?_
    simp only [Act.put, pu]
    refine pw_mv (by rfl) rfl rfl ?_
    simp only [Act.put, pu]
    refine pw_skip (by rfl) ?_
    simp only [Act.put, pu]
    refine pw_skip (by rfl) ?_
    simp only [Act.put, pu]
    refine pw_pick (by rfl) false (v := .bool false) rfl rfl rfl ?_
    simp only [Act.put, pu]
    refine pw_as (by rfl) rfl rfl ?_
    simp only [Act.put, pu]
    refine pw_nil ?_
    go_wp2
    go_ret
    first | exact ⟨by rw [hv]; rfl, sb⟩ | exact ⟨rfl, sb⟩
  (repeat ((fail_if_success with_reducible refine rg ?_); go_step))
  refine wp_region_pw ?_
  refine pw_value (by rfl) (.bool false) (x_eqI _ _ _ _ rfl .i64 kd 2 rfl rfl false (decide_eq_false (by omega))) ?_
  simp only [Act.put, pu]
  refine pw_as (by rfl) rfl rfl ?_
  simp only [Act.put, pu]
  refine pw_nil ?_
  by_cases h3 : kd = 3
  ·skip
   (repeat ((fail_if_success with_reducible refine rg ?_); go_step))
   refine wp_region_pw ?_
   refine pw_value (by rfl) (.bool true) (x_eqI _ _ _ _ rfl .i64 kd 3 rfl rfl true (decide_eq_true (by omega))) ?_
   simp only [Act.put, pu]
   refine pw_as (by rfl) rfl rfl ?_
   simp only [Act.put, pu]
   refine pw_nil ?_
   cases hzs : zsB sq cl with
   | true =>
    (repeat ((fail_if_success with_reducible refine rg ?_); go_step))
    refine wp_region_pw ?_
    refine pw_mv (by rfl) rfl rfl ?_
    simp only [Act.put, pu]
    refine pw_nil ?_
    cases hnl : nlB dg with
    | true =>
     cases hbr : brB n m with
     | true =>
      have hv : W0 = true := by rw [← hW0, wm_kn hk hop]; simp [kndB, h3, hzs, hnl, hbr]
      (repeat ((fail_if_success with_reducible refine rg ?_); go_step))
      refine wp_region_pw ?_
      refine pw_value (by rfl) (.pointer (some ⟨g1, 5, none⟩)) (exec_field 29 _ 4 rfl g1 0 rfl _ Try.underlying29 _ rfl 0 Try.sizeOf9) ?_
      simp only [Act.put, pu]
      refine pw_loadk (by rfl) 9 _ rfl _ (5) rfl r1.r (.string ⟨dg.toArray⟩) rfl Try.isAgg9 ?_
      simp only [Act.put, pu]
      refine pw_value (by rfl) (.bool true) (y_eqS _ _ _ _ rfl dg [] rfl rfl true hnl) ?_
      simp only [Act.put, pu]
      refine pw_mv (by rfl) rfl rfl ?_
      simp only [Act.put, pu]
      refine pw_loadm (by rfl) 29 _ rfl _ (0) rfl r1.r (msC kd op key sq cl dg a1 n c1 a2 m c2) (part_all _) _ Try.underlying29 rfl size_ms ?_
      simp only [Act.put, pu]
      refine pw_callB (by rfl) 65 _ _ rfl Try.func65 (by kernel_rfl) #[.agg (msC kd op key sq cl dg a1 n c1 a2 m c2)] rfl _ ((rwbare_any kd op key sq cl dg a1 n c1 a2 m c2 _).mono fun e w' ⟨he, hb⟩ => ⟨he.trans (by rw [hbr]), hb⟩) ?_
      intro z11005 k
      simp only [Act.put, pu]
      replace r1 := k.row r1 (by simp <;> omega)
      replace sb := sb.trans (k.below w.heap.size sb.size (by simp <;> omega))
      clear k
      refine pw_pick (by rfl) true (v := .bool true) rfl rfl rfl ?_
      simp only [Act.put, pu]
      refine pw_as (by rfl) rfl rfl ?_
      simp only [Act.put, pu]
      refine pw_nil ?_
      go_wp2
      go_ret
      first | exact ⟨by rw [hv]; rfl, sb⟩ | exact ⟨rfl, sb⟩
     | false =>
      have hv : W0 = false := by rw [← hW0, wm_kn hk hop]; simp [kndB, h3, hzs, hnl, hbr]
      (repeat ((fail_if_success with_reducible refine rg ?_); go_step))
      refine wp_region_pw ?_
      refine pw_value (by rfl) (.pointer (some ⟨g1, 5, none⟩)) (exec_field 29 _ 4 rfl g1 0 rfl _ Try.underlying29 _ rfl 0 Try.sizeOf9) ?_
      simp only [Act.put, pu]
      refine pw_loadk (by rfl) 9 _ rfl _ (5) rfl r1.r (.string ⟨dg.toArray⟩) rfl Try.isAgg9 ?_
      simp only [Act.put, pu]
      refine pw_value (by rfl) (.bool true) (y_eqS _ _ _ _ rfl dg [] rfl rfl true hnl) ?_
      simp only [Act.put, pu]
      refine pw_mv (by rfl) rfl rfl ?_
      simp only [Act.put, pu]
      refine pw_loadm (by rfl) 29 _ rfl _ (0) rfl r1.r (msC kd op key sq cl dg a1 n c1 a2 m c2) (part_all _) _ Try.underlying29 rfl size_ms ?_
      simp only [Act.put, pu]
      refine pw_callB (by rfl) 65 _ _ rfl Try.func65 (by kernel_rfl) #[.agg (msC kd op key sq cl dg a1 n c1 a2 m c2)] rfl _ ((rwbare_any kd op key sq cl dg a1 n c1 a2 m c2 _).mono fun e w' ⟨he, hb⟩ => ⟨he.trans (by rw [hbr]), hb⟩) ?_
      intro z11005 k
      simp only [Act.put, pu]
      replace r1 := k.row r1 (by simp <;> omega)
      replace sb := sb.trans (k.below w.heap.size sb.size (by simp <;> omega))
      clear k
      refine pw_pick (by rfl) true (v := .bool false) rfl rfl rfl ?_
      simp only [Act.put, pu]
      refine pw_as (by rfl) rfl rfl ?_
      simp only [Act.put, pu]
      refine pw_nil ?_
      go_wp2
      go_ret
      first | exact ⟨by rw [hv]; rfl, sb⟩ | exact ⟨rfl, sb⟩
    | false =>
     have hv : W0 = false := by rw [← hW0, wm_kn hk hop]; simp [kndB, h3, hzs, hnl]
     (repeat ((fail_if_success with_reducible refine rg ?_); go_step))
     refine wp_region_pw ?_
     refine pw_value (by rfl) (.pointer (some ⟨g1, 5, none⟩)) (exec_field 29 _ 4 rfl g1 0 rfl _ Try.underlying29 _ rfl 0 Try.sizeOf9) ?_
     simp only [Act.put, pu]
     refine pw_loadk (by rfl) 9 _ rfl _ (5) rfl r1.r (.string ⟨dg.toArray⟩) rfl Try.isAgg9 ?_
     simp only [Act.put, pu]
     refine pw_value (by rfl) (.bool false) (y_eqS _ _ _ _ rfl dg [] rfl rfl false hnl) ?_
     simp only [Act.put, pu]
     refine pw_mv (by rfl) rfl rfl ?_
     simp only [Act.put, pu]
     refine pw_skip (by rfl) ?_
     simp only [Act.put, pu]
     refine pw_skip (by rfl) ?_
     simp only [Act.put, pu]
     refine pw_pick (by rfl) false (v := .bool false) rfl rfl rfl ?_
     simp only [Act.put, pu]
     refine pw_as (by rfl) rfl rfl ?_
     simp only [Act.put, pu]
     refine pw_nil ?_
     go_wp2
     go_ret
     first | exact ⟨by rw [hv]; rfl, sb⟩ | exact ⟨rfl, sb⟩
   | false =>
    (repeat ((fail_if_success with_reducible refine rg ?_); go_step))
    refine wp_region_pw ?_
    refine pw_mv (by rfl) rfl rfl ?_
    simp only [Act.put, pu]
    refine pw_nil ?_
    cases hst : stB sq cl with
    | true =>
     cases h32 : g32 dg with
     | true =>
      cases hbr : brB n m with
      | true =>
       have hv : W0 = true := by rw [← hW0, wm_kn hk hop]; simp [kndB, h3, hzs, hst, h32, hbr]
       (repeat ((fail_if_success with_reducible refine rg ?_); go_step))
       refine wp_region_pw ?_
       refine pw_value (by rfl) (.pointer (some ⟨g1, 3, none⟩)) (exec_field 29 _ 3 rfl g1 0 rfl _ Try.underlying29 _ rfl 1 Try.sizeOf24) ?_
       simp only [Act.put, pu]
       refine pw_loadm (by rfl) 24 _ rfl _ (3) rfl r1.r (tsC sq cl) (ms_st _ _ _ _ _ _ _ _ _ _ _ _) _ Try.underlying24 rfl size_st ?_
       simp only [Act.put, pu]
       refine pw_callB (by rfl) 66 _ _ rfl Try.func66 (by kernel_rfl) #[.agg (tsC sq cl)] rfl _ ((rwst_any sq cl _).mono fun e w' ⟨he, hb⟩ => ⟨he.trans (by rw [hst]), hb⟩) ?_
       intro z12002 k
       simp only [Act.put, pu]
       replace r1 := k.row r1 (by simp <;> omega)
       replace sb := sb.trans (k.below w.heap.size sb.size (by simp <;> omega))
       clear k
       refine pw_mv (by rfl) rfl rfl ?_
       simp only [Act.put, pu]
       refine pw_value (by rfl) (.pointer (some ⟨g1, 5, none⟩)) (exec_field 29 _ 4 rfl g1 0 rfl _ Try.underlying29 _ rfl 0 Try.sizeOf9) ?_
       simp only [Act.put, pu]
       refine pw_loadk (by rfl) 9 _ rfl _ (5) rfl r1.r (.string ⟨dg.toArray⟩) rfl Try.isAgg9 ?_
       simp only [Act.put, pu]
       refine pw_value (by rfl) (.int .i64 (dg.length : Nat)) (y_lenS _ _ rfl dg rfl Try.underlying9) ?_
       simp only [Act.put, pu]
       refine pw_value (by rfl) (.bool true) (x_eqI _ _ _ _ rfl .i64 (dg.length : Nat) 32 rfl rfl true h32) ?_
       simp only [Act.put, pu]
       refine pw_pick (by rfl) true (v := .bool true) rfl rfl rfl ?_
       simp only [Act.put, pu]
       refine pw_mv (by rfl) rfl rfl ?_
       simp only [Act.put, pu]
       refine pw_loadm (by rfl) 29 _ rfl _ (0) rfl r1.r (msC kd op key sq cl dg a1 n c1 a2 m c2) (part_all _) _ Try.underlying29 rfl size_ms ?_
       simp only [Act.put, pu]
       refine pw_callB (by rfl) 65 _ _ rfl Try.func65 (by kernel_rfl) #[.agg (msC kd op key sq cl dg a1 n c1 a2 m c2)] rfl _ ((rwbare_any kd op key sq cl dg a1 n c1 a2 m c2 _).mono fun e w' ⟨he, hb⟩ => ⟨he.trans (by rw [hbr]), hb⟩) ?_
       intro z12011 k
       simp only [Act.put, pu]
       replace r1 := k.row r1 (by simp <;> omega)
       replace sb := sb.trans (k.below w.heap.size sb.size (by simp <;> omega))
       clear k
       refine pw_mv (by rfl) rfl rfl ?_
       simp only [Act.put, pu]
       refine pw_skip (by rfl) ?_
       simp only [Act.put, pu]
       refine pw_skip (by rfl) ?_
       simp only [Act.put, pu]
       refine pw_pick (by rfl) true (v := .bool true) rfl rfl rfl ?_
       simp only [Act.put, pu]
       refine pw_pick (by rfl) true (v := .bool true) rfl rfl rfl ?_
       simp only [Act.put, pu]
       refine pw_as (by rfl) rfl rfl ?_
       simp only [Act.put, pu]
       refine pw_nil ?_
       go_wp2
       go_ret
       first | exact ⟨by rw [hv]; rfl, sb⟩ | exact ⟨rfl, sb⟩
      | false =>
       cases hdl : dlB n m X with
       | true =>
        have hv : W0 = true := by rw [← hW0, wm_kn hk hop]; simp [kndB, h3, hzs, hst, h32, hbr, hdl]
        (repeat ((fail_if_success with_reducible refine rg ?_); go_step))
        refine wp_region_pw ?_
        refine pw_value (by rfl) (.pointer (some ⟨g1, 3, none⟩)) (exec_field 29 _ 3 rfl g1 0 rfl _ Try.underlying29 _ rfl 1 Try.sizeOf24) ?_
        simp only [Act.put, pu]
        refine pw_loadm (by rfl) 24 _ rfl _ (3) rfl r1.r (tsC sq cl) (ms_st _ _ _ _ _ _ _ _ _ _ _ _) _ Try.underlying24 rfl size_st ?_
        simp only [Act.put, pu]
        refine pw_callB (by rfl) 66 _ _ rfl Try.func66 (by kernel_rfl) #[.agg (tsC sq cl)] rfl _ ((rwst_any sq cl _).mono fun e w' ⟨he, hb⟩ => ⟨he.trans (by rw [hst]), hb⟩) ?_
        intro z12002 k
        simp only [Act.put, pu]
        replace r1 := k.row r1 (by simp <;> omega)
        replace sb := sb.trans (k.below w.heap.size sb.size (by simp <;> omega))
        clear k
        refine pw_mv (by rfl) rfl rfl ?_
        simp only [Act.put, pu]
        refine pw_value (by rfl) (.pointer (some ⟨g1, 5, none⟩)) (exec_field 29 _ 4 rfl g1 0 rfl _ Try.underlying29 _ rfl 0 Try.sizeOf9) ?_
        simp only [Act.put, pu]
        refine pw_loadk (by rfl) 9 _ rfl _ (5) rfl r1.r (.string ⟨dg.toArray⟩) rfl Try.isAgg9 ?_
        simp only [Act.put, pu]
        refine pw_value (by rfl) (.int .i64 (dg.length : Nat)) (y_lenS _ _ rfl dg rfl Try.underlying9) ?_
        simp only [Act.put, pu]
        refine pw_value (by rfl) (.bool true) (x_eqI _ _ _ _ rfl .i64 (dg.length : Nat) 32 rfl rfl true h32) ?_
        simp only [Act.put, pu]
        refine pw_pick (by rfl) true (v := .bool true) rfl rfl rfl ?_
        simp only [Act.put, pu]
        refine pw_mv (by rfl) rfl rfl ?_
        simp only [Act.put, pu]
        refine pw_loadm (by rfl) 29 _ rfl _ (0) rfl r1.r (msC kd op key sq cl dg a1 n c1 a2 m c2) (part_all _) _ Try.underlying29 rfl size_ms ?_
        simp only [Act.put, pu]
        refine pw_callB (by rfl) 65 _ _ rfl Try.func65 (by kernel_rfl) #[.agg (msC kd op key sq cl dg a1 n c1 a2 m c2)] rfl _ ((rwbare_any kd op key sq cl dg a1 n c1 a2 m c2 _).mono fun e w' ⟨he, hb⟩ => ⟨he.trans (by rw [hbr]), hb⟩) ?_
        intro z12011 k
        simp only [Act.put, pu]
        replace r1 := k.row r1 (by simp <;> omega)
        replace sb := sb.trans (k.below w.heap.size sb.size (by simp <;> omega))
        clear k
        refine pw_mv (by rfl) rfl rfl ?_
        simp only [Act.put, pu]
        refine pw_loadm (by rfl) 29 _ rfl _ (0) rfl r1.r (msC kd op key sq cl dg a1 n c1 a2 m c2) (part_all _) _ Try.underlying29 rfl size_ms ?_
        simp only [Act.put, pu]
        refine pw_callB (by rfl) 67 _ _ rfl Try.func67 (by kernel_rfl) #[.agg (msC kd op key sq cl dg a1 n c1 a2 m c2)] rfl _ ((hD _ sb).mono fun e w' ⟨he, hb⟩ => ⟨he.trans (by rw [hdl]), hb⟩) ?_
        intro z12014 k
        simp only [Act.put, pu]
        replace r1 := k.row r1 (by simp <;> omega)
        replace sb := sb.trans (k.below w.heap.size sb.size (by simp <;> omega))
        clear k
        refine pw_pick (by rfl) false (v := .bool true) rfl rfl rfl ?_
        simp only [Act.put, pu]
        refine pw_pick (by rfl) true (v := .bool true) rfl rfl rfl ?_
        simp only [Act.put, pu]
        refine pw_as (by rfl) rfl rfl ?_
        simp only [Act.put, pu]
        refine pw_nil ?_
        go_wp2
        go_ret
        first | exact ⟨by rw [hv]; rfl, sb⟩ | exact ⟨rfl, sb⟩
       | false =>
        have hv : W0 = false := by rw [← hW0, wm_kn hk hop]; simp [kndB, h3, hzs, hst, h32, hbr, hdl]
        (repeat ((fail_if_success with_reducible refine rg ?_); go_step))
        refine wp_region_pw ?_
        refine pw_value (by rfl) (.pointer (some ⟨g1, 3, none⟩)) (exec_field 29 _ 3 rfl g1 0 rfl _ Try.underlying29 _ rfl 1 Try.sizeOf24) ?_
        simp only [Act.put, pu]
        refine pw_loadm (by rfl) 24 _ rfl _ (3) rfl r1.r (tsC sq cl) (ms_st _ _ _ _ _ _ _ _ _ _ _ _) _ Try.underlying24 rfl size_st ?_
        simp only [Act.put, pu]
        refine pw_callB (by rfl) 66 _ _ rfl Try.func66 (by kernel_rfl) #[.agg (tsC sq cl)] rfl _ ((rwst_any sq cl _).mono fun e w' ⟨he, hb⟩ => ⟨he.trans (by rw [hst]), hb⟩) ?_
        intro z12002 k
        simp only [Act.put, pu]
        replace r1 := k.row r1 (by simp <;> omega)
        replace sb := sb.trans (k.below w.heap.size sb.size (by simp <;> omega))
        clear k
        refine pw_mv (by rfl) rfl rfl ?_
        simp only [Act.put, pu]
        refine pw_value (by rfl) (.pointer (some ⟨g1, 5, none⟩)) (exec_field 29 _ 4 rfl g1 0 rfl _ Try.underlying29 _ rfl 0 Try.sizeOf9) ?_
        simp only [Act.put, pu]
        refine pw_loadk (by rfl) 9 _ rfl _ (5) rfl r1.r (.string ⟨dg.toArray⟩) rfl Try.isAgg9 ?_
        simp only [Act.put, pu]
        refine pw_value (by rfl) (.int .i64 (dg.length : Nat)) (y_lenS _ _ rfl dg rfl Try.underlying9) ?_
        simp only [Act.put, pu]
        refine pw_value (by rfl) (.bool true) (x_eqI _ _ _ _ rfl .i64 (dg.length : Nat) 32 rfl rfl true h32) ?_
        simp only [Act.put, pu]
        refine pw_pick (by rfl) true (v := .bool true) rfl rfl rfl ?_
        simp only [Act.put, pu]
        refine pw_mv (by rfl) rfl rfl ?_
        simp only [Act.put, pu]
        refine pw_loadm (by rfl) 29 _ rfl _ (0) rfl r1.r (msC kd op key sq cl dg a1 n c1 a2 m c2) (part_all _) _ Try.underlying29 rfl size_ms ?_
        simp only [Act.put, pu]
        refine pw_callB (by rfl) 65 _ _ rfl Try.func65 (by kernel_rfl) #[.agg (msC kd op key sq cl dg a1 n c1 a2 m c2)] rfl _ ((rwbare_any kd op key sq cl dg a1 n c1 a2 m c2 _).mono fun e w' ⟨he, hb⟩ => ⟨he.trans (by rw [hbr]), hb⟩) ?_
        intro z12011 k
        simp only [Act.put, pu]
        replace r1 := k.row r1 (by simp <;> omega)
        replace sb := sb.trans (k.below w.heap.size sb.size (by simp <;> omega))
        clear k
        refine pw_mv (by rfl) rfl rfl ?_
        simp only [Act.put, pu]
        refine pw_loadm (by rfl) 29 _ rfl _ (0) rfl r1.r (msC kd op key sq cl dg a1 n c1 a2 m c2) (part_all _) _ Try.underlying29 rfl size_ms ?_
        simp only [Act.put, pu]
        refine pw_callB (by rfl) 67 _ _ rfl Try.func67 (by kernel_rfl) #[.agg (msC kd op key sq cl dg a1 n c1 a2 m c2)] rfl _ ((hD _ sb).mono fun e w' ⟨he, hb⟩ => ⟨he.trans (by rw [hdl]), hb⟩) ?_
        intro z12014 k
        simp only [Act.put, pu]
        replace r1 := k.row r1 (by simp <;> omega)
        replace sb := sb.trans (k.below w.heap.size sb.size (by simp <;> omega))
        clear k
        refine pw_pick (by rfl) false (v := .bool false) rfl rfl rfl ?_
        simp only [Act.put, pu]
        refine pw_pick (by rfl) true (v := .bool false) rfl rfl rfl ?_
        simp only [Act.put, pu]
        refine pw_as (by rfl) rfl rfl ?_
        simp only [Act.put, pu]
        refine pw_nil ?_
        go_wp2
        go_ret
        first | exact ⟨by rw [hv]; rfl, sb⟩ | exact ⟨rfl, sb⟩
     | false =>
      have hv : W0 = false := by rw [← hW0, wm_kn hk hop]; simp [kndB, h3, hzs, hst, h32]
      (repeat ((fail_if_success with_reducible refine rg ?_); go_step))
      refine wp_region_pw ?_
      refine pw_value (by rfl) (.pointer (some ⟨g1, 3, none⟩)) (exec_field 29 _ 3 rfl g1 0 rfl _ Try.underlying29 _ rfl 1 Try.sizeOf24) ?_
      simp only [Act.put, pu]
      refine pw_loadm (by rfl) 24 _ rfl _ (3) rfl r1.r (tsC sq cl) (ms_st _ _ _ _ _ _ _ _ _ _ _ _) _ Try.underlying24 rfl size_st ?_
      simp only [Act.put, pu]
      refine pw_callB (by rfl) 66 _ _ rfl Try.func66 (by kernel_rfl) #[.agg (tsC sq cl)] rfl _ ((rwst_any sq cl _).mono fun e w' ⟨he, hb⟩ => ⟨he.trans (by rw [hst]), hb⟩) ?_
      intro z12002 k
      simp only [Act.put, pu]
      replace r1 := k.row r1 (by simp <;> omega)
      replace sb := sb.trans (k.below w.heap.size sb.size (by simp <;> omega))
      clear k
      refine pw_mv (by rfl) rfl rfl ?_
      simp only [Act.put, pu]
      refine pw_value (by rfl) (.pointer (some ⟨g1, 5, none⟩)) (exec_field 29 _ 4 rfl g1 0 rfl _ Try.underlying29 _ rfl 0 Try.sizeOf9) ?_
      simp only [Act.put, pu]
      refine pw_loadk (by rfl) 9 _ rfl _ (5) rfl r1.r (.string ⟨dg.toArray⟩) rfl Try.isAgg9 ?_
      simp only [Act.put, pu]
      refine pw_value (by rfl) (.int .i64 (dg.length : Nat)) (y_lenS _ _ rfl dg rfl Try.underlying9) ?_
      simp only [Act.put, pu]
      refine pw_value (by rfl) (.bool false) (x_eqI _ _ _ _ rfl .i64 (dg.length : Nat) 32 rfl rfl false h32) ?_
      simp only [Act.put, pu]
      refine pw_pick (by rfl) true (v := .bool false) rfl rfl rfl ?_
      simp only [Act.put, pu]
      refine pw_mv (by rfl) rfl rfl ?_
      simp only [Act.put, pu]
      refine pw_skip (by rfl) ?_
      simp only [Act.put, pu]
      refine pw_skip (by rfl) ?_
      simp only [Act.put, pu]
      refine pw_skip (by rfl) ?_
      simp only [Act.put, pu]
      refine pw_skip (by rfl) ?_
      simp only [Act.put, pu]
      refine pw_skip (by rfl) ?_
      simp only [Act.put, pu]
      refine pw_skip (by rfl) ?_
      simp only [Act.put, pu]
      refine pw_pick (by rfl) false (v := .bool false) rfl rfl rfl ?_
      simp only [Act.put, pu]
      refine pw_as (by rfl) rfl rfl ?_
      simp only [Act.put, pu]
      refine pw_nil ?_
      go_wp2
      go_ret
      first | exact ⟨by rw [hv]; rfl, sb⟩ | exact ⟨rfl, sb⟩
    | false =>
     have hv : W0 = false := by rw [← hW0, wm_kn hk hop]; simp [kndB, h3, hzs, hst]
     (repeat ((fail_if_success with_reducible refine rg ?_); go_step))
     refine wp_region_pw ?_
     refine pw_value (by rfl) (.pointer (some ⟨g1, 3, none⟩)) (exec_field 29 _ 3 rfl g1 0 rfl _ Try.underlying29 _ rfl 1 Try.sizeOf24) ?_
     simp only [Act.put, pu]
     refine pw_loadm (by rfl) 24 _ rfl _ (3) rfl r1.r (tsC sq cl) (ms_st _ _ _ _ _ _ _ _ _ _ _ _) _ Try.underlying24 rfl size_st ?_
     simp only [Act.put, pu]
     refine pw_callB (by rfl) 66 _ _ rfl Try.func66 (by kernel_rfl) #[.agg (tsC sq cl)] rfl _ ((rwst_any sq cl _).mono fun e w' ⟨he, hb⟩ => ⟨he.trans (by rw [hst]), hb⟩) ?_
     intro z12002 k
     simp only [Act.put, pu]
     replace r1 := k.row r1 (by simp <;> omega)
     replace sb := sb.trans (k.below w.heap.size sb.size (by simp <;> omega))
     clear k
     refine pw_mv (by rfl) rfl rfl ?_
     simp only [Act.put, pu]
     refine pw_skip (by rfl) ?_
     simp only [Act.put, pu]
     refine pw_skip (by rfl) ?_
     simp only [Act.put, pu]
     refine pw_skip (by rfl) ?_
     simp only [Act.put, pu]
     refine pw_skip (by rfl) ?_
     simp only [Act.put, pu]
     refine pw_pick (by rfl) false (v := .bool false) rfl rfl rfl ?_
     simp only [Act.put, pu]
     refine pw_mv (by rfl) rfl rfl ?_
     simp only [Act.put, pu]
     refine pw_skip (by rfl) ?_
     simp only [Act.put, pu]
     refine pw_skip (by rfl) ?_
     simp only [Act.put, pu]
     refine pw_skip (by rfl) ?_
     simp only [Act.put, pu]
     refine pw_skip (by rfl) ?_
     simp only [Act.put, pu]
     refine pw_skip (by rfl) ?_
     simp only [Act.put, pu]
     refine pw_skip (by rfl) ?_
     simp only [Act.put, pu]
     refine pw_pick (by rfl) false (v := .bool false) rfl rfl rfl ?_
     simp only [Act.put, pu]
     refine pw_as (by rfl) rfl rfl ?_
     simp only [Act.put, pu]
     refine pw_nil ?_
     go_wp2
     go_ret
     first | exact ⟨by rw [hv]; rfl, sb⟩ | exact ⟨rfl, sb⟩
  (repeat ((fail_if_success with_reducible refine rg ?_); go_step))
  refine wp_region_pw ?_
  refine pw_value (by rfl) (.bool false) (x_eqI _ _ _ _ rfl .i64 kd 3 rfl rfl false (decide_eq_false (by omega))) ?_
  simp only [Act.put, pu]
  refine pw_as (by rfl) rfl rfl ?_
  simp only [Act.put, pu]
  refine pw_nil ?_
  by_cases h4 : kd = 4
  ·skip
   (repeat ((fail_if_success with_reducible refine rg ?_); go_step))
   refine wp_region_pw ?_
   refine pw_value (by rfl) (.bool true) (x_eqI _ _ _ _ rfl .i64 kd 4 rfl rfl true (decide_eq_true (by omega))) ?_
   simp only [Act.put, pu]
   refine pw_as (by rfl) rfl rfl ?_
   simp only [Act.put, pu]
   refine pw_nil ?_
   cases hst : stB sq cl with
   | true =>
    cases hnl : nlB dg with
    | true =>
     cases hdl : dlB n m X with
     | true =>
      have hv : W0 = true := by rw [← hW0, wm_kn hk hop]; simp [kndB, h4, hst, hnl, hdl]
      (repeat ((fail_if_success with_reducible refine rg ?_); go_step))
      refine wp_region_pw ?_
      refine pw_value (by rfl) (.pointer (some ⟨g1, 3, none⟩)) (exec_field 29 _ 3 rfl g1 0 rfl _ Try.underlying29 _ rfl 1 Try.sizeOf24) ?_
      simp only [Act.put, pu]
      refine pw_loadm (by rfl) 24 _ rfl _ (3) rfl r1.r (tsC sq cl) (ms_st _ _ _ _ _ _ _ _ _ _ _ _) _ Try.underlying24 rfl size_st ?_
      simp only [Act.put, pu]
      refine pw_callB (by rfl) 66 _ _ rfl Try.func66 (by kernel_rfl) #[.agg (tsC sq cl)] rfl _ ((rwst_any sq cl _).mono fun e w' ⟨he, hb⟩ => ⟨he.trans (by rw [hst]), hb⟩) ?_
      intro z15002 k
      simp only [Act.put, pu]
      replace r1 := k.row r1 (by simp <;> omega)
      replace sb := sb.trans (k.below w.heap.size sb.size (by simp <;> omega))
      clear k
      refine pw_mv (by rfl) rfl rfl ?_
      simp only [Act.put, pu]
      refine pw_value (by rfl) (.pointer (some ⟨g1, 5, none⟩)) (exec_field 29 _ 4 rfl g1 0 rfl _ Try.underlying29 _ rfl 0 Try.sizeOf9) ?_
      simp only [Act.put, pu]
      refine pw_loadk (by rfl) 9 _ rfl _ (5) rfl r1.r (.string ⟨dg.toArray⟩) rfl Try.isAgg9 ?_
      simp only [Act.put, pu]
      refine pw_value (by rfl) (.bool true) (y_eqS _ _ _ _ rfl dg [] rfl rfl true hnl) ?_
      simp only [Act.put, pu]
      refine pw_pick (by rfl) true (v := .bool true) rfl rfl rfl ?_
      simp only [Act.put, pu]
      refine pw_mv (by rfl) rfl rfl ?_
      simp only [Act.put, pu]
      refine pw_loadm (by rfl) 29 _ rfl _ (0) rfl r1.r (msC kd op key sq cl dg a1 n c1 a2 m c2) (part_all _) _ Try.underlying29 rfl size_ms ?_
      simp only [Act.put, pu]
      refine pw_callB (by rfl) 67 _ _ rfl Try.func67 (by kernel_rfl) #[.agg (msC kd op key sq cl dg a1 n c1 a2 m c2)] rfl _ ((hD _ sb).mono fun e w' ⟨he, hb⟩ => ⟨he.trans (by rw [hdl]), hb⟩) ?_
      intro z15010 k
      simp only [Act.put, pu]
      replace r1 := k.row r1 (by simp <;> omega)
      replace sb := sb.trans (k.below w.heap.size sb.size (by simp <;> omega))
      clear k
      refine pw_pick (by rfl) true (v := .bool true) rfl rfl rfl ?_
      simp only [Act.put, pu]
      refine pw_as (by rfl) rfl rfl ?_
      simp only [Act.put, pu]
      refine pw_nil ?_
      go_wp2
      go_ret
      first | exact ⟨by rw [hv]; rfl, sb⟩ | exact ⟨rfl, sb⟩
     | false =>
      have hv : W0 = false := by rw [← hW0, wm_kn hk hop]; simp [kndB, h4, hst, hnl, hdl]
      (repeat ((fail_if_success with_reducible refine rg ?_); go_step))
      refine wp_region_pw ?_
      refine pw_value (by rfl) (.pointer (some ⟨g1, 3, none⟩)) (exec_field 29 _ 3 rfl g1 0 rfl _ Try.underlying29 _ rfl 1 Try.sizeOf24) ?_
      simp only [Act.put, pu]
      refine pw_loadm (by rfl) 24 _ rfl _ (3) rfl r1.r (tsC sq cl) (ms_st _ _ _ _ _ _ _ _ _ _ _ _) _ Try.underlying24 rfl size_st ?_
      simp only [Act.put, pu]
      refine pw_callB (by rfl) 66 _ _ rfl Try.func66 (by kernel_rfl) #[.agg (tsC sq cl)] rfl _ ((rwst_any sq cl _).mono fun e w' ⟨he, hb⟩ => ⟨he.trans (by rw [hst]), hb⟩) ?_
      intro z15002 k
      simp only [Act.put, pu]
      replace r1 := k.row r1 (by simp <;> omega)
      replace sb := sb.trans (k.below w.heap.size sb.size (by simp <;> omega))
      clear k
      refine pw_mv (by rfl) rfl rfl ?_
      simp only [Act.put, pu]
      refine pw_value (by rfl) (.pointer (some ⟨g1, 5, none⟩)) (exec_field 29 _ 4 rfl g1 0 rfl _ Try.underlying29 _ rfl 0 Try.sizeOf9) ?_
      simp only [Act.put, pu]
      refine pw_loadk (by rfl) 9 _ rfl _ (5) rfl r1.r (.string ⟨dg.toArray⟩) rfl Try.isAgg9 ?_
      simp only [Act.put, pu]
      refine pw_value (by rfl) (.bool true) (y_eqS _ _ _ _ rfl dg [] rfl rfl true hnl) ?_
      simp only [Act.put, pu]
      refine pw_pick (by rfl) true (v := .bool true) rfl rfl rfl ?_
      simp only [Act.put, pu]
      refine pw_mv (by rfl) rfl rfl ?_
      simp only [Act.put, pu]
      refine pw_loadm (by rfl) 29 _ rfl _ (0) rfl r1.r (msC kd op key sq cl dg a1 n c1 a2 m c2) (part_all _) _ Try.underlying29 rfl size_ms ?_
      simp only [Act.put, pu]
      refine pw_callB (by rfl) 67 _ _ rfl Try.func67 (by kernel_rfl) #[.agg (msC kd op key sq cl dg a1 n c1 a2 m c2)] rfl _ ((hD _ sb).mono fun e w' ⟨he, hb⟩ => ⟨he.trans (by rw [hdl]), hb⟩) ?_
      intro z15010 k
      simp only [Act.put, pu]
      replace r1 := k.row r1 (by simp <;> omega)
      replace sb := sb.trans (k.below w.heap.size sb.size (by simp <;> omega))
      clear k
      refine pw_pick (by rfl) true (v := .bool false) rfl rfl rfl ?_
      simp only [Act.put, pu]
      refine pw_as (by rfl) rfl rfl ?_
      simp only [Act.put, pu]
      refine pw_nil ?_
      go_wp2
      go_ret
      first | exact ⟨by rw [hv]; rfl, sb⟩ | exact ⟨rfl, sb⟩
    | false =>
     have hv : W0 = false := by rw [← hW0, wm_kn hk hop]; simp [kndB, h4, hst, hnl]
     (repeat ((fail_if_success with_reducible refine rg ?_); go_step))
     refine wp_region_pw ?_
     refine pw_value (by rfl) (.pointer (some ⟨g1, 3, none⟩)) (exec_field 29 _ 3 rfl g1 0 rfl _ Try.underlying29 _ rfl 1 Try.sizeOf24) ?_
     simp only [Act.put, pu]
     refine pw_loadm (by rfl) 24 _ rfl _ (3) rfl r1.r (tsC sq cl) (ms_st _ _ _ _ _ _ _ _ _ _ _ _) _ Try.underlying24 rfl size_st ?_
     simp only [Act.put, pu]
     refine pw_callB (by rfl) 66 _ _ rfl Try.func66 (by kernel_rfl) #[.agg (tsC sq cl)] rfl _ ((rwst_any sq cl _).mono fun e w' ⟨he, hb⟩ => ⟨he.trans (by rw [hst]), hb⟩) ?_
     intro z15002 k
     simp only [Act.put, pu]
     replace r1 := k.row r1 (by simp <;> omega)
     replace sb := sb.trans (k.below w.heap.size sb.size (by simp <;> omega))
     clear k
     refine pw_mv (by rfl) rfl rfl ?_
     simp only [Act.put, pu]
     refine pw_value (by rfl) (.pointer (some ⟨g1, 5, none⟩)) (exec_field 29 _ 4 rfl g1 0 rfl _ Try.underlying29 _ rfl 0 Try.sizeOf9) ?_
     simp only [Act.put, pu]
     refine pw_loadk (by rfl) 9 _ rfl _ (5) rfl r1.r (.string ⟨dg.toArray⟩) rfl Try.isAgg9 ?_
     simp only [Act.put, pu]
     refine pw_value (by rfl) (.bool false) (y_eqS _ _ _ _ rfl dg [] rfl rfl false hnl) ?_
     simp only [Act.put, pu]
     refine pw_pick (by rfl) true (v := .bool false) rfl rfl rfl ?_
     simp only [Act.put, pu]
     refine pw_mv (by rfl) rfl rfl ?_
     simp only [Act.put, pu]
     refine pw_skip (by rfl) ?_
     simp only [Act.put, pu]
     refine pw_skip (by rfl) ?_
     simp only [Act.put, pu]
     refine pw_pick (by rfl) false (v := .bool false) rfl rfl rfl ?_
     simp only [Act.put, pu]
     refine pw_as (by rfl) rfl rfl ?_
     simp only [Act.put, pu]
     refine pw_nil ?_
     go_wp2
     go_ret
     first | exact ⟨by rw [hv]; rfl, sb⟩ | exact ⟨rfl, sb⟩
   | false =>
    have hv : W0 = false := by rw [← hW0, wm_kn hk hop]; simp [kndB, h4, hst]
    (repeat ((fail_if_success with_reducible refine rg ?_); go_step))
    refine wp_region_pw ?_
    refine pw_value (by rfl) (.pointer (some ⟨g1, 3, none⟩)) (exec_field 29 _ 3 rfl g1 0 rfl _ Try.underlying29 _ rfl 1 Try.sizeOf24) ?_
    simp only [Act.put, pu]
    refine pw_loadm (by rfl) 24 _ rfl _ (3) rfl r1.r (tsC sq cl) (ms_st _ _ _ _ _ _ _ _ _ _ _ _) _ Try.underlying24 rfl size_st ?_
    simp only [Act.put, pu]
    refine pw_callB (by rfl) 66 _ _ rfl Try.func66 (by kernel_rfl) #[.agg (tsC sq cl)] rfl _ ((rwst_any sq cl _).mono fun e w' ⟨he, hb⟩ => ⟨he.trans (by rw [hst]), hb⟩) ?_
    intro z15002 k
    simp only [Act.put, pu]
    replace r1 := k.row r1 (by simp <;> omega)
    replace sb := sb.trans (k.below w.heap.size sb.size (by simp <;> omega))
    clear k
    refine pw_mv (by rfl) rfl rfl ?_
    simp only [Act.put, pu]
    refine pw_skip (by rfl) ?_
    simp only [Act.put, pu]
    refine pw_skip (by rfl) ?_
    simp only [Act.put, pu]
    refine pw_skip (by rfl) ?_
    simp only [Act.put, pu]
    refine pw_pick (by rfl) false (v := .bool false) rfl rfl rfl ?_
    simp only [Act.put, pu]
    refine pw_mv (by rfl) rfl rfl ?_
    simp only [Act.put, pu]
    refine pw_skip (by rfl) ?_
    simp only [Act.put, pu]
    refine pw_skip (by rfl) ?_
    simp only [Act.put, pu]
    refine pw_pick (by rfl) false (v := .bool false) rfl rfl rfl ?_
    simp only [Act.put, pu]
    refine pw_as (by rfl) rfl rfl ?_
    simp only [Act.put, pu]
    refine pw_nil ?_
    go_wp2
    go_ret
    first | exact ⟨by rw [hv]; rfl, sb⟩ | exact ⟨rfl, sb⟩
  (repeat ((fail_if_success with_reducible refine rg ?_); go_step))
  refine wp_region_pw ?_
  refine pw_value (by rfl) (.bool false) (x_eqI _ _ _ _ rfl .i64 kd 4 rfl rfl false (decide_eq_false (by omega))) ?_
  simp only [Act.put, pu]
  refine pw_as (by rfl) rfl rfl ?_
  simp only [Act.put, pu]
  refine pw_nil ?_
  by_cases h8 : kd = 8
  ·skip
   (repeat ((fail_if_success with_reducible refine rg ?_); go_step))
   refine wp_region_pw ?_
   refine pw_value (by rfl) (.bool true) (x_eqI _ _ _ _ rfl .i64 kd 8 rfl rfl true (decide_eq_true (by omega))) ?_
   simp only [Act.put, pu]
   refine pw_as (by rfl) rfl rfl ?_
   simp only [Act.put, pu]
   refine pw_nil ?_
   cases hst : stB sq cl with
   | true =>
    cases hnl : nlB dg with
    | true =>
     cases hdl : dlB n m X with
     | true =>
      have hv : W0 = true := by rw [← hW0, wm_kn hk hop]; simp [kndB, h8, hst, hnl, hdl]
      (repeat ((fail_if_success with_reducible refine rg ?_); go_step))
      refine wp_region_pw ?_
      refine pw_value (by rfl) (.pointer (some ⟨g1, 3, none⟩)) (exec_field 29 _ 3 rfl g1 0 rfl _ Try.underlying29 _ rfl 1 Try.sizeOf24) ?_
      simp only [Act.put, pu]
      refine pw_loadm (by rfl) 24 _ rfl _ (3) rfl r1.r (tsC sq cl) (ms_st _ _ _ _ _ _ _ _ _ _ _ _) _ Try.underlying24 rfl size_st ?_
      simp only [Act.put, pu]
      refine pw_callB (by rfl) 66 _ _ rfl Try.func66 (by kernel_rfl) #[.agg (tsC sq cl)] rfl _ ((rwst_any sq cl _).mono fun e w' ⟨he, hb⟩ => ⟨he.trans (by rw [hst]), hb⟩) ?_
      intro z15002 k
      simp only [Act.put, pu]
      replace r1 := k.row r1 (by simp <;> omega)
      replace sb := sb.trans (k.below w.heap.size sb.size (by simp <;> omega))
      clear k
      refine pw_mv (by rfl) rfl rfl ?_
      simp only [Act.put, pu]
      refine pw_value (by rfl) (.pointer (some ⟨g1, 5, none⟩)) (exec_field 29 _ 4 rfl g1 0 rfl _ Try.underlying29 _ rfl 0 Try.sizeOf9) ?_
      simp only [Act.put, pu]
      refine pw_loadk (by rfl) 9 _ rfl _ (5) rfl r1.r (.string ⟨dg.toArray⟩) rfl Try.isAgg9 ?_
      simp only [Act.put, pu]
      refine pw_value (by rfl) (.bool true) (y_eqS _ _ _ _ rfl dg [] rfl rfl true hnl) ?_
      simp only [Act.put, pu]
      refine pw_pick (by rfl) true (v := .bool true) rfl rfl rfl ?_
      simp only [Act.put, pu]
      refine pw_mv (by rfl) rfl rfl ?_
      simp only [Act.put, pu]
      refine pw_loadm (by rfl) 29 _ rfl _ (0) rfl r1.r (msC kd op key sq cl dg a1 n c1 a2 m c2) (part_all _) _ Try.underlying29 rfl size_ms ?_
      simp only [Act.put, pu]
      refine pw_callB (by rfl) 67 _ _ rfl Try.func67 (by kernel_rfl) #[.agg (msC kd op key sq cl dg a1 n c1 a2 m c2)] rfl _ ((hD _ sb).mono fun e w' ⟨he, hb⟩ => ⟨he.trans (by rw [hdl]), hb⟩) ?_
      intro z15010 k
      simp only [Act.put, pu]
      replace r1 := k.row r1 (by simp <;> omega)
      replace sb := sb.trans (k.below w.heap.size sb.size (by simp <;> omega))
      clear k
      refine pw_pick (by rfl) true (v := .bool true) rfl rfl rfl ?_
      simp only [Act.put, pu]
      refine pw_as (by rfl) rfl rfl ?_
      simp only [Act.put, pu]
      refine pw_nil ?_
      go_wp2
      go_ret
      first | exact ⟨by rw [hv]; rfl, sb⟩ | exact ⟨rfl, sb⟩
     | false =>
      have hv : W0 = false := by rw [← hW0, wm_kn hk hop]; simp [kndB, h8, hst, hnl, hdl]
      (repeat ((fail_if_success with_reducible refine rg ?_); go_step))
      refine wp_region_pw ?_
      refine pw_value (by rfl) (.pointer (some ⟨g1, 3, none⟩)) (exec_field 29 _ 3 rfl g1 0 rfl _ Try.underlying29 _ rfl 1 Try.sizeOf24) ?_
      simp only [Act.put, pu]
      refine pw_loadm (by rfl) 24 _ rfl _ (3) rfl r1.r (tsC sq cl) (ms_st _ _ _ _ _ _ _ _ _ _ _ _) _ Try.underlying24 rfl size_st ?_
      simp only [Act.put, pu]
      refine pw_callB (by rfl) 66 _ _ rfl Try.func66 (by kernel_rfl) #[.agg (tsC sq cl)] rfl _ ((rwst_any sq cl _).mono fun e w' ⟨he, hb⟩ => ⟨he.trans (by rw [hst]), hb⟩) ?_
      intro z15002 k
      simp only [Act.put, pu]
      replace r1 := k.row r1 (by simp <;> omega)
      replace sb := sb.trans (k.below w.heap.size sb.size (by simp <;> omega))
      clear k
      refine pw_mv (by rfl) rfl rfl ?_
      simp only [Act.put, pu]
      refine pw_value (by rfl) (.pointer (some ⟨g1, 5, none⟩)) (exec_field 29 _ 4 rfl g1 0 rfl _ Try.underlying29 _ rfl 0 Try.sizeOf9) ?_
      simp only [Act.put, pu]
      refine pw_loadk (by rfl) 9 _ rfl _ (5) rfl r1.r (.string ⟨dg.toArray⟩) rfl Try.isAgg9 ?_
      simp only [Act.put, pu]
      refine pw_value (by rfl) (.bool true) (y_eqS _ _ _ _ rfl dg [] rfl rfl true hnl) ?_
      simp only [Act.put, pu]
      refine pw_pick (by rfl) true (v := .bool true) rfl rfl rfl ?_
      simp only [Act.put, pu]
      refine pw_mv (by rfl) rfl rfl ?_
      simp only [Act.put, pu]
      refine pw_loadm (by rfl) 29 _ rfl _ (0) rfl r1.r (msC kd op key sq cl dg a1 n c1 a2 m c2) (part_all _) _ Try.underlying29 rfl size_ms ?_
      simp only [Act.put, pu]
      refine pw_callB (by rfl) 67 _ _ rfl Try.func67 (by kernel_rfl) #[.agg (msC kd op key sq cl dg a1 n c1 a2 m c2)] rfl _ ((hD _ sb).mono fun e w' ⟨he, hb⟩ => ⟨he.trans (by rw [hdl]), hb⟩) ?_
      intro z15010 k
      simp only [Act.put, pu]
      replace r1 := k.row r1 (by simp <;> omega)
      replace sb := sb.trans (k.below w.heap.size sb.size (by simp <;> omega))
      clear k
      refine pw_pick (by rfl) true (v := .bool false) rfl rfl rfl ?_
      simp only [Act.put, pu]
      refine pw_as (by rfl) rfl rfl ?_
      simp only [Act.put, pu]
      refine pw_nil ?_
      go_wp2
      go_ret
      first | exact ⟨by rw [hv]; rfl, sb⟩ | exact ⟨rfl, sb⟩
    | false =>
     have hv : W0 = false := by rw [← hW0, wm_kn hk hop]; simp [kndB, h8, hst, hnl]
     (repeat ((fail_if_success with_reducible refine rg ?_); go_step))
     refine wp_region_pw ?_
     refine pw_value (by rfl) (.pointer (some ⟨g1, 3, none⟩)) (exec_field 29 _ 3 rfl g1 0 rfl _ Try.underlying29 _ rfl 1 Try.sizeOf24) ?_
     simp only [Act.put, pu]
     refine pw_loadm (by rfl) 24 _ rfl _ (3) rfl r1.r (tsC sq cl) (ms_st _ _ _ _ _ _ _ _ _ _ _ _) _ Try.underlying24 rfl size_st ?_
     simp only [Act.put, pu]
     refine pw_callB (by rfl) 66 _ _ rfl Try.func66 (by kernel_rfl) #[.agg (tsC sq cl)] rfl _ ((rwst_any sq cl _).mono fun e w' ⟨he, hb⟩ => ⟨he.trans (by rw [hst]), hb⟩) ?_
     intro z15002 k
     simp only [Act.put, pu]
     replace r1 := k.row r1 (by simp <;> omega)
     replace sb := sb.trans (k.below w.heap.size sb.size (by simp <;> omega))
     clear k
     refine pw_mv (by rfl) rfl rfl ?_
     simp only [Act.put, pu]
     refine pw_value (by rfl) (.pointer (some ⟨g1, 5, none⟩)) (exec_field 29 _ 4 rfl g1 0 rfl _ Try.underlying29 _ rfl 0 Try.sizeOf9) ?_
     simp only [Act.put, pu]
     refine pw_loadk (by rfl) 9 _ rfl _ (5) rfl r1.r (.string ⟨dg.toArray⟩) rfl Try.isAgg9 ?_
     simp only [Act.put, pu]
     refine pw_value (by rfl) (.bool false) (y_eqS _ _ _ _ rfl dg [] rfl rfl false hnl) ?_
     simp only [Act.put, pu]
     refine pw_pick (by rfl) true (v := .bool false) rfl rfl rfl ?_
     simp only [Act.put, pu]
     refine pw_mv (by rfl) rfl rfl ?_
     simp only [Act.put, pu]
     refine pw_skip (by rfl) ?_
     simp only [Act.put, pu]
     refine pw_skip (by rfl) ?_
     simp only [Act.put, pu]
     refine pw_pick (by rfl) false (v := .bool false) rfl rfl rfl ?_
     simp only [Act.put, pu]
     refine pw_as (by rfl) rfl rfl ?_
     simp only [Act.put, pu]
     refine pw_nil ?_
     go_wp2
     go_ret
     first | exact ⟨by rw [hv]; rfl, sb⟩ | exact ⟨rfl, sb⟩
   | false =>
    have hv : W0 = false := by rw [← hW0, wm_kn hk hop]; simp [kndB, h8, hst]
    (repeat ((fail_if_success with_reducible refine rg ?_); go_step))
    refine wp_region_pw ?_
    refine pw_value (by rfl) (.pointer (some ⟨g1, 3, none⟩)) (exec_field 29 _ 3 rfl g1 0 rfl _ Try.underlying29 _ rfl 1 Try.sizeOf24) ?_
    simp only [Act.put, pu]
    refine pw_loadm (by rfl) 24 _ rfl _ (3) rfl r1.r (tsC sq cl) (ms_st _ _ _ _ _ _ _ _ _ _ _ _) _ Try.underlying24 rfl size_st ?_
    simp only [Act.put, pu]
    refine pw_callB (by rfl) 66 _ _ rfl Try.func66 (by kernel_rfl) #[.agg (tsC sq cl)] rfl _ ((rwst_any sq cl _).mono fun e w' ⟨he, hb⟩ => ⟨he.trans (by rw [hst]), hb⟩) ?_
    intro z15002 k
    simp only [Act.put, pu]
    replace r1 := k.row r1 (by simp <;> omega)
    replace sb := sb.trans (k.below w.heap.size sb.size (by simp <;> omega))
    clear k
    refine pw_mv (by rfl) rfl rfl ?_
    simp only [Act.put, pu]
    refine pw_skip (by rfl) ?_
    simp only [Act.put, pu]
    refine pw_skip (by rfl) ?_
    simp only [Act.put, pu]
    refine pw_skip (by rfl) ?_
    simp only [Act.put, pu]
    refine pw_pick (by rfl) false (v := .bool false) rfl rfl rfl ?_
    simp only [Act.put, pu]
    refine pw_mv (by rfl) rfl rfl ?_
    simp only [Act.put, pu]
    refine pw_skip (by rfl) ?_
    simp only [Act.put, pu]
    refine pw_skip (by rfl) ?_
    simp only [Act.put, pu]
    refine pw_pick (by rfl) false (v := .bool false) rfl rfl rfl ?_
    simp only [Act.put, pu]
    refine pw_as (by rfl) rfl rfl ?_
    simp only [Act.put, pu]
    refine pw_nil ?_
    go_wp2
    go_ret
    first | exact ⟨by rw [hv]; rfl, sb⟩ | exact ⟨rfl, sb⟩
  (repeat ((fail_if_success with_reducible refine rg ?_); go_step))
  refine wp_region_pw ?_
  refine pw_value (by rfl) (.bool false) (x_eqI _ _ _ _ rfl .i64 kd 8 rfl rfl false (decide_eq_false (by omega))) ?_
  simp only [Act.put, pu]
  refine pw_as (by rfl) rfl rfl ?_
  simp only [Act.put, pu]
  refine pw_nil ?_
  (repeat ((fail_if_success with_reducible refine rg ?_); go_step))
  refine wp_region_pw ?_
  refine pw_value (by rfl) (.bool false) (x_eqI _ _ _ _ rfl .i64 kd 5 rfl rfl false (decide_eq_false (by omega))) ?_
  simp only [Act.put, pu]
  refine pw_as (by rfl) rfl rfl ?_
  simp only [Act.put, pu]
  refine pw_nil ?_
  (repeat ((fail_if_success with_reducible refine rg ?_); go_step))
  refine wp_region_pw ?_
  refine pw_value (by rfl) (.bool false) (x_eqI _ _ _ _ rfl .i64 kd 6 rfl rfl false (decide_eq_false (by omega))) ?_
  simp only [Act.put, pu]
  refine pw_as (by rfl) rfl rfl ?_
  simp only [Act.put, pu]
  refine pw_nil ?_
  by_cases h7 : kd = 7
  ·skip
   (repeat ((fail_if_success with_reducible refine rg ?_); go_step))
   refine wp_region_pw ?_
   refine pw_value (by rfl) (.bool true) (x_eqI _ _ _ _ rfl .i64 kd 7 rfl rfl true (decide_eq_true (by omega))) ?_
   simp only [Act.put, pu]
   refine pw_as (by rfl) rfl rfl ?_
   simp only [Act.put, pu]
   refine pw_nil ?_
   cases hst : stB sq cl with
   | true =>
    cases hnl : nlB dg with
    | true =>
     cases hbr : brB n m with
     | true =>
      have hv : W0 = true := by rw [← hW0, wm_kn hk hop]; simp [kndB, h7, hst, hnl, hbr]
      (repeat ((fail_if_success with_reducible refine rg ?_); go_step))
      refine wp_region_pw ?_
      refine pw_value (by rfl) (.pointer (some ⟨g1, 3, none⟩)) (exec_field 29 _ 3 rfl g1 0 rfl _ Try.underlying29 _ rfl 1 Try.sizeOf24) ?_
      simp only [Act.put, pu]
      refine pw_loadm (by rfl) 24 _ rfl _ (3) rfl r1.r (tsC sq cl) (ms_st _ _ _ _ _ _ _ _ _ _ _ _) _ Try.underlying24 rfl size_st ?_
      simp only [Act.put, pu]
      refine pw_callB (by rfl) 66 _ _ rfl Try.func66 (by kernel_rfl) #[.agg (tsC sq cl)] rfl _ ((rwst_any sq cl _).mono fun e w' ⟨he, hb⟩ => ⟨he.trans (by rw [hst]), hb⟩) ?_
      intro z20002 k
      simp only [Act.put, pu]
      replace r1 := k.row r1 (by simp <;> omega)
      replace sb := sb.trans (k.below w.heap.size sb.size (by simp <;> omega))
      clear k
      refine pw_mv (by rfl) rfl rfl ?_
      simp only [Act.put, pu]
      refine pw_value (by rfl) (.pointer (some ⟨g1, 5, none⟩)) (exec_field 29 _ 4 rfl g1 0 rfl _ Try.underlying29 _ rfl 0 Try.sizeOf9) ?_
      simp only [Act.put, pu]
      refine pw_loadk (by rfl) 9 _ rfl _ (5) rfl r1.r (.string ⟨dg.toArray⟩) rfl Try.isAgg9 ?_
      simp only [Act.put, pu]
      refine pw_value (by rfl) (.bool true) (y_eqS _ _ _ _ rfl dg [] rfl rfl true hnl) ?_
      simp only [Act.put, pu]
      refine pw_pick (by rfl) true (v := .bool true) rfl rfl rfl ?_
      simp only [Act.put, pu]
      refine pw_mv (by rfl) rfl rfl ?_
      simp only [Act.put, pu]
      refine pw_loadm (by rfl) 29 _ rfl _ (0) rfl r1.r (msC kd op key sq cl dg a1 n c1 a2 m c2) (part_all _) _ Try.underlying29 rfl size_ms ?_
      simp only [Act.put, pu]
      refine pw_callB (by rfl) 65 _ _ rfl Try.func65 (by kernel_rfl) #[.agg (msC kd op key sq cl dg a1 n c1 a2 m c2)] rfl _ ((rwbare_any kd op key sq cl dg a1 n c1 a2 m c2 _).mono fun e w' ⟨he, hb⟩ => ⟨he.trans (by rw [hbr]), hb⟩) ?_
      intro z20010 k
      simp only [Act.put, pu]
      replace r1 := k.row r1 (by simp <;> omega)
      replace sb := sb.trans (k.below w.heap.size sb.size (by simp <;> omega))
      clear k
      refine pw_pick (by rfl) true (v := .bool true) rfl rfl rfl ?_
      simp only [Act.put, pu]
      refine pw_as (by rfl) rfl rfl ?_
      simp only [Act.put, pu]
      refine pw_nil ?_
      go_wp2
      go_ret
      first | exact ⟨by rw [hv]; rfl, sb⟩ | exact ⟨rfl, sb⟩
     | false =>
      have hv : W0 = false := by rw [← hW0, wm_kn hk hop]; simp [kndB, h7, hst, hnl, hbr]
      (repeat ((fail_if_success with_reducible refine rg ?_); go_step))
      refine wp_region_pw ?_
      refine pw_value (by rfl) (.pointer (some ⟨g1, 3, none⟩)) (exec_field 29 _ 3 rfl g1 0 rfl _ Try.underlying29 _ rfl 1 Try.sizeOf24) ?_
      simp only [Act.put, pu]
      refine pw_loadm (by rfl) 24 _ rfl _ (3) rfl r1.r (tsC sq cl) (ms_st _ _ _ _ _ _ _ _ _ _ _ _) _ Try.underlying24 rfl size_st ?_
      simp only [Act.put, pu]
      refine pw_callB (by rfl) 66 _ _ rfl Try.func66 (by kernel_rfl) #[.agg (tsC sq cl)] rfl _ ((rwst_any sq cl _).mono fun e w' ⟨he, hb⟩ => ⟨he.trans (by rw [hst]), hb⟩) ?_
      intro z20002 k
      simp only [Act.put, pu]
      replace r1 := k.row r1 (by simp <;> omega)
      replace sb := sb.trans (k.below w.heap.size sb.size (by simp <;> omega))
      clear k
      refine pw_mv (by rfl) rfl rfl ?_
      simp only [Act.put, pu]
      refine pw_value (by rfl) (.pointer (some ⟨g1, 5, none⟩)) (exec_field 29 _ 4 rfl g1 0 rfl _ Try.underlying29 _ rfl 0 Try.sizeOf9) ?_
      simp only [Act.put, pu]
      refine pw_loadk (by rfl) 9 _ rfl _ (5) rfl r1.r (.string ⟨dg.toArray⟩) rfl Try.isAgg9 ?_
      simp only [Act.put, pu]
      refine pw_value (by rfl) (.bool true) (y_eqS _ _ _ _ rfl dg [] rfl rfl true hnl) ?_
      simp only [Act.put, pu]
      refine pw_pick (by rfl) true (v := .bool true) rfl rfl rfl ?_
      simp only [Act.put, pu]
      refine pw_mv (by rfl) rfl rfl ?_
      simp only [Act.put, pu]
      refine pw_loadm (by rfl) 29 _ rfl _ (0) rfl r1.r (msC kd op key sq cl dg a1 n c1 a2 m c2) (part_all _) _ Try.underlying29 rfl size_ms ?_
      simp only [Act.put, pu]
      refine pw_callB (by rfl) 65 _ _ rfl Try.func65 (by kernel_rfl) #[.agg (msC kd op key sq cl dg a1 n c1 a2 m c2)] rfl _ ((rwbare_any kd op key sq cl dg a1 n c1 a2 m c2 _).mono fun e w' ⟨he, hb⟩ => ⟨he.trans (by rw [hbr]), hb⟩) ?_
      intro z20010 k
      simp only [Act.put, pu]
      replace r1 := k.row r1 (by simp <;> omega)
      replace sb := sb.trans (k.below w.heap.size sb.size (by simp <;> omega))
      clear k
      refine pw_pick (by rfl) true (v := .bool false) rfl rfl rfl ?_
      simp only [Act.put, pu]
      refine pw_as (by rfl) rfl rfl ?_
      simp only [Act.put, pu]
      refine pw_nil ?_
      go_wp2
      go_ret
      first | exact ⟨by rw [hv]; rfl, sb⟩ | exact ⟨rfl, sb⟩
    | false =>
     have hv : W0 = false := by rw [← hW0, wm_kn hk hop]; simp [kndB, h7, hst, hnl]
     (repeat ((fail_if_success with_reducible refine rg ?_); go_step))
     refine wp_region_pw ?_
     refine pw_value (by rfl) (.pointer (some ⟨g1, 3, none⟩)) (exec_field 29 _ 3 rfl g1 0 rfl _ Try.underlying29 _ rfl 1 Try.sizeOf24) ?_
     simp only [Act.put, pu]
     refine pw_loadm (by rfl) 24 _ rfl _ (3) rfl r1.r (tsC sq cl) (ms_st _ _ _ _ _ _ _ _ _ _ _ _) _ Try.underlying24 rfl size_st ?_
     simp only [Act.put, pu]
     refine pw_callB (by rfl) 66 _ _ rfl Try.func66 (by kernel_rfl) #[.agg (tsC sq cl)] rfl _ ((rwst_any sq cl _).mono fun e w' ⟨he, hb⟩ => ⟨he.trans (by rw [hst]), hb⟩) ?_
     intro z20002 k
     simp only [Act.put, pu]
     replace r1 := k.row r1 (by simp <;> omega)
     replace sb := sb.trans (k.below w.heap.size sb.size (by simp <;> omega))
     clear k
     refine pw_mv (by rfl) rfl rfl ?_
     simp only [Act.put, pu]
     refine pw_value (by rfl) (.pointer (some ⟨g1, 5, none⟩)) (exec_field 29 _ 4 rfl g1 0 rfl _ Try.underlying29 _ rfl 0 Try.sizeOf9) ?_
     simp only [Act.put, pu]
     refine pw_loadk (by rfl) 9 _ rfl _ (5) rfl r1.r (.string ⟨dg.toArray⟩) rfl Try.isAgg9 ?_
     simp only [Act.put, pu]
     refine pw_value (by rfl) (.bool false) (y_eqS _ _ _ _ rfl dg [] rfl rfl false hnl) ?_
     simp only [Act.put, pu]
     refine pw_pick (by rfl) true (v := .bool false) rfl rfl rfl ?_
     simp only [Act.put, pu]
     refine pw_mv (by rfl) rfl rfl ?_
     simp only [Act.put, pu]
     refine pw_skip (by rfl) ?_
     simp only [Act.put, pu]
     refine pw_skip (by rfl) ?_
     simp only [Act.put, pu]
     refine pw_pick (by rfl) false (v := .bool false) rfl rfl rfl ?_
     simp only [Act.put, pu]
     refine pw_as (by rfl) rfl rfl ?_
     simp only [Act.put, pu]
     refine pw_nil ?_
     go_wp2
     go_ret
     first | exact ⟨by rw [hv]; rfl, sb⟩ | exact ⟨rfl, sb⟩
   | false =>
    have hv : W0 = false := by rw [← hW0, wm_kn hk hop]; simp [kndB, h7, hst]
    (repeat ((fail_if_success with_reducible refine rg ?_); go_step))
    refine wp_region_pw ?_
    refine pw_value (by rfl) (.pointer (some ⟨g1, 3, none⟩)) (exec_field 29 _ 3 rfl g1 0 rfl _ Try.underlying29 _ rfl 1 Try.sizeOf24) ?_
    simp only [Act.put, pu]
    refine pw_loadm (by rfl) 24 _ rfl _ (3) rfl r1.r (tsC sq cl) (ms_st _ _ _ _ _ _ _ _ _ _ _ _) _ Try.underlying24 rfl size_st ?_
    simp only [Act.put, pu]
    refine pw_callB (by rfl) 66 _ _ rfl Try.func66 (by kernel_rfl) #[.agg (tsC sq cl)] rfl _ ((rwst_any sq cl _).mono fun e w' ⟨he, hb⟩ => ⟨he.trans (by rw [hst]), hb⟩) ?_
    intro z20002 k
    simp only [Act.put, pu]
    replace r1 := k.row r1 (by simp <;> omega)
    replace sb := sb.trans (k.below w.heap.size sb.size (by simp <;> omega))
    clear k
    refine pw_mv (by rfl) rfl rfl ?_
    simp only [Act.put, pu]
    refine pw_skip (by rfl) ?_
    simp only [Act.put, pu]
    refine pw_skip (by rfl) ?_
    simp only [Act.put, pu]
    refine pw_skip (by rfl) ?_
    simp only [Act.put, pu]
    refine pw_pick (by rfl) false (v := .bool false) rfl rfl rfl ?_
    simp only [Act.put, pu]
    refine pw_mv (by rfl) rfl rfl ?_
    simp only [Act.put, pu]
    refine pw_skip (by rfl) ?_
    simp only [Act.put, pu]
    refine pw_skip (by rfl) ?_
    simp only [Act.put, pu]
    refine pw_pick (by rfl) false (v := .bool false) rfl rfl rfl ?_
    simp only [Act.put, pu]
    refine pw_as (by rfl) rfl rfl ?_
    simp only [Act.put, pu]
    refine pw_nil ?_
    go_wp2
    go_ret
    first | exact ⟨by rw [hv]; rfl, sb⟩ | exact ⟨rfl, sb⟩
  (repeat ((fail_if_success with_reducible refine rg ?_); go_step))
  refine wp_region_pw ?_
  refine pw_value (by rfl) (.bool false) (x_eqI _ _ _ _ rfl .i64 kd 7 rfl rfl false (decide_eq_false (by omega))) ?_
  simp only [Act.put, pu]
  refine pw_as (by rfl) rfl rfl ?_
  simp only [Act.put, pu]
  refine pw_nil ?_
  have hv : W0 = false := by rw [← hW0, wm_kn hk hop]; simp [kndB, h1, h2, h3, h4, h8, h5, h6, h7]
  (repeat ((fail_if_success with_reducible refine rg ?_); go_step))
  refine wp_region_pw ?_
  refine pw_value (by rfl) (.bool false) (fun _ => rfl) ?_
  simp only [Act.put, pu]
  refine pw_nil ?_
  go_wp2
  go_ret
  first | exact ⟨by rw [hv]; rfl, sb⟩ | exact ⟨rfl, sb⟩
theorem rmay18_any (kd op : Int) (key : List UInt8) (sq cl : Int) (dg : List UInt8) (a1 : Option Addr) (n c1 : Nat) (a2 : Option Addr) (m c2 : Nat) (N : Nat → Nat) (M : Nat → Nat → Nat) (w : World) (hkl : key.length < 9223372036854775808) (hn : n < 4611686018427387904) (hN : ∀ i, i < n → N i < 4611686018427387904) (hM : MtA w a1 n N M) :
  Calls Try.prog 41 #[.agg (msC kd op key sq cl dg a1 n c1 a2 m c2)] w fun e w' => e = .returned (.bool (wmB kd op key sq cl dg (brB n m) (dlB n m (xmB n N M)))) ∧ Below w.heap.size w w' :=
 rmayX_any kd op key sq cl dg a1 n c1 a2 m c2 _ w hkl (fun w' hb => rwdealt_any kd op key sq cl dg a1 n c1 a2 m c2 N M _ w' rfl hn hN (hM.below hb))
end Go.Proofs.Ytojobffihlmfgaa
/- The document's Put and Few of layer 18. -/
namespace Go.Proofs.Ytojobffihlmfgaa
open Go.RowKit
set_option linter.unusedVariables false
set_option linter.unusedSimpArgs false
theorem rnby_any (A : Nat) (w : World) (hA : A < 2 ^ 256) : Calls Try.prog 44 #[.agg (natC A)] w fun e w' => e = .returned (.string ⟨(byL A).toArray⟩) ∧ Below w.heap.size w w' := by
 rw [← byL_is]
 exact rbytes_any A w hA
set_option maxRecDepth 100000 in
set_option maxHeartbeats 2000000 in
theorem rputN_any (kd op : Nat) (key : List UInt8) (sq cl : Nat) (dg : List UInt8) (a1 : Option Addr) (n c1 : Nat) (a2 : Option Addr) (m c2 : Nat) (X : List UInt8) (Y : Nat → Nat) (W : Bool) (w : World) (hkd : kd < 9223372036854775808) (hop : op < 9223372036854775808) (hsq : sq < 9223372036854775808) (hcl : cl < 9223372036854775808)
  (hkey : key.length ≤ 100) (hdg : dg.length ≤ 100) (hX : X.length < 10000) (hm : m ≤ 1000) (hY : YsA w a2 m Y)
  (hW : ∀ w', Below w.heap.size w w' → Calls Try.prog 41 #[.agg (msC (kd : Nat) (op : Nat) key (sq : Nat) (cl : Nat) dg a1 n c1 a2 m c2)] w' fun e w2 => e = .returned (.bool true) ∧ Below w'.heap.size w' w2)
  (hXc : ∀ w', Below w.heap.size w w' → Calls Try.prog 37 #[.slice a1 n c1] w' fun e w2 => e = .returned (.string ⟨X.toArray⟩) ∧ Below w'.heap.size w' w2) :
  Calls Try.prog 20 #[.agg (msC (kd : Nat) (op : Nat) key (sq : Nat) (cl : Nat) dg a1 n c1 a2 m c2)] w fun e w' => e = .returned (.tuple #[.string ⟨(ptT true (msL kd op key sq cl dg X m Y)).toArray⟩, .int .i64 (chI (ptB true (msL kd op key sq cl dg X m Y)) 1)]) ∧ Below w.heap.size w w' := by
 obtain ⟨gb, ob, bcs, tb, hna⟩ := hY
 have HB : Hid (NatsAt w a2 m Y gb ob bcs tb) := hna
 have HL : Hid (∀ k, k ≤ m → (ysL Y k).length ≤ 33 * k) := ysL_le (fun j hj => hna.lt j hj)
 have HYl : Hid (∀ k, k < m → Y k < 2 ^ 256) := fun j hj => hna.lt j hj
 have hH : (hdL kd op key sq cl dg X).length ≤ 11000 := by
  unfold hdL
  simp only [List.length_append, nuL_length, List.length_nil]
  omega
 have hHe : Hid (hdL kd op key sq cl dg X = nuL kd 1 ++ nuL op 4 ++ (nuL key.length 1 ++ key) ++ nuL sq 6 ++ nuL cl 1 ++ (nuL dg.length 1 ++ dg) ++ (nuL X.length 2 ++ X)) := rfl
 have hmsL : Hid (msL kd op key sq cl dg X m Y = hdL kd op key sq cl dg X ++ ysL Y m) := rfl
 obtain ⟨LM, hLM⟩ : ∃ L, msL kd op key sq cl dg X m Y = L := ⟨_, rfl⟩
 rw [hLM] at hmsL ⊢
 obtain ⟨H, hH0⟩ : ∃ H, hdL kd op key sq cl dg X = H := ⟨_, rfl⟩
 rw [hH0] at hH hHe hmsL
 clear hH0 hna hLM
 go_enter Try.func20, Try.ntmps20
 (repeat ((fail_if_success with_reducible refine rg ?_); go_step))
 refine wp_region_pw ?_
 refine pw_boxr (by rfl) 29 _ rfl (msC (kd : Nat) (op : Nat) key (sq : Nat) (cl : Nat) dg a1 n c1 a2 m c2) rfl ?_
 intro g1 z0 n0 r1 k
 simp only [Act.put, pu]
 have b1 : w.heap.size ≤ g1 := n0
 clear n0
 have sb := k.below w.heap.size (Nat.le_refl _) (by simp)
 clear k
 refine pw_move (by rfl) (.inr rfl) rfl ?_
 simp only [Act.put, pu]
 refine pw_value (by rfl) (.int .i64 0) (fun _ => rfl) ?_
 simp only [Act.put, pu]
 refine pw_nil ?_
 (repeat ((fail_if_success with_reducible refine rg ?_); go_step))
 refine wp_region_pw ?_
 refine pw_loadm (by rfl) 29 _ rfl _ (0) rfl r1.r (msC (kd : Nat) (op : Nat) key (sq : Nat) (cl : Nat) dg a1 n c1 a2 m c2) (part_all _) _ Try.underlying29 rfl size_ms ?_
 simp only [Act.put, pu]
 refine pw_callB (by rfl) 41 _ _ rfl Try.func41 (by kernel_rfl) #[.agg (msC (kd : Nat) (op : Nat) key (sq : Nat) (cl : Nat) dg a1 n c1 a2 m c2)] rfl _ (hW _ sb) ?_
 intro z1001 k
 simp only [Act.put, pu]
 replace r1 := k.row r1 (by simp <;> omega)
 replace sb := sb.trans (k.below w.heap.size sb.size (by simp <;> omega))
 clear k
 refine pw_value (by rfl) (.bool false) (exec_not _ _ rfl true rfl) ?_
 simp only [Act.put, pu]
 refine pw_nil ?_
 have hXc2 : ∀ w', Below _ _ w' → _ := fun w' hb => hXc w' (below_on sb (Nat.le_refl _) hb)
 (repeat ((fail_if_success with_reducible refine rg ?_); go_step))
 refine wp_region_qw (by kernel_rfl) (by kernel_rfl) ?_
 refine qw_value (by rfl) (.pointer (some ⟨g1, 0, none⟩)) (exec_field 29 _ 0 rfl g1 0 rfl _ Try.underlying29 _ rfl 0 Try.sizeOf3) ?_
 simp only [Act.put, pu]
 refine qw_loadc (by rfl) 3 _ rfl _ (0) rfl r1 (.int .i64 (kd : Nat)) rfl Try.isAgg3 ?_
 simp only [Act.put, pu]
 refine qw_call (by rfl) 42 _ _ rfl Try.func42 (by kernel_rfl) #[.int .i64 (kd : Nat), .int .i64 1] rfl _ (fun w' => rnum_any kd 1 w' hkd (by decide)) ?_
 simp only [Act.put, pu]
 refine qw_value (by rfl) (.pointer (some ⟨g1, 1, none⟩)) (exec_field 29 _ 1 rfl g1 0 rfl _ Try.underlying29 _ rfl 0 Try.sizeOf3) ?_
 simp only [Act.put, pu]
 refine qw_loadc (by rfl) 3 _ rfl _ (1) rfl r1 (.int .i64 (op : Nat)) rfl Try.isAgg3 ?_
 simp only [Act.put, pu]
 refine qw_call (by rfl) 42 _ _ rfl Try.func42 (by kernel_rfl) #[.int .i64 (op : Nat), .int .i64 4] rfl _ (fun w' => rnum_any op 4 w' hop (by decide)) ?_
 simp only [Act.put, pu]
 refine qw_value (by rfl) (.string ⟨(nuL kd 1 ++ nuL op 4).toArray⟩) (yx_cat _ _ _ _ rfl (nuL kd 1) (nuL op 4) rfl rfl (by simp only [List.length_append, nuL_length]; omega)) ?_
 simp only [Act.put, pu]
 refine qw_value (by rfl) (.pointer (some ⟨g1, 2, none⟩)) (exec_field 29 _ 2 rfl g1 0 rfl _ Try.underlying29 _ rfl 0 Try.sizeOf9) ?_
 simp only [Act.put, pu]
 refine qw_loadc (by rfl) 9 _ rfl _ (2) rfl r1 (.string ⟨key.toArray⟩) rfl Try.isAgg9 ?_
 simp only [Act.put, pu]
 refine qw_call (by rfl) 43 _ _ rfl Try.func43 (by kernel_rfl) #[.string ⟨key.toArray⟩, .int .i64 1] rfl _ (fun w' => rpart_any key 1 w' (by omega) (by decide)) ?_
 simp only [Act.put, pu]
 refine qw_value (by rfl) (.string ⟨(nuL kd 1 ++ nuL op 4 ++ (nuL key.length 1 ++ key)).toArray⟩) (yx_cat _ _ _ _ rfl (nuL kd 1 ++ nuL op 4) (nuL key.length 1 ++ key) rfl rfl (by simp only [List.length_append, nuL_length]; omega)) ?_
 simp only [Act.put, pu]
 refine qw_value (by rfl) (.pointer (some ⟨g1, 3, none⟩)) (exec_field 29 _ 3 rfl g1 0 rfl _ Try.underlying29 _ rfl 1 Try.sizeOf24) ?_
 simp only [Act.put, pu]
 refine qw_value (by rfl) (.pointer (some ⟨g1, 3, none⟩)) (exec_field 24 _ 0 rfl g1 3 rfl _ Try.underlying24 _ rfl 0 Try.sizeOf3) ?_
 simp only [Act.put, pu]
 refine qw_loadc (by rfl) 3 _ rfl _ (3) rfl r1 (.int .i64 (sq : Nat)) rfl Try.isAgg3 ?_
 simp only [Act.put, pu]
 refine qw_call (by rfl) 42 _ _ rfl Try.func42 (by kernel_rfl) #[.int .i64 (sq : Nat), .int .i64 6] rfl _ (fun w' => rnum_any sq 6 w' hsq (by decide)) ?_
 simp only [Act.put, pu]
 refine qw_value (by rfl) (.string ⟨(nuL kd 1 ++ nuL op 4 ++ (nuL key.length 1 ++ key) ++ nuL sq 6).toArray⟩) (yx_cat _ _ _ _ rfl (nuL kd 1 ++ nuL op 4 ++ (nuL key.length 1 ++ key)) (nuL sq 6) rfl rfl (by simp only [List.length_append, nuL_length]; omega)) ?_
 simp only [Act.put, pu]
 refine qw_value (by rfl) (.pointer (some ⟨g1, 3, none⟩)) (exec_field 29 _ 3 rfl g1 0 rfl _ Try.underlying29 _ rfl 1 Try.sizeOf24) ?_
 simp only [Act.put, pu]
 refine qw_value (by rfl) (.pointer (some ⟨g1, 4, none⟩)) (exec_field 24 _ 1 rfl g1 3 rfl _ Try.underlying24 _ rfl 0 Try.sizeOf3) ?_
 simp only [Act.put, pu]
 refine qw_loadc (by rfl) 3 _ rfl _ (4) rfl r1 (.int .i64 (cl : Nat)) rfl Try.isAgg3 ?_
 simp only [Act.put, pu]
 refine qw_call (by rfl) 42 _ _ rfl Try.func42 (by kernel_rfl) #[.int .i64 (cl : Nat), .int .i64 1] rfl _ (fun w' => rnum_any cl 1 w' hcl (by decide)) ?_
 simp only [Act.put, pu]
 refine qw_value (by rfl) (.string ⟨(nuL kd 1 ++ nuL op 4 ++ (nuL key.length 1 ++ key) ++ nuL sq 6 ++ nuL cl 1).toArray⟩) (yx_cat _ _ _ _ rfl (nuL kd 1 ++ nuL op 4 ++ (nuL key.length 1 ++ key) ++ nuL sq 6) (nuL cl 1) rfl rfl (by simp only [List.length_append, nuL_length]; omega)) ?_
 simp only [Act.put, pu]
 refine qw_value (by rfl) (.pointer (some ⟨g1, 5, none⟩)) (exec_field 29 _ 4 rfl g1 0 rfl _ Try.underlying29 _ rfl 0 Try.sizeOf9) ?_
 simp only [Act.put, pu]
 refine qw_loadc (by rfl) 9 _ rfl _ (5) rfl r1 (.string ⟨dg.toArray⟩) rfl Try.isAgg9 ?_
 simp only [Act.put, pu]
 refine qw_call (by rfl) 43 _ _ rfl Try.func43 (by kernel_rfl) #[.string ⟨dg.toArray⟩, .int .i64 1] rfl _ (fun w' => rpart_any dg 1 w' (by omega) (by decide)) ?_
 simp only [Act.put, pu]
 refine qw_value (by rfl) (.string ⟨(nuL kd 1 ++ nuL op 4 ++ (nuL key.length 1 ++ key) ++ nuL sq 6 ++ nuL cl 1 ++ (nuL dg.length 1 ++ dg)).toArray⟩) (yx_cat _ _ _ _ rfl (nuL kd 1 ++ nuL op 4 ++ (nuL key.length 1 ++ key) ++ nuL sq 6 ++ nuL cl 1) (nuL dg.length 1 ++ dg) rfl rfl (by simp only [List.length_append, nuL_length]; omega)) ?_
 simp only [Act.put, pu]
 refine qw_value (by rfl) (.pointer (some ⟨g1, 6, none⟩)) (exec_field 29 _ 5 rfl g1 0 rfl _ Try.underlying29 _ rfl 0 Try.sizeOf26) ?_
 simp only [Act.put, pu]
 refine qw_loadc (by rfl) 26 _ rfl _ (6) rfl r1 (.slice a1 n c1) rfl Try.isAgg26 ?_
 simp only [Act.put, pu]
 refine qw_callK (by rfl) 37 _ _ rfl Try.func37 (by kernel_rfl) #[.slice a1 n c1] rfl _ (fun w' hb => hXc2 w' hb) ?_
 simp only [Act.put, pu]
 refine qw_call (by rfl) 43 _ _ rfl Try.func43 (by kernel_rfl) #[.string ⟨X.toArray⟩, .int .i64 2] rfl _ (fun w' => rpart_any X 2 w' (by omega) (by decide)) ?_
 simp only [Act.put, pu]
 refine qw_value (by rfl) (.string ⟨(nuL kd 1 ++ nuL op 4 ++ (nuL key.length 1 ++ key) ++ nuL sq 6 ++ nuL cl 1 ++ (nuL dg.length 1 ++ dg) ++ (nuL X.length 2 ++ X)).toArray⟩) (yx_cat _ _ _ _ rfl (nuL kd 1 ++ nuL op 4 ++ (nuL key.length 1 ++ key) ++ nuL sq 6 ++ nuL cl 1 ++ (nuL dg.length 1 ++ dg)) (nuL X.length 2 ++ X) rfl rfl (by simp only [List.length_append, nuL_length]; omega)) ?_
 simp only [Act.put, pu]
 refine qw_asg (by rfl) rfl rfl ?_
 simp only [Act.put, pu]
 refine qw_nil ?_
 intro w4 hqb
 replace r1 := r1.belowAll hqb
 replace sb := below_on sb (Nat.le_refl _) hqb
 clear hqb
 clear hXc hXc2 hW
 (repeat ((fail_if_success with_reducible refine rg ?_); go_step))
 refine wp_region_pw ?_
 refine pw_value (by rfl) (.int .i64 0) (fun _ => rfl) ?_
 simp only [Act.put, pu]
 refine pw_nil ?_
 rw [← hHe.out]
 clear hHe
 have H0 : H = H ++ ysL Y 0 := (List.append_nil H).symm
 have H1 := sb
 have H2 := r1
 clear sb r1
 go_wp2_with fail
 go_loopg [4, 5] m (fun x s4 s5 wr => ∃ i : Nat, i + x = m ∧ s5 = .int .i64 i ∧ s4 = .string ⟨(H ++ ysL Y i).toArray⟩ ∧ Row wr g1 (msC (kd : Nat) (op : Nat) key (sq : Nat) (cl : Nat) dg a1 n c1 a2 m c2) 29 ∧ Below w.heap.size w wr)
 case atStart => exact ⟨0, by omega, rfl, by rw [← H0], H2, H1⟩
 case round =>
  clear H0 H1 H2
  obtain ⟨i, hi, rfl, rfl, r1, sb⟩ := hrel
  cases gk with
  | zero =>
   obtain rfl : i = m := by omega
   clear hi HL HB HYl
   rw [← hmsL.out]
   clear hmsL
   (repeat ((fail_if_success with_reducible refine rg ?_); go_step))
   refine wp_region_pw ?_
   refine pw_mv (by rfl) rfl rfl ?_
   simp only [Act.put, pu]
   refine pw_value (by rfl) (.pointer (some ⟨g1, 7, none⟩)) (exec_field 29 _ 6 rfl g1 0 rfl _ Try.underlying29 _ rfl 0 Try.sizeOf27) ?_
   simp only [Act.put, pu]
   refine pw_loadk (by rfl) 27 _ rfl _ (7) rfl r1.r (.slice a2 i c2) rfl Try.isAgg27 ?_
   simp only [Act.put, pu]
   refine pw_value (by rfl) (.int .i64 (i : Nat)) (exec_len_s 27 _ rfl a2 i c2 rfl sl_yw) ?_
   simp only [Act.put, pu]
   refine pw_value (by rfl) (.bool false) (exec_lt_b _ _ _ _ rfl i i rfl rfl false (decide_eq_false (Int.lt_irrefl _))) ?_
   simp only [Act.put, pu]
   refine pw_nil ?_
   by_cases h : LM.length ≤ 8192
   ·have e1 : Hid (ptT true LM = LM ∧ chI (ptB true LM) 1 = 0) := by
     show _ ∧ _
     unfold ptT ptB
     rw [decide_eq_true h]
     exact ⟨rfl, rfl⟩
    (repeat ((fail_if_success with_reducible refine rg ?_); go_step))
    refine wp_region_pw ?_
    refine pw_mv (by rfl) rfl rfl ?_
    simp only [Act.put, pu]
    refine pw_value (by rfl) (.int .i64 (LM.length : Nat)) (y_lenS _ _ rfl LM rfl Try.underlying9) ?_
    simp only [Act.put, pu]
    refine pw_value (by rfl) (.bool false) (x_gt _ _ _ _ rfl (LM.length : Nat) 8192 rfl rfl false (decide_eq_false (by omega))) ?_
    simp only [Act.put, pu]
    refine pw_nil ?_
    (repeat ((fail_if_success with_reducible refine rg ?_); go_step))
    refine wp_region_pw ?_
    refine pw_mv (by rfl) rfl rfl ?_
    simp only [Act.put, pu]
    refine pw_as (by rfl) rfl rfl ?_
    simp only [Act.put, pu]
    refine pw_value (by rfl) (.int .i64 0) (fun _ => rfl) ?_
    simp only [Act.put, pu]
    refine pw_nil ?_
    go_wp2
    go_ret2
    exact ⟨by rw [e1.out.1, e1.out.2]; rfl, sb⟩
   ·have e1 : Hid (ptT true LM = [] ∧ chI (ptB true LM) 1 = 1) := by
     show _ ∧ _
     unfold ptT ptB
     rw [decide_eq_false h]
     exact ⟨rfl, rfl⟩
    (repeat ((fail_if_success with_reducible refine rg ?_); go_step))
    refine wp_region_pw ?_
    refine pw_mv (by rfl) rfl rfl ?_
    simp only [Act.put, pu]
    refine pw_value (by rfl) (.int .i64 (LM.length : Nat)) (y_lenS _ _ rfl LM rfl Try.underlying9) ?_
    simp only [Act.put, pu]
    refine pw_value (by rfl) (.bool true) (x_gt _ _ _ _ rfl (LM.length : Nat) 8192 rfl rfl true (decide_eq_true (by omega))) ?_
    simp only [Act.put, pu]
    refine pw_nil ?_
    (repeat ((fail_if_success with_reducible refine rg ?_); go_step))
    refine wp_region_pw ?_
    refine pw_move (by rfl) (.inr rfl) rfl ?_
    simp only [Act.put, pu]
    refine pw_value (by rfl) (.int .i64 1) (fun _ => rfl) ?_
    simp only [Act.put, pu]
    refine pw_nil ?_
    go_wp2
    go_ret2
    exact ⟨by rw [e1.out.1, e1.out.2]; rfl, sb⟩
  | succ x =>
   obtain hx | ⟨ha, rB, hbt⟩ := (HB.out.below sb).at'
   ·exact absurd hx (by omega)
   have hbi := hbt i (by omega)
   have hYi := HYl.out i (by omega)
   have hLi := HL.out i (by omega)
   have hyl := byL_le hYi
   have e1 : H ++ ysL Y i ++ (nuL (byL (Y i)).length 1 ++ byL (Y i)) = H ++ ysL Y (i + 1) := by rw [List.append_assoc]; rfl
   clear hbt
   (repeat ((fail_if_success with_reducible refine rg ?_); go_step))
   refine wp_region_pw ?_
   refine pw_mv (by rfl) rfl rfl ?_
   simp only [Act.put, pu]
   refine pw_value (by rfl) (.pointer (some ⟨g1, 7, none⟩)) (exec_field 29 _ 6 rfl g1 0 rfl _ Try.underlying29 _ rfl 0 Try.sizeOf27) ?_
   simp only [Act.put, pu]
   refine pw_loadk (by rfl) 27 _ rfl _ (7) rfl r1.r (.slice a2 m c2) rfl Try.isAgg27 ?_
   simp only [Act.put, pu]
   refine pw_value (by rfl) (.int .i64 (m : Nat)) (exec_len_s 27 _ rfl a2 m c2 rfl sl_yw) ?_
   simp only [Act.put, pu]
   refine pw_value (by rfl) (.bool true) (exec_lt_b _ _ _ _ rfl i m rfl rfl true (decide_eq_true (by omega))) ?_
   simp only [Act.put, pu]
   refine pw_nil ?_
   (repeat ((fail_if_success with_reducible refine rg ?_); go_step))
   refine wp_region_pw ?_
   refine pw_mv (by rfl) rfl rfl ?_
   simp only [Act.put, pu]
   refine pw_value (by rfl) (.pointer (some ⟨g1, 7, none⟩)) (exec_field 29 _ 6 rfl g1 0 rfl _ Try.underlying29 _ rfl 0 Try.sizeOf27) ?_
   simp only [Act.put, pu]
   refine pw_loadk (by rfl) 27 _ rfl _ (7) rfl r1.r (.slice a2 m c2) rfl Try.isAgg27 ?_
   simp only [Act.put, pu]
   refine pw_mv (by rfl) rfl rfl ?_
   simp only [Act.put, pu]
   refine pw_value (by rfl) (.pointer (some ⟨gb, ob + i * 4, none⟩)) (exec_index_s 27 _ _ rfl gb ob m c2 (congrArg (fun z => Value.slice z m c2) ha) i rfl (by omega) _ Try.underlying27 4 Try.sizeOf51) ?_
   simp only [Act.put, pu]
   refine pw_loadm (by rfl) 51 _ rfl _ (ob + i * 4) rfl rB (natC (Y i)) hbi _ Try.underlying51 rfl size_nat ?_
   simp only [Act.put, pu]
   refine pw_callB (by rfl) 44 _ _ rfl Try.func44 (by kernel_rfl) #[.agg (natC (Y i))] rfl _ (rnby_any (Y i) _ hYi) ?_
   intro z7006 k
   simp only [Act.put, pu]
   replace r1 := k.row r1 (by simp <;> omega)
   replace sb := sb.trans (k.below w.heap.size sb.size (by simp <;> omega))
   clear k
   refine pw_callB (by rfl) 43 _ _ rfl Try.func43 (by kernel_rfl) #[.string ⟨(byL (Y i)).toArray⟩, .int .i64 1] rfl _ (rpart_any (byL (Y i)) 1 _ (by omega) (by decide)) ?_
   intro z7007 k
   simp only [Act.put, pu]
   replace r1 := k.row r1 (by simp <;> omega)
   replace sb := sb.trans (k.below w.heap.size sb.size (by simp <;> omega))
   clear k
   refine pw_value (by rfl) (.string ⟨(H ++ ysL Y (i + 1)).toArray⟩) (fun w' => (yx_cat _ _ _ _ rfl (H ++ ysL Y i) (nuL (byL (Y i)).length 1 ++ byL (Y i)) rfl rfl (by simp only [List.length_append, nuL_length]; omega) w').trans (by rw [e1])) ?_
   simp only [Act.put, pu]
   refine pw_as (by rfl) rfl rfl ?_
   simp only [Act.put, pu]
   refine pw_nil ?_
   clear e1 hyl hLi hYi hbi rB ha
   (repeat ((fail_if_success with_reducible refine rg ?_); go_step))
   refine wp_region_pw ?_
   refine pw_mv (by rfl) rfl rfl ?_
   simp only [Act.put, pu]
   refine pw_value (by rfl) (.int .i64 (i + 1 : Nat)) (xi_add _ _ _ _ rfl i 1 rfl rfl (by omega)) ?_
   simp only [Act.put, pu]
   refine pw_as (by rfl) rfl rfl ?_
   simp only [Act.put, pu]
   refine pw_nil ?_
   go_wp2
   go_roundg x
   case rel => exact ⟨i + 1, by omega, rfl, rfl, r1, sb⟩
   case measure => omega
set_option maxRecDepth 100000 in
set_option maxHeartbeats 2000000 in
theorem rputF_any (kd op : Int) (key : List UInt8) (sq cl : Int) (dg : List UInt8) (a1 : Option Addr) (n c1 : Nat) (a2 : Option Addr) (m c2 : Nat) (L : List UInt8) (w : World) (hW : ∀ w', Below w.heap.size w w' → Calls Try.prog 41 #[.agg (msC kd op key sq cl dg a1 n c1 a2 m c2)] w' fun e w2 => e = .returned (.bool false) ∧ Below w'.heap.size w' w2) :
  Calls Try.prog 20 #[.agg (msC kd op key sq cl dg a1 n c1 a2 m c2)] w fun e w' => e = .returned (.tuple #[.string ⟨(ptT false L).toArray⟩, .int .i64 (chI (ptB false L) 1)]) ∧ Below w.heap.size w w' := by
 rw [show ptT false L = [] from rfl, show ptB false L = false from rfl]
 go_enter Try.func20, Try.ntmps20
 (repeat ((fail_if_success with_reducible refine rg ?_); go_step))
 refine wp_region_pw ?_
 refine pw_boxr (by rfl) 29 _ rfl (msC kd op key sq cl dg a1 n c1 a2 m c2) rfl ?_
 intro g1 z0 n0 r1 k
 simp only [Act.put, pu]
 have b1 : w.heap.size ≤ g1 := n0
 clear n0
 have sb := k.below w.heap.size (Nat.le_refl _) (by simp)
 clear k
 refine pw_move (by rfl) (.inr rfl) rfl ?_
 simp only [Act.put, pu]
 refine pw_value (by rfl) (.int .i64 0) (fun _ => rfl) ?_
 simp only [Act.put, pu]
 refine pw_nil ?_
 (repeat ((fail_if_success with_reducible refine rg ?_); go_step))
 refine wp_region_pw ?_
 refine pw_loadm (by rfl) 29 _ rfl _ (0) rfl r1.r (msC kd op key sq cl dg a1 n c1 a2 m c2) (part_all _) _ Try.underlying29 rfl size_ms ?_
 simp only [Act.put, pu]
 refine pw_callB (by rfl) 41 _ _ rfl Try.func41 (by kernel_rfl) #[.agg (msC kd op key sq cl dg a1 n c1 a2 m c2)] rfl _ (hW _ sb) ?_
 intro z1001 k
 simp only [Act.put, pu]
 replace r1 := k.row r1 (by simp <;> omega)
 replace sb := sb.trans (k.below w.heap.size sb.size (by simp <;> omega))
 clear k
 refine pw_value (by rfl) (.bool true) (exec_not _ _ rfl false rfl) ?_
 simp only [Act.put, pu]
 refine pw_nil ?_
 (repeat ((fail_if_success with_reducible refine rg ?_); go_step))
 refine wp_region_pw ?_
 refine pw_move (by rfl) (.inr rfl) rfl ?_
 simp only [Act.put, pu]
 refine pw_value (by rfl) (.int .i64 1) (fun _ => rfl) ?_
 simp only [Act.put, pu]
 refine pw_nil ?_
 go_wp2
 go_ret2
 exact ⟨rfl, sb⟩
theorem rPut18_any (kd op : Int) (key : List UInt8) (sq cl : Int) (dg : List UInt8) (a1 : Option Addr) (n c1 : Nat) (a2 : Option Addr) (m c2 : Nat) (N : Nat → Nat) (M : Nat → Nat → Nat) (Y : Nat → Nat) (w : World) (hkl : key.length < 9223372036854775808) (hn : n < 4611686018427387904) (hN : ∀ i, i < n → N i < 4611686018427387904) (hM : MtA w a1 n N M) (hY : YsA w a2 m Y) :
  Calls Try.prog 20 #[.agg (msC kd op key sq cl dg a1 n c1 a2 m c2)] w fun e w' => e = .returned (.tuple #[.string ⟨(ptT (wmB kd op key sq cl dg (brB n m) (dlB n m (xmB n N M))) (msL kd.toNat op.toNat key sq.toNat cl.toNat dg (xmB n N M) m Y)).toArray⟩, .int .i64 (chI (ptB (wmB kd op key sq cl dg (brB n m) (dlB n m (xmB n N M))) (msL kd.toNat op.toNat key sq.toNat cl.toNat dg (xmB n N M) m Y)) 1)]) ∧ Below w.heap.size w w' := by
 have hC := fun w' (hb : Below w.heap.size w w') => rmay18_any kd op key sq cl dg a1 n c1 a2 m c2 N M w' hkl hn hN (hM.below hb)
 cases hW : wmB kd op key sq cl dg (brB n m) (dlB n m (xmB n N M))
 ·rw [hW] at hC
  exact rputF_any kd op key sq cl dg a1 n c1 a2 m c2 _ w hC
 ·rw [hW] at hC
  obtain ⟨f1, f2, f3, f4, f5, f6, f7⟩ := wm_facts hW
  have hm : m ≤ 1000 := by
   rcases f7 with ⟨_, h⟩ | ⟨h, hx⟩
   ·omega
   ·have := xwB_n hx; omega
  have e1 := Int.toNat_of_nonneg (show 0 ≤ kd by omega)
  have e2 := Int.toNat_of_nonneg (show 0 ≤ op by omega)
  have e3 := Int.toNat_of_nonneg (show 0 ≤ sq by omega)
  have e4 := Int.toNat_of_nonneg (show 0 ≤ cl by omega)
  have hc := rputN_any kd.toNat op.toNat key sq.toNat cl.toNat dg a1 n c1 a2 m c2 (xmB n N M) Y true w (by omega) (by omega) (by omega) (by omega) (by omega) (by omega) (xwB_len hM.lt) hm hY (fun w' hb => by rw [e1, e2, e3, e4]; exact hC w' hb) (fun w' hb => rmby_any a1 n c1 N M w' hn hN (hM.below hb))
  rw [e1, e2, e3, e4] at hc
  exact hc
/-- Has a message few bytes? -/
noncomputable def fwB (key dg : List UInt8) (n : Nat) (N : Nat → Nat) (m : Nat) : Bool := @decide (key.length ≤ 40 ∧ dg.length ≤ 60 ∧ (n ≤ 26 ∧ ∀ i, i < n → N i ≤ 8) ∧ m ≤ 27) (Classical.propDecidable _)
end Go.Proofs.Ytojobffihlmfgaa
