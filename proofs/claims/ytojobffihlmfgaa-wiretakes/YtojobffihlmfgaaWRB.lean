/- wire.check: may a message be? -/
import Derived.Test.YtojobffihlmfgaaWRA
namespace Go.Proofs.Ytojobffihlmfgaa
open Go.RowKit
set_option linter.unusedVariables false
set_option linter.unusedSimpArgs false
def kndB (kd sq cl : Int) (dg : List UInt8) (br dl : Bool) : Bool :=
 if kd = 1 ∨ kd = 2 then zsB sq cl && (nlB dg && br)
 else if kd = 3 then (if zsB sq cl then nlB dg && br else stB sq cl && (g32 dg && (br || dl)))
 else if kd = 4 ∨ kd = 8 then stB sq cl && (nlB dg && dl)
 else if kd = 5 ∨ kd = 6 then stB sq cl && (g32 dg && br)
 else if kd = 7 then stB sq cl && (nlB dg && br)
 else false
/-- May a message be? -/
def wmB (kd op : Int) (key : List UInt8) (sq cl : Int) (dg : List UInt8) (br dl : Bool) : Bool := keyB key && (opB kd op && kndB kd sq cl dg br dl)
theorem wm_kn {kd op : Int} {key : List UInt8} {sq cl : Int} {dg : List UInt8} {br dl : Bool} (hk : keyB key = true) (hop : opB kd op = true) : wmB kd op key sq cl dg br dl = kndB kd sq cl dg br dl := by unfold wmB; rw [hk, hop]; rfl
set_option maxRecDepth 100000 in
set_option maxHeartbeats 2000000 in
theorem wcheck_any (kd op : Int) (key : List UInt8) (sq cl : Int) (dg : List UInt8) (a1 : Option Addr) (n c1 : Nat) (a2 : Option Addr) (m c2 : Nat) (X : List UInt8) (w : World) (hkl : key.length < 9223372036854775808)
  (hD : ∀ w', Below w.heap.size w w' → Calls Try.prog 49 #[.agg (msC kd op key sq cl dg a1 n c1 a2 m c2)] w' fun e w2 => e = .returned (.bool (dlB n m X)) ∧ Below w'.heap.size w' w2)  :
  Calls Try.prog 22 #[.agg (msC kd op key sq cl dg a1 n c1 a2 m c2)] w fun e w' => e = insE (wmB kd op key sq cl dg (brB n m) (dlB n m X)) 1 ∧ Below w.heap.size w w' := by
 obtain ⟨W0, hW0⟩ : ∃ b, wmB kd op key sq cl dg (brB n m) (dlB n m X) = b := ⟨_, rfl⟩
 rw [hW0]
 go_enter Try.func22, Try.ntmps22
 (repeat ((fail_if_success with_reducible refine rg ?_); go_step))
 refine wp_region_pw ?_
 refine pw_boxr (by rfl) 29 _ rfl (msC kd op key sq cl dg a1 n c1 a2 m c2) rfl ?_
 intro g1 z0 n0 r1 k
 simp only [Act.put, pu]
 have b1 : w.heap.size ≤ g1 := n0
 clear n0
 have sb := k.below w.heap.size (Nat.le_refl _) (by simp)
 clear k
 refine pw_nil ?_
 (repeat ((fail_if_success with_reducible refine rg ?_); go_step))
 refine wp_region_pw ?_
 refine pw_move (by rfl) (.inr rfl) rfl ?_
 simp only [Act.put, pu]
 refine pw_nil ?_
 cases hk : keyB key with
 | false =>
  have hv : W0 = false := by rw [← hW0]; simp [wmB, hk]
  (repeat ((fail_if_success with_reducible refine rg ?_); go_step))
  refine wp_region_pw ?_
  refine pw_mv (by rfl) rfl rfl ?_
  simp only [Act.put, pu]
  refine pw_value (by rfl) (.pointer (some ⟨g1, 2, none⟩)) (exec_field 29 _ 2 rfl g1 0 rfl _ Try.underlying29 _ rfl 0 Try.sizeOf9) ?_
  simp only [Act.put, pu]
  refine pw_loadk (by rfl) 9 _ rfl _ (2) rfl r1.r (.string ⟨key.toArray⟩) rfl Try.isAgg9 ?_
  simp only [Act.put, pu]
  refine pw_callB (by rfl) 12 _ _ rfl Try.func12 (by kernel_rfl) #[.string ⟨key.toArray⟩] rfl _ ((wkey_any key _ hkl).mono fun e w' ⟨he, hb⟩ => ⟨he.trans (by rw [hk]), hb⟩) ?_
  intro z2003 k
  simp only [Act.put, pu]
  replace r1 := k.row r1 (by simp <;> omega)
  replace sb := sb.trans (k.below w.heap.size sb.size (by simp <;> omega))
  clear k
  refine pw_callCP (by rfl) 45 _ _ _ rfl #[] rfl Try.func45 (by kernel_rfl) #[.bool false] rfl (want_no _) ?_
  intro z2004 hb
  exact ⟨rfl, by rw [hv]; rfl, below_on sb (Nat.le_refl _) hb⟩
 | true =>
  (repeat ((fail_if_success with_reducible refine rg ?_); go_step))
  refine wp_region_pw ?_
  refine pw_mv (by rfl) rfl rfl ?_
  simp only [Act.put, pu]
  refine pw_value (by rfl) (.pointer (some ⟨g1, 2, none⟩)) (exec_field 29 _ 2 rfl g1 0 rfl _ Try.underlying29 _ rfl 0 Try.sizeOf9) ?_
  simp only [Act.put, pu]
  refine pw_loadk (by rfl) 9 _ rfl _ (2) rfl r1.r (.string ⟨key.toArray⟩) rfl Try.isAgg9 ?_
  simp only [Act.put, pu]
  refine pw_callB (by rfl) 12 _ _ rfl Try.func12 (by kernel_rfl) #[.string ⟨key.toArray⟩] rfl _ ((wkey_any key _ hkl).mono fun e w' ⟨he, hb⟩ => ⟨he.trans (by rw [hk]), hb⟩) ?_
  intro z2003 k
  simp only [Act.put, pu]
  replace r1 := k.row r1 (by simp <;> omega)
  replace sb := sb.trans (k.below w.heap.size sb.size (by simp <;> omega))
  clear k
  refine pw_callC (by rfl) (45) _ _ _ rfl (#[]) rfl (Try.func45) (by kernel_rfl) #[.bool true] rfl _ (want_yes _) ?_
  intro z2004 k
  simp only [Act.put, pu]
  replace r1 := k.row r1 (by simp <;> omega)
  replace sb := sb.trans (k.below w.heap.size sb.size (by simp <;> omega))
  clear k
  refine pw_nil ?_
  cases hop : opB kd op with
  | false =>
   have hv : W0 = false := by rw [← hW0]; simp [wmB, hop]
   (repeat ((fail_if_success with_reducible refine rg ?_); go_step))
   refine wp_region_pw ?_
   refine pw_mv (by rfl) rfl rfl ?_
   simp only [Act.put, pu]
   refine pw_value (by rfl) (.pointer (some ⟨g1, 0, none⟩)) (exec_field 29 _ 0 rfl g1 0 rfl _ Try.underlying29 _ rfl 0 Try.sizeOf3) ?_
   simp only [Act.put, pu]
   refine pw_loadk (by rfl) 3 _ rfl _ (0) rfl r1.r (.int .i64 kd) rfl Try.isAgg3 ?_
   simp only [Act.put, pu]
   refine pw_value (by rfl) (.pointer (some ⟨g1, 1, none⟩)) (exec_field 29 _ 1 rfl g1 0 rfl _ Try.underlying29 _ rfl 0 Try.sizeOf3) ?_
   simp only [Act.put, pu]
   refine pw_loadk (by rfl) 3 _ rfl _ (1) rfl r1.r (.int .i64 op) rfl Try.isAgg3 ?_
   simp only [Act.put, pu]
   refine pw_callB (by rfl) 46 _ _ rfl Try.func46 (by kernel_rfl) #[.int .i64 kd, .int .i64 op] rfl _ ((wop_any kd op _).mono fun e w' ⟨he, hb⟩ => ⟨he.trans (by rw [hop]), hb⟩) ?_
   intro z3005 k
   simp only [Act.put, pu]
   replace r1 := k.row r1 (by simp <;> omega)
   replace sb := sb.trans (k.below w.heap.size sb.size (by simp <;> omega))
   clear k
   refine pw_callCP (by rfl) 45 _ _ _ rfl #[] rfl Try.func45 (by kernel_rfl) #[.bool false] rfl (want_no _) ?_
   intro z3006 hb
   exact ⟨rfl, by rw [hv]; rfl, below_on sb (Nat.le_refl _) hb⟩
  | true =>
   (repeat ((fail_if_success with_reducible refine rg ?_); go_step))
   refine wp_region_pw ?_
   refine pw_mv (by rfl) rfl rfl ?_
   simp only [Act.put, pu]
   refine pw_value (by rfl) (.pointer (some ⟨g1, 0, none⟩)) (exec_field 29 _ 0 rfl g1 0 rfl _ Try.underlying29 _ rfl 0 Try.sizeOf3) ?_
   simp only [Act.put, pu]
   refine pw_loadk (by rfl) 3 _ rfl _ (0) rfl r1.r (.int .i64 kd) rfl Try.isAgg3 ?_
   simp only [Act.put, pu]
   refine pw_value (by rfl) (.pointer (some ⟨g1, 1, none⟩)) (exec_field 29 _ 1 rfl g1 0 rfl _ Try.underlying29 _ rfl 0 Try.sizeOf3) ?_
   simp only [Act.put, pu]
   refine pw_loadk (by rfl) 3 _ rfl _ (1) rfl r1.r (.int .i64 op) rfl Try.isAgg3 ?_
   simp only [Act.put, pu]
   refine pw_callB (by rfl) 46 _ _ rfl Try.func46 (by kernel_rfl) #[.int .i64 kd, .int .i64 op] rfl _ ((wop_any kd op _).mono fun e w' ⟨he, hb⟩ => ⟨he.trans (by rw [hop]), hb⟩) ?_
   intro z3005 k
   simp only [Act.put, pu]
   replace r1 := k.row r1 (by simp <;> omega)
   replace sb := sb.trans (k.below w.heap.size sb.size (by simp <;> omega))
   clear k
   refine pw_callC (by rfl) (45) _ _ _ rfl (#[]) rfl (Try.func45) (by kernel_rfl) #[.bool true] rfl _ (want_yes _) ?_
   intro z3006 k
   simp only [Act.put, pu]
   replace r1 := k.row r1 (by simp <;> omega)
   replace sb := sb.trans (k.below w.heap.size sb.size (by simp <;> omega))
   clear k
   refine pw_nil ?_
   (repeat ((fail_if_success with_reducible refine rg ?_); go_step))
   refine wp_region_pw ?_
   refine pw_value (by rfl) (.pointer (some ⟨g1, 0, none⟩)) (exec_field 29 _ 0 rfl g1 0 rfl _ Try.underlying29 _ rfl 0 Try.sizeOf3) ?_
   simp only [Act.put, pu]
   refine pw_loadk (by rfl) 3 _ rfl _ (0) rfl r1.r (.int .i64 kd) rfl Try.isAgg3 ?_
   simp only [Act.put, pu]
   refine pw_nil ?_
   by_cases h1 : kd = 1
   ·skip
    (repeat ((fail_if_success with_reducible refine rg ?_); go_step))
    refine wp_region_pw ?_
    refine pw_value (by rfl) (.bool true) (x_eqI _ _ _ _ rfl .i64 kd 1 rfl rfl true (decide_eq_true (by omega))) ?_
    simp only [Act.put, pu]
    refine pw_as (by rfl) rfl rfl ?_
    simp only [Act.put, pu]
    refine pw_nil ?_
    cases hzs : zsB sq cl with
    | true =>
     cases hnl : nlB dg with
     | true =>
      cases hbr : brB n m with
      | true =>
       have hv : W0 = true := by rw [← hW0, wm_kn hk hop]; simp [kndB, h1, hzs, hnl, hbr]
       (repeat ((fail_if_success with_reducible refine rg ?_); go_step))
       refine wp_region_pw ?_
       refine pw_mv (by rfl) rfl rfl ?_
       simp only [Act.put, pu]
       refine pw_value (by rfl) (.pointer (some ⟨g1, 3, none⟩)) (exec_field 29 _ 3 rfl g1 0 rfl _ Try.underlying29 _ rfl 1 Try.sizeOf24) ?_
       simp only [Act.put, pu]
       refine pw_loadm (by rfl) 24 _ rfl _ (3) rfl r1.r (tsC sq cl) (ms_st _ _ _ _ _ _ _ _ _ _ _ _) _ Try.underlying24 rfl size_st ?_
       simp only [Act.put, pu]
       refine pw_value (by rfl) (.agg (tsC 0 0)) (exec_buildv _ [] rfl [] rfl _ built_st0) ?_
       simp only [Act.put, pu]
       refine pw_value (by rfl) (.bool true) (exec_eql_st _ _ _ rfl sq cl 0 0 rfl rfl true hzs) ?_
       simp only [Act.put, pu]
       refine pw_mv (by rfl) rfl rfl ?_
       simp only [Act.put, pu]
       refine pw_value (by rfl) (.pointer (some ⟨g1, 5, none⟩)) (exec_field 29 _ 4 rfl g1 0 rfl _ Try.underlying29 _ rfl 0 Try.sizeOf9) ?_
       simp only [Act.put, pu]
       refine pw_loadk (by rfl) 9 _ rfl _ (5) rfl r1.r (.string ⟨dg.toArray⟩) rfl Try.isAgg9 ?_
       simp only [Act.put, pu]
       refine pw_value (by rfl) (.bool true) (y_eqS _ _ _ _ rfl dg [] rfl rfl true hnl) ?_
       simp only [Act.put, pu]
       refine pw_pick (by rfl) true (v := .bool true) rfl rfl rfl ?_
       simp only [Act.put, pu]
       refine pw_mv (by rfl) rfl rfl ?_
       simp only [Act.put, pu]
       refine pw_loadm (by rfl) 29 _ rfl _ (0) rfl r1.r (msC kd op key sq cl dg a1 n c1 a2 m c2) (part_all _) _ Try.underlying29 rfl size_ms ?_
       simp only [Act.put, pu]
       refine pw_callB (by rfl) 47 _ _ rfl Try.func47 (by kernel_rfl) #[.agg (msC kd op key sq cl dg a1 n c1 a2 m c2)] rfl _ ((wbare_any kd op key sq cl dg a1 n c1 a2 m c2 _).mono fun e w' ⟨he, hb⟩ => ⟨he.trans (by rw [hbr]), hb⟩) ?_
       intro z8012 k
       simp only [Act.put, pu]
       replace r1 := k.row r1 (by simp <;> omega)
       replace sb := sb.trans (k.below w.heap.size sb.size (by simp <;> omega))
       clear k
       refine pw_pick (by rfl) true (v := .bool true) rfl rfl rfl ?_
       simp only [Act.put, pu]
       refine pw_callC (by rfl) (45) _ _ _ rfl (#[]) rfl (Try.func45) (by kernel_rfl) #[.bool true] rfl _ (want_yes _) ?_
       intro z8014 k
       simp only [Act.put, pu]
       replace r1 := k.row r1 (by simp <;> omega)
       replace sb := sb.trans (k.below w.heap.size sb.size (by simp <;> omega))
       clear k
       refine pw_nil ?_
       go_wp2
       first | (go_ret; exact ⟨by rw [hv]; rfl, sb⟩) | exact ⟨rfl, _, results_none rfl _ _ _, by rw [hv]; rfl, sb⟩
      | false =>
       have hv : W0 = false := by rw [← hW0, wm_kn hk hop]; simp [kndB, h1, hzs, hnl, hbr]
       (repeat ((fail_if_success with_reducible refine rg ?_); go_step))
       refine wp_region_pw ?_
       refine pw_mv (by rfl) rfl rfl ?_
       simp only [Act.put, pu]
       refine pw_value (by rfl) (.pointer (some ⟨g1, 3, none⟩)) (exec_field 29 _ 3 rfl g1 0 rfl _ Try.underlying29 _ rfl 1 Try.sizeOf24) ?_
       simp only [Act.put, pu]
       refine pw_loadm (by rfl) 24 _ rfl _ (3) rfl r1.r (tsC sq cl) (ms_st _ _ _ _ _ _ _ _ _ _ _ _) _ Try.underlying24 rfl size_st ?_
       simp only [Act.put, pu]
       refine pw_value (by rfl) (.agg (tsC 0 0)) (exec_buildv _ [] rfl [] rfl _ built_st0) ?_
       simp only [Act.put, pu]
       refine pw_value (by rfl) (.bool true) (exec_eql_st _ _ _ rfl sq cl 0 0 rfl rfl true hzs) ?_
       simp only [Act.put, pu]
       refine pw_mv (by rfl) rfl rfl ?_
       simp only [Act.put, pu]
       refine pw_value (by rfl) (.pointer (some ⟨g1, 5, none⟩)) (exec_field 29 _ 4 rfl g1 0 rfl _ Try.underlying29 _ rfl 0 Try.sizeOf9) ?_
       simp only [Act.put, pu]
       refine pw_loadk (by rfl) 9 _ rfl _ (5) rfl r1.r (.string ⟨dg.toArray⟩) rfl Try.isAgg9 ?_
       simp only [Act.put, pu]
       refine pw_value (by rfl) (.bool true) (y_eqS _ _ _ _ rfl dg [] rfl rfl true hnl) ?_
       simp only [Act.put, pu]
       refine pw_pick (by rfl) true (v := .bool true) rfl rfl rfl ?_
       simp only [Act.put, pu]
       refine pw_mv (by rfl) rfl rfl ?_
       simp only [Act.put, pu]
       refine pw_loadm (by rfl) 29 _ rfl _ (0) rfl r1.r (msC kd op key sq cl dg a1 n c1 a2 m c2) (part_all _) _ Try.underlying29 rfl size_ms ?_
       simp only [Act.put, pu]
       refine pw_callB (by rfl) 47 _ _ rfl Try.func47 (by kernel_rfl) #[.agg (msC kd op key sq cl dg a1 n c1 a2 m c2)] rfl _ ((wbare_any kd op key sq cl dg a1 n c1 a2 m c2 _).mono fun e w' ⟨he, hb⟩ => ⟨he.trans (by rw [hbr]), hb⟩) ?_
       intro z8012 k
       simp only [Act.put, pu]
       replace r1 := k.row r1 (by simp <;> omega)
       replace sb := sb.trans (k.below w.heap.size sb.size (by simp <;> omega))
       clear k
       refine pw_pick (by rfl) true (v := .bool false) rfl rfl rfl ?_
       simp only [Act.put, pu]
       refine pw_callCP (by rfl) 45 _ _ _ rfl #[] rfl Try.func45 (by kernel_rfl) #[.bool false] rfl (want_no _) ?_
       intro z8014 hb
       exact ⟨rfl, by rw [hv]; rfl, below_on sb (Nat.le_refl _) hb⟩
     | false =>
      have hv : W0 = false := by rw [← hW0, wm_kn hk hop]; simp [kndB, h1, hzs, hnl]
      (repeat ((fail_if_success with_reducible refine rg ?_); go_step))
      refine wp_region_pw ?_
      refine pw_mv (by rfl) rfl rfl ?_
      simp only [Act.put, pu]
      refine pw_value (by rfl) (.pointer (some ⟨g1, 3, none⟩)) (exec_field 29 _ 3 rfl g1 0 rfl _ Try.underlying29 _ rfl 1 Try.sizeOf24) ?_
      simp only [Act.put, pu]
      refine pw_loadm (by rfl) 24 _ rfl _ (3) rfl r1.r (tsC sq cl) (ms_st _ _ _ _ _ _ _ _ _ _ _ _) _ Try.underlying24 rfl size_st ?_
      simp only [Act.put, pu]
      refine pw_value (by rfl) (.agg (tsC 0 0)) (exec_buildv _ [] rfl [] rfl _ built_st0) ?_
      simp only [Act.put, pu]
      refine pw_value (by rfl) (.bool true) (exec_eql_st _ _ _ rfl sq cl 0 0 rfl rfl true hzs) ?_
      simp only [Act.put, pu]
      refine pw_mv (by rfl) rfl rfl ?_
      simp only [Act.put, pu]
      refine pw_value (by rfl) (.pointer (some ⟨g1, 5, none⟩)) (exec_field 29 _ 4 rfl g1 0 rfl _ Try.underlying29 _ rfl 0 Try.sizeOf9) ?_
      simp only [Act.put, pu]
      refine pw_loadk (by rfl) 9 _ rfl _ (5) rfl r1.r (.string ⟨dg.toArray⟩) rfl Try.isAgg9 ?_
      simp only [Act.put, pu]
      refine pw_value (by rfl) (.bool false) (y_eqS _ _ _ _ rfl dg [] rfl rfl false hnl) ?_
      simp only [Act.put, pu]
      refine pw_pick (by rfl) true (v := .bool false) rfl rfl rfl ?_
      simp only [Act.put, pu]
      refine pw_mv (by rfl) rfl rfl ?_
      simp only [Act.put, pu]
      refine pw_skip (by rfl) ?_
      simp only [Act.put, pu]
      refine pw_skip (by rfl) ?_
      simp only [Act.put, pu]
      refine pw_pick (by rfl) false (v := .bool false) rfl rfl rfl ?_
      simp only [Act.put, pu]
      refine pw_callCP (by rfl) 45 _ _ _ rfl #[] rfl Try.func45 (by kernel_rfl) #[.bool false] rfl (want_no _) ?_
      intro z8014 hb
      exact ⟨rfl, by rw [hv]; rfl, below_on sb (Nat.le_refl _) hb⟩
    | false =>
     have hv : W0 = false := by rw [← hW0, wm_kn hk hop]; simp [kndB, h1, hzs]
     (repeat ((fail_if_success with_reducible refine rg ?_); go_step))
     refine wp_region_pw ?_
     refine pw_mv (by rfl) rfl rfl ?_
     simp only [Act.put, pu]
     refine pw_value (by rfl) (.pointer (some ⟨g1, 3, none⟩)) (exec_field 29 _ 3 rfl g1 0 rfl _ Try.underlying29 _ rfl 1 Try.sizeOf24) ?_
     simp only [Act.put, pu]
     refine pw_loadm (by rfl) 24 _ rfl _ (3) rfl r1.r (tsC sq cl) (ms_st _ _ _ _ _ _ _ _ _ _ _ _) _ Try.underlying24 rfl size_st ?_
     simp only [Act.put, pu]
     refine pw_value (by rfl) (.agg (tsC 0 0)) (exec_buildv _ [] rfl [] rfl _ built_st0) ?_
     simp only [Act.put, pu]
     refine pw_value (by rfl) (.bool false) (exec_eql_st _ _ _ rfl sq cl 0 0 rfl rfl false hzs) ?_
     simp only [Act.put, pu]
     refine pw_mv (by rfl) rfl rfl ?_
     simp only [Act.put, pu]
     refine pw_skip (by rfl) ?_
     simp only [Act.put, pu]
     refine pw_skip (by rfl) ?_
     simp only [Act.put, pu]
     refine pw_skip (by rfl) ?_
     simp only [Act.put, pu]
     refine pw_pick (by rfl) false (v := .bool false) rfl rfl rfl ?_
     simp only [Act.put, pu]
     refine pw_mv (by rfl) rfl rfl ?_
     simp only [Act.put, pu]
     refine pw_skip (by rfl) ?_
     simp only [Act.put, pu]
     refine pw_skip (by rfl) ?_
     simp only [Act.put, pu]
     refine pw_pick (by rfl) false (v := .bool false) rfl rfl rfl ?_
     simp only [Act.put, pu]
     refine pw_callCP (by rfl) 45 _ _ _ rfl #[] rfl Try.func45 (by kernel_rfl) #[.bool false] rfl (want_no _) ?_
     intro z8014 hb
     exact ⟨rfl, by rw [hv]; rfl, below_on sb (Nat.le_refl _) hb⟩
   (repeat ((fail_if_success with_reducible refine rg ?_); go_step))
   refine wp_region_pw ?_
   refine pw_value (by rfl) (.bool false) (x_eqI _ _ _ _ rfl .i64 kd 1 rfl rfl false (decide_eq_false (by omega))) ?_
   simp only [Act.put, pu]
   refine pw_as (by rfl) rfl rfl ?_
   simp only [Act.put, pu]
   refine pw_nil ?_
   by_cases h2 : kd = 2
   ·skip
    (repeat ((fail_if_success with_reducible refine rg ?_); go_step))
    refine wp_region_pw ?_
    refine pw_value (by rfl) (.bool true) (x_eqI _ _ _ _ rfl .i64 kd 2 rfl rfl true (decide_eq_true (by omega))) ?_
    simp only [Act.put, pu]
    refine pw_as (by rfl) rfl rfl ?_
    simp only [Act.put, pu]
    refine pw_nil ?_
    cases hzs : zsB sq cl with
    | true =>
     cases hnl : nlB dg with
     | true =>
      cases hbr : brB n m with
      | true =>
       have hv : W0 = true := by rw [← hW0, wm_kn hk hop]; simp [kndB, h2, hzs, hnl, hbr]
       (repeat ((fail_if_success with_reducible refine rg ?_); go_step))
       refine wp_region_pw ?_
       refine pw_mv (by rfl) rfl rfl ?_
       simp only [Act.put, pu]
       refine pw_value (by rfl) (.pointer (some ⟨g1, 3, none⟩)) (exec_field 29 _ 3 rfl g1 0 rfl _ Try.underlying29 _ rfl 1 Try.sizeOf24) ?_
       simp only [Act.put, pu]
       refine pw_loadm (by rfl) 24 _ rfl _ (3) rfl r1.r (tsC sq cl) (ms_st _ _ _ _ _ _ _ _ _ _ _ _) _ Try.underlying24 rfl size_st ?_
       simp only [Act.put, pu]
       refine pw_value (by rfl) (.agg (tsC 0 0)) (exec_buildv _ [] rfl [] rfl _ built_st0) ?_
       simp only [Act.put, pu]
       refine pw_value (by rfl) (.bool true) (exec_eql_st _ _ _ rfl sq cl 0 0 rfl rfl true hzs) ?_
       simp only [Act.put, pu]
       refine pw_mv (by rfl) rfl rfl ?_
       simp only [Act.put, pu]
       refine pw_value (by rfl) (.pointer (some ⟨g1, 5, none⟩)) (exec_field 29 _ 4 rfl g1 0 rfl _ Try.underlying29 _ rfl 0 Try.sizeOf9) ?_
       simp only [Act.put, pu]
       refine pw_loadk (by rfl) 9 _ rfl _ (5) rfl r1.r (.string ⟨dg.toArray⟩) rfl Try.isAgg9 ?_
       simp only [Act.put, pu]
       refine pw_value (by rfl) (.bool true) (y_eqS _ _ _ _ rfl dg [] rfl rfl true hnl) ?_
       simp only [Act.put, pu]
       refine pw_pick (by rfl) true (v := .bool true) rfl rfl rfl ?_
       simp only [Act.put, pu]
       refine pw_mv (by rfl) rfl rfl ?_
       simp only [Act.put, pu]
       refine pw_loadm (by rfl) 29 _ rfl _ (0) rfl r1.r (msC kd op key sq cl dg a1 n c1 a2 m c2) (part_all _) _ Try.underlying29 rfl size_ms ?_
       simp only [Act.put, pu]
       refine pw_callB (by rfl) 47 _ _ rfl Try.func47 (by kernel_rfl) #[.agg (msC kd op key sq cl dg a1 n c1 a2 m c2)] rfl _ ((wbare_any kd op key sq cl dg a1 n c1 a2 m c2 _).mono fun e w' ⟨he, hb⟩ => ⟨he.trans (by rw [hbr]), hb⟩) ?_
       intro z8012 k
       simp only [Act.put, pu]
       replace r1 := k.row r1 (by simp <;> omega)
       replace sb := sb.trans (k.below w.heap.size sb.size (by simp <;> omega))
       clear k
       refine pw_pick (by rfl) true (v := .bool true) rfl rfl rfl ?_
       simp only [Act.put, pu]
       refine pw_callC (by rfl) (45) _ _ _ rfl (#[]) rfl (Try.func45) (by kernel_rfl) #[.bool true] rfl _ (want_yes _) ?_
       intro z8014 k
       simp only [Act.put, pu]
       replace r1 := k.row r1 (by simp <;> omega)
       replace sb := sb.trans (k.below w.heap.size sb.size (by simp <;> omega))
       clear k
       refine pw_nil ?_
       go_wp2
       first | (go_ret; exact ⟨by rw [hv]; rfl, sb⟩) | exact ⟨rfl, _, results_none rfl _ _ _, by rw [hv]; rfl, sb⟩
      | false =>
       have hv : W0 = false := by rw [← hW0, wm_kn hk hop]; simp [kndB, h2, hzs, hnl, hbr]
       (repeat ((fail_if_success with_reducible refine rg ?_); go_step))
       refine wp_region_pw ?_
       refine pw_mv (by rfl) rfl rfl ?_
       simp only [Act.put, pu]
       refine pw_value (by rfl) (.pointer (some ⟨g1, 3, none⟩)) (exec_field 29 _ 3 rfl g1 0 rfl _ Try.underlying29 _ rfl 1 Try.sizeOf24) ?_
       simp only [Act.put, pu]
       refine pw_loadm (by rfl) 24 _ rfl _ (3) rfl r1.r (tsC sq cl) (ms_st _ _ _ _ _ _ _ _ _ _ _ _) _ Try.underlying24 rfl size_st ?_
       simp only [Act.put, pu]
       refine pw_value (by rfl) (.agg (tsC 0 0)) (exec_buildv _ [] rfl [] rfl _ built_st0) ?_
       simp only [Act.put, pu]
       refine pw_value (by rfl) (.bool true) (exec_eql_st _ _ _ rfl sq cl 0 0 rfl rfl true hzs) ?_
       simp only [Act.put, pu]
       refine pw_mv (by rfl) rfl rfl ?_
       simp only [Act.put, pu]
       refine pw_value (by rfl) (.pointer (some ⟨g1, 5, none⟩)) (exec_field 29 _ 4 rfl g1 0 rfl _ Try.underlying29 _ rfl 0 Try.sizeOf9) ?_
       simp only [Act.put, pu]
       refine pw_loadk (by rfl) 9 _ rfl _ (5) rfl r1.r (.string ⟨dg.toArray⟩) rfl Try.isAgg9 ?_
       simp only [Act.put, pu]
       refine pw_value (by rfl) (.bool true) (y_eqS _ _ _ _ rfl dg [] rfl rfl true hnl) ?_
       simp only [Act.put, pu]
       refine pw_pick (by rfl) true (v := .bool true) rfl rfl rfl ?_
       simp only [Act.put, pu]
       refine pw_mv (by rfl) rfl rfl ?_
       simp only [Act.put, pu]
       refine pw_loadm (by rfl) 29 _ rfl _ (0) rfl r1.r (msC kd op key sq cl dg a1 n c1 a2 m c2) (part_all _) _ Try.underlying29 rfl size_ms ?_
       simp only [Act.put, pu]
       refine pw_callB (by rfl) 47 _ _ rfl Try.func47 (by kernel_rfl) #[.agg (msC kd op key sq cl dg a1 n c1 a2 m c2)] rfl _ ((wbare_any kd op key sq cl dg a1 n c1 a2 m c2 _).mono fun e w' ⟨he, hb⟩ => ⟨he.trans (by rw [hbr]), hb⟩) ?_
       intro z8012 k
       simp only [Act.put, pu]
       replace r1 := k.row r1 (by simp <;> omega)
       replace sb := sb.trans (k.below w.heap.size sb.size (by simp <;> omega))
       clear k
       refine pw_pick (by rfl) true (v := .bool false) rfl rfl rfl ?_
       simp only [Act.put, pu]
       refine pw_callCP (by rfl) 45 _ _ _ rfl #[] rfl Try.func45 (by kernel_rfl) #[.bool false] rfl (want_no _) ?_
       intro z8014 hb
       exact ⟨rfl, by rw [hv]; rfl, below_on sb (Nat.le_refl _) hb⟩
     | false =>
      have hv : W0 = false := by rw [← hW0, wm_kn hk hop]; simp [kndB, h2, hzs, hnl]
      (repeat ((fail_if_success with_reducible refine rg ?_); go_step))
      refine wp_region_pw ?_
      refine pw_mv (by rfl) rfl rfl ?_
      simp only [Act.put, pu]
      refine pw_value (by rfl) (.pointer (some ⟨g1, 3, none⟩)) (exec_field 29 _ 3 rfl g1 0 rfl _ Try.underlying29 _ rfl 1 Try.sizeOf24) ?_
      simp only [Act.put, pu]
      refine pw_loadm (by rfl) 24 _ rfl _ (3) rfl r1.r (tsC sq cl) (ms_st _ _ _ _ _ _ _ _ _ _ _ _) _ Try.underlying24 rfl size_st ?_
      simp only [Act.put, pu]
      refine pw_value (by rfl) (.agg (tsC 0 0)) (exec_buildv _ [] rfl [] rfl _ built_st0) ?_
      simp only [Act.put, pu]
      refine pw_value (by rfl) (.bool true) (exec_eql_st _ _ _ rfl sq cl 0 0 rfl rfl true hzs) ?_
      simp only [Act.put, pu]
      refine pw_mv (by rfl) rfl rfl ?_
      simp only [Act.put, pu]
      refine pw_value (by rfl) (.pointer (some ⟨g1, 5, none⟩)) (exec_field 29 _ 4 rfl g1 0 rfl _ Try.underlying29 _ rfl 0 Try.sizeOf9) ?_
      simp only [Act.put, pu]
      refine pw_loadk (by rfl) 9 _ rfl _ (5) rfl r1.r (.string ⟨dg.toArray⟩) rfl Try.isAgg9 ?_
      simp only [Act.put, pu]
      refine pw_value (by rfl) (.bool false) (y_eqS _ _ _ _ rfl dg [] rfl rfl false hnl) ?_
      simp only [Act.put, pu]
      refine pw_pick (by rfl) true (v := .bool false) rfl rfl rfl ?_
      simp only [Act.put, pu]
      refine pw_mv (by rfl) rfl rfl ?_
      simp only [Act.put, pu]
      refine pw_skip (by rfl) ?_
      simp only [Act.put, pu]
      refine pw_skip (by rfl) ?_
      simp only [Act.put, pu]
      refine pw_pick (by rfl) false (v := .bool false) rfl rfl rfl ?_
      simp only [Act.put, pu]
      refine pw_callCP (by rfl) 45 _ _ _ rfl #[] rfl Try.func45 (by kernel_rfl) #[.bool false] rfl (want_no _) ?_
      intro z8014 hb
      exact ⟨rfl, by rw [hv]; rfl, below_on sb (Nat.le_refl _) hb⟩
    | false =>
     have hv : W0 = false := by rw [← hW0, wm_kn hk hop]; simp [kndB, h2, hzs]
     (repeat ((fail_if_success with_reducible refine rg ?_); go_step))
     refine wp_region_pw ?_
     refine pw_mv (by rfl) rfl rfl ?_
     simp only [Act.put, pu]
     refine pw_value (by rfl) (.pointer (some ⟨g1, 3, none⟩)) (exec_field 29 _ 3 rfl g1 0 rfl _ Try.underlying29 _ rfl 1 Try.sizeOf24) ?_
     simp only [Act.put, pu]
     refine pw_loadm (by rfl) 24 _ rfl _ (3) rfl r1.r (tsC sq cl) (ms_st _ _ _ _ _ _ _ _ _ _ _ _) _ Try.underlying24 rfl size_st ?_
     simp only [Act.put, pu]
     refine pw_value (by rfl) (.agg (tsC 0 0)) (exec_buildv _ [] rfl [] rfl _ built_st0) ?_
     simp only [Act.put, pu]
     refine pw_value (by rfl) (.bool false) (exec_eql_st _ _ _ rfl sq cl 0 0 rfl rfl false hzs) ?_
     simp only [Act.put, pu]
     refine pw_mv (by rfl) rfl rfl ?_
     simp only [Act.put, pu]
     refine pw_skip (by rfl) ?_
     simp only [Act.put, pu]
     refine pw_skip (by rfl) ?_
     simp only [Act.put, pu]
     refine pw_skip (by rfl) ?_
     simp only [Act.put, pu]
     refine pw_pick (by rfl) false (v := .bool false) rfl rfl rfl ?_
     simp only [Act.put, pu]
     refine pw_mv (by rfl) rfl rfl ?_
     simp only [Act.put, pu]
     refine pw_skip (by rfl) ?_
     simp only [Act.put, pu]
     refine pw_skip (by rfl) ?_
     simp only [Act.put, pu]
     refine pw_pick (by rfl) false (v := .bool false) rfl rfl rfl ?_
     simp only [Act.put, pu]
     refine pw_callCP (by rfl) 45 _ _ _ rfl #[] rfl Try.func45 (by kernel_rfl) #[.bool false] rfl (want_no _) ?_
     intro z8014 hb
     exact ⟨rfl, by rw [hv]; rfl, below_on sb (Nat.le_refl _) hb⟩
   (repeat ((fail_if_success with_reducible refine rg ?_); go_step))
   refine wp_region_pw ?_
   refine pw_value (by rfl) (.bool false) (x_eqI _ _ _ _ rfl .i64 kd 2 rfl rfl false (decide_eq_false (by omega))) ?_
   simp only [Act.put, pu]
   refine pw_as (by rfl) rfl rfl ?_
   simp only [Act.put, pu]
   refine pw_nil ?_
   by_cases h3 : kd = 3
   ·skip
    (repeat ((fail_if_success with_reducible refine rg ?_); go_step))
    refine wp_region_pw ?_
    refine pw_value (by rfl) (.bool true) (x_eqI _ _ _ _ rfl .i64 kd 3 rfl rfl true (decide_eq_true (by omega))) ?_
    simp only [Act.put, pu]
    refine pw_as (by rfl) rfl rfl ?_
    simp only [Act.put, pu]
    refine pw_nil ?_
    cases hzs : zsB sq cl with
    | true =>
     (repeat ((fail_if_success with_reducible refine rg ?_); go_step))
     refine wp_region_pw ?_
     refine pw_value (by rfl) (.pointer (some ⟨g1, 3, none⟩)) (exec_field 29 _ 3 rfl g1 0 rfl _ Try.underlying29 _ rfl 1 Try.sizeOf24) ?_
     simp only [Act.put, pu]
     refine pw_loadm (by rfl) 24 _ rfl _ (3) rfl r1.r (tsC sq cl) (ms_st _ _ _ _ _ _ _ _ _ _ _ _) _ Try.underlying24 rfl size_st ?_
     simp only [Act.put, pu]
     refine pw_value (by rfl) (.agg (tsC 0 0)) (exec_buildv _ [] rfl [] rfl _ built_st0) ?_
     simp only [Act.put, pu]
     refine pw_value (by rfl) (.bool true) (exec_eql_st _ _ _ rfl sq cl 0 0 rfl rfl true hzs) ?_
     simp only [Act.put, pu]
     refine pw_nil ?_
     cases hnl : nlB dg with
     | true =>
      cases hbr : brB n m with
      | true =>
       have hv : W0 = true := by rw [← hW0, wm_kn hk hop]; simp [kndB, h3, hzs, hnl, hbr]
       (repeat ((fail_if_success with_reducible refine rg ?_); go_step))
       refine wp_region_pw ?_
       refine pw_mv (by rfl) rfl rfl ?_
       simp only [Act.put, pu]
       refine pw_value (by rfl) (.pointer (some ⟨g1, 5, none⟩)) (exec_field 29 _ 4 rfl g1 0 rfl _ Try.underlying29 _ rfl 0 Try.sizeOf9) ?_
       simp only [Act.put, pu]
       refine pw_loadk (by rfl) 9 _ rfl _ (5) rfl r1.r (.string ⟨dg.toArray⟩) rfl Try.isAgg9 ?_
       simp only [Act.put, pu]
       refine pw_value (by rfl) (.bool true) (y_eqS _ _ _ _ rfl dg [] rfl rfl true hnl) ?_
       simp only [Act.put, pu]
       refine pw_mv (by rfl) rfl rfl ?_
       simp only [Act.put, pu]
       refine pw_loadm (by rfl) 29 _ rfl _ (0) rfl r1.r (msC kd op key sq cl dg a1 n c1 a2 m c2) (part_all _) _ Try.underlying29 rfl size_ms ?_
       simp only [Act.put, pu]
       refine pw_callB (by rfl) 47 _ _ rfl Try.func47 (by kernel_rfl) #[.agg (msC kd op key sq cl dg a1 n c1 a2 m c2)] rfl _ ((wbare_any kd op key sq cl dg a1 n c1 a2 m c2 _).mono fun e w' ⟨he, hb⟩ => ⟨he.trans (by rw [hbr]), hb⟩) ?_
       intro z11006 k
       simp only [Act.put, pu]
       replace r1 := k.row r1 (by simp <;> omega)
       replace sb := sb.trans (k.below w.heap.size sb.size (by simp <;> omega))
       clear k
       refine pw_pick (by rfl) true (v := .bool true) rfl rfl rfl ?_
       simp only [Act.put, pu]
       refine pw_callC (by rfl) (45) _ _ _ rfl (#[]) rfl (Try.func45) (by kernel_rfl) #[.bool true] rfl _ (want_yes _) ?_
       intro z11008 k
       simp only [Act.put, pu]
       replace r1 := k.row r1 (by simp <;> omega)
       replace sb := sb.trans (k.below w.heap.size sb.size (by simp <;> omega))
       clear k
       refine pw_nil ?_
       go_wp2
       first | (go_ret; exact ⟨by rw [hv]; rfl, sb⟩) | exact ⟨rfl, _, results_none rfl _ _ _, by rw [hv]; rfl, sb⟩
      | false =>
       have hv : W0 = false := by rw [← hW0, wm_kn hk hop]; simp [kndB, h3, hzs, hnl, hbr]
       (repeat ((fail_if_success with_reducible refine rg ?_); go_step))
       refine wp_region_pw ?_
       refine pw_mv (by rfl) rfl rfl ?_
       simp only [Act.put, pu]
       refine pw_value (by rfl) (.pointer (some ⟨g1, 5, none⟩)) (exec_field 29 _ 4 rfl g1 0 rfl _ Try.underlying29 _ rfl 0 Try.sizeOf9) ?_
       simp only [Act.put, pu]
       refine pw_loadk (by rfl) 9 _ rfl _ (5) rfl r1.r (.string ⟨dg.toArray⟩) rfl Try.isAgg9 ?_
       simp only [Act.put, pu]
       refine pw_value (by rfl) (.bool true) (y_eqS _ _ _ _ rfl dg [] rfl rfl true hnl) ?_
       simp only [Act.put, pu]
       refine pw_mv (by rfl) rfl rfl ?_
       simp only [Act.put, pu]
       refine pw_loadm (by rfl) 29 _ rfl _ (0) rfl r1.r (msC kd op key sq cl dg a1 n c1 a2 m c2) (part_all _) _ Try.underlying29 rfl size_ms ?_
       simp only [Act.put, pu]
       refine pw_callB (by rfl) 47 _ _ rfl Try.func47 (by kernel_rfl) #[.agg (msC kd op key sq cl dg a1 n c1 a2 m c2)] rfl _ ((wbare_any kd op key sq cl dg a1 n c1 a2 m c2 _).mono fun e w' ⟨he, hb⟩ => ⟨he.trans (by rw [hbr]), hb⟩) ?_
       intro z11006 k
       simp only [Act.put, pu]
       replace r1 := k.row r1 (by simp <;> omega)
       replace sb := sb.trans (k.below w.heap.size sb.size (by simp <;> omega))
       clear k
       refine pw_pick (by rfl) true (v := .bool false) rfl rfl rfl ?_
       simp only [Act.put, pu]
       refine pw_callCP (by rfl) 45 _ _ _ rfl #[] rfl Try.func45 (by kernel_rfl) #[.bool false] rfl (want_no _) ?_
       intro z11008 hb
       exact ⟨rfl, by rw [hv]; rfl, below_on sb (Nat.le_refl _) hb⟩
     | false =>
      have hv : W0 = false := by rw [← hW0, wm_kn hk hop]; simp [kndB, h3, hzs, hnl]
      (repeat ((fail_if_success with_reducible refine rg ?_); go_step))
      refine wp_region_pw ?_
      refine pw_mv (by rfl) rfl rfl ?_
      simp only [Act.put, pu]
      refine pw_value (by rfl) (.pointer (some ⟨g1, 5, none⟩)) (exec_field 29 _ 4 rfl g1 0 rfl _ Try.underlying29 _ rfl 0 Try.sizeOf9) ?_
      simp only [Act.put, pu]
      refine pw_loadk (by rfl) 9 _ rfl _ (5) rfl r1.r (.string ⟨dg.toArray⟩) rfl Try.isAgg9 ?_
      simp only [Act.put, pu]
      refine pw_value (by rfl) (.bool false) (y_eqS _ _ _ _ rfl dg [] rfl rfl false hnl) ?_
      simp only [Act.put, pu]
      refine pw_mv (by rfl) rfl rfl ?_
      simp only [Act.put, pu]
      refine pw_skip (by rfl) ?_
      simp only [Act.put, pu]
      refine pw_skip (by rfl) ?_
      simp only [Act.put, pu]
      refine pw_pick (by rfl) false (v := .bool false) rfl rfl rfl ?_
      simp only [Act.put, pu]
      refine pw_callCP (by rfl) 45 _ _ _ rfl #[] rfl Try.func45 (by kernel_rfl) #[.bool false] rfl (want_no _) ?_
      intro z11008 hb
      exact ⟨rfl, by rw [hv]; rfl, below_on sb (Nat.le_refl _) hb⟩
    | false =>
     (repeat ((fail_if_success with_reducible refine rg ?_); go_step))
     refine wp_region_pw ?_
     refine pw_value (by rfl) (.pointer (some ⟨g1, 3, none⟩)) (exec_field 29 _ 3 rfl g1 0 rfl _ Try.underlying29 _ rfl 1 Try.sizeOf24) ?_
     simp only [Act.put, pu]
     refine pw_loadm (by rfl) 24 _ rfl _ (3) rfl r1.r (tsC sq cl) (ms_st _ _ _ _ _ _ _ _ _ _ _ _) _ Try.underlying24 rfl size_st ?_
     simp only [Act.put, pu]
     refine pw_value (by rfl) (.agg (tsC 0 0)) (exec_buildv _ [] rfl [] rfl _ built_st0) ?_
     simp only [Act.put, pu]
     refine pw_value (by rfl) (.bool false) (exec_eql_st _ _ _ rfl sq cl 0 0 rfl rfl false hzs) ?_
     simp only [Act.put, pu]
     refine pw_nil ?_
     cases hst : stB sq cl with
     | true =>
      cases h32 : g32 dg with
      | true =>
       cases hbr : brB n m with
       | true =>
        have hv : W0 = true := by rw [← hW0, wm_kn hk hop]; simp [kndB, h3, hzs, hst, h32, hbr]
        (repeat ((fail_if_success with_reducible refine rg ?_); go_step))
        refine wp_region_pw ?_
        refine pw_mv (by rfl) rfl rfl ?_
        simp only [Act.put, pu]
        refine pw_value (by rfl) (.pointer (some ⟨g1, 3, none⟩)) (exec_field 29 _ 3 rfl g1 0 rfl _ Try.underlying29 _ rfl 1 Try.sizeOf24) ?_
        simp only [Act.put, pu]
        refine pw_loadm (by rfl) 24 _ rfl _ (3) rfl r1.r (tsC sq cl) (ms_st _ _ _ _ _ _ _ _ _ _ _ _) _ Try.underlying24 rfl size_st ?_
        simp only [Act.put, pu]
        refine pw_callB (by rfl) 48 _ _ rfl Try.func48 (by kernel_rfl) #[.agg (tsC sq cl)] rfl _ ((wst_any sq cl _).mono fun e w' ⟨he, hb⟩ => ⟨he.trans (by rw [hst]), hb⟩) ?_
        intro z12003 k
        simp only [Act.put, pu]
        replace r1 := k.row r1 (by simp <;> omega)
        replace sb := sb.trans (k.below w.heap.size sb.size (by simp <;> omega))
        clear k
        refine pw_mv (by rfl) rfl rfl ?_
        simp only [Act.put, pu]
        refine pw_value (by rfl) (.pointer (some ⟨g1, 5, none⟩)) (exec_field 29 _ 4 rfl g1 0 rfl _ Try.underlying29 _ rfl 0 Try.sizeOf9) ?_
        simp only [Act.put, pu]
        refine pw_loadk (by rfl) 9 _ rfl _ (5) rfl r1.r (.string ⟨dg.toArray⟩) rfl Try.isAgg9 ?_
        simp only [Act.put, pu]
        refine pw_value (by rfl) (.int .i64 (dg.length : Nat)) (y_lenS _ _ rfl dg rfl Try.underlying9) ?_
        simp only [Act.put, pu]
        refine pw_value (by rfl) (.bool true) (x_eqI _ _ _ _ rfl .i64 (dg.length : Nat) 32 rfl rfl true h32) ?_
        simp only [Act.put, pu]
        refine pw_pick (by rfl) true (v := .bool true) rfl rfl rfl ?_
        simp only [Act.put, pu]
        refine pw_mv (by rfl) rfl rfl ?_
        simp only [Act.put, pu]
        refine pw_loadm (by rfl) 29 _ rfl _ (0) rfl r1.r (msC kd op key sq cl dg a1 n c1 a2 m c2) (part_all _) _ Try.underlying29 rfl size_ms ?_
        simp only [Act.put, pu]
        refine pw_callB (by rfl) 47 _ _ rfl Try.func47 (by kernel_rfl) #[.agg (msC kd op key sq cl dg a1 n c1 a2 m c2)] rfl _ ((wbare_any kd op key sq cl dg a1 n c1 a2 m c2 _).mono fun e w' ⟨he, hb⟩ => ⟨he.trans (by rw [hbr]), hb⟩) ?_
        intro z12012 k
        simp only [Act.put, pu]
        replace r1 := k.row r1 (by simp <;> omega)
        replace sb := sb.trans (k.below w.heap.size sb.size (by simp <;> omega))
        clear k
        refine pw_mv (by rfl) rfl rfl ?_
        simp only [Act.put, pu]
        refine pw_skip (by rfl) ?_
        simp only [Act.put, pu]
        refine pw_skip (by rfl) ?_
        simp only [Act.put, pu]
        refine pw_pick (by rfl) true (v := .bool true) rfl rfl rfl ?_
        simp only [Act.put, pu]
        refine pw_pick (by rfl) true (v := .bool true) rfl rfl rfl ?_
        simp only [Act.put, pu]
        refine pw_callC (by rfl) (45) _ _ _ rfl (#[]) rfl (Try.func45) (by kernel_rfl) #[.bool true] rfl _ (want_yes _) ?_
        intro z12018 k
        simp only [Act.put, pu]
        replace r1 := k.row r1 (by simp <;> omega)
        replace sb := sb.trans (k.below w.heap.size sb.size (by simp <;> omega))
        clear k
        refine pw_nil ?_
        go_wp2
        first | (go_ret; exact ⟨by rw [hv]; rfl, sb⟩) | exact ⟨rfl, _, results_none rfl _ _ _, by rw [hv]; rfl, sb⟩
       | false =>
        cases hdl : dlB n m X with
        | true =>
         have hv : W0 = true := by rw [← hW0, wm_kn hk hop]; simp [kndB, h3, hzs, hst, h32, hbr, hdl]
         (repeat ((fail_if_success with_reducible refine rg ?_); go_step))
         refine wp_region_pw ?_
         refine pw_mv (by rfl) rfl rfl ?_
         simp only [Act.put, pu]
         refine pw_value (by rfl) (.pointer (some ⟨g1, 3, none⟩)) (exec_field 29 _ 3 rfl g1 0 rfl _ Try.underlying29 _ rfl 1 Try.sizeOf24) ?_
         simp only [Act.put, pu]
         refine pw_loadm (by rfl) 24 _ rfl _ (3) rfl r1.r (tsC sq cl) (ms_st _ _ _ _ _ _ _ _ _ _ _ _) _ Try.underlying24 rfl size_st ?_
         simp only [Act.put, pu]
         refine pw_callB (by rfl) 48 _ _ rfl Try.func48 (by kernel_rfl) #[.agg (tsC sq cl)] rfl _ ((wst_any sq cl _).mono fun e w' ⟨he, hb⟩ => ⟨he.trans (by rw [hst]), hb⟩) ?_
         intro z12003 k
         simp only [Act.put, pu]
         replace r1 := k.row r1 (by simp <;> omega)
         replace sb := sb.trans (k.below w.heap.size sb.size (by simp <;> omega))
         clear k
         refine pw_mv (by rfl) rfl rfl ?_
         simp only [Act.put, pu]
         refine pw_value (by rfl) (.pointer (some ⟨g1, 5, none⟩)) (exec_field 29 _ 4 rfl g1 0 rfl _ Try.underlying29 _ rfl 0 Try.sizeOf9) ?_
         simp only [Act.put, pu]
         refine pw_loadk (by rfl) 9 _ rfl _ (5) rfl r1.r (.string ⟨dg.toArray⟩) rfl Try.isAgg9 ?_
         simp only [Act.put, pu]
         refine pw_value (by rfl) (.int .i64 (dg.length : Nat)) (y_lenS _ _ rfl dg rfl Try.underlying9) ?_
         simp only [Act.put, pu]
         refine pw_value (by rfl) (.bool true) (x_eqI _ _ _ _ rfl .i64 (dg.length : Nat) 32 rfl rfl true h32) ?_
         simp only [Act.put, pu]
         refine pw_pick (by rfl) true (v := .bool true) rfl rfl rfl ?_
         simp only [Act.put, pu]
         refine pw_mv (by rfl) rfl rfl ?_
         simp only [Act.put, pu]
         refine pw_loadm (by rfl) 29 _ rfl _ (0) rfl r1.r (msC kd op key sq cl dg a1 n c1 a2 m c2) (part_all _) _ Try.underlying29 rfl size_ms ?_
         simp only [Act.put, pu]
         refine pw_callB (by rfl) 47 _ _ rfl Try.func47 (by kernel_rfl) #[.agg (msC kd op key sq cl dg a1 n c1 a2 m c2)] rfl _ ((wbare_any kd op key sq cl dg a1 n c1 a2 m c2 _).mono fun e w' ⟨he, hb⟩ => ⟨he.trans (by rw [hbr]), hb⟩) ?_
         intro z12012 k
         simp only [Act.put, pu]
         replace r1 := k.row r1 (by simp <;> omega)
         replace sb := sb.trans (k.below w.heap.size sb.size (by simp <;> omega))
         clear k
         refine pw_mv (by rfl) rfl rfl ?_
         simp only [Act.put, pu]
         refine pw_loadm (by rfl) 29 _ rfl _ (0) rfl r1.r (msC kd op key sq cl dg a1 n c1 a2 m c2) (part_all _) _ Try.underlying29 rfl size_ms ?_
         simp only [Act.put, pu]
         refine pw_callB (by rfl) 49 _ _ rfl Try.func49 (by kernel_rfl) #[.agg (msC kd op key sq cl dg a1 n c1 a2 m c2)] rfl _ ((hD _ sb).mono fun e w' ⟨he, hb⟩ => ⟨he.trans (by rw [hdl]), hb⟩) ?_
         intro z12015 k
         simp only [Act.put, pu]
         replace r1 := k.row r1 (by simp <;> omega)
         replace sb := sb.trans (k.below w.heap.size sb.size (by simp <;> omega))
         clear k
         refine pw_pick (by rfl) false (v := .bool true) rfl rfl rfl ?_
         simp only [Act.put, pu]
         refine pw_pick (by rfl) true (v := .bool true) rfl rfl rfl ?_
         simp only [Act.put, pu]
         refine pw_callC (by rfl) (45) _ _ _ rfl (#[]) rfl (Try.func45) (by kernel_rfl) #[.bool true] rfl _ (want_yes _) ?_
         intro z12018 k
         simp only [Act.put, pu]
         replace r1 := k.row r1 (by simp <;> omega)
         replace sb := sb.trans (k.below w.heap.size sb.size (by simp <;> omega))
         clear k
         refine pw_nil ?_
         go_wp2
         first | (go_ret; exact ⟨by rw [hv]; rfl, sb⟩) | exact ⟨rfl, _, results_none rfl _ _ _, by rw [hv]; rfl, sb⟩
        | false =>
         have hv : W0 = false := by rw [← hW0, wm_kn hk hop]; simp [kndB, h3, hzs, hst, h32, hbr, hdl]
         (repeat ((fail_if_success with_reducible refine rg ?_); go_step))
         refine wp_region_pw ?_
         refine pw_mv (by rfl) rfl rfl ?_
         simp only [Act.put, pu]
         refine pw_value (by rfl) (.pointer (some ⟨g1, 3, none⟩)) (exec_field 29 _ 3 rfl g1 0 rfl _ Try.underlying29 _ rfl 1 Try.sizeOf24) ?_
         simp only [Act.put, pu]
         refine pw_loadm (by rfl) 24 _ rfl _ (3) rfl r1.r (tsC sq cl) (ms_st _ _ _ _ _ _ _ _ _ _ _ _) _ Try.underlying24 rfl size_st ?_
         simp only [Act.put, pu]
         refine pw_callB (by rfl) 48 _ _ rfl Try.func48 (by kernel_rfl) #[.agg (tsC sq cl)] rfl _ ((wst_any sq cl _).mono fun e w' ⟨he, hb⟩ => ⟨he.trans (by rw [hst]), hb⟩) ?_
         intro z12003 k
         simp only [Act.put, pu]
         replace r1 := k.row r1 (by simp <;> omega)
         replace sb := sb.trans (k.below w.heap.size sb.size (by simp <;> omega))
         clear k
         refine pw_mv (by rfl) rfl rfl ?_
         simp only [Act.put, pu]
         refine pw_value (by rfl) (.pointer (some ⟨g1, 5, none⟩)) (exec_field 29 _ 4 rfl g1 0 rfl _ Try.underlying29 _ rfl 0 Try.sizeOf9) ?_
         simp only [Act.put, pu]
         refine pw_loadk (by rfl) 9 _ rfl _ (5) rfl r1.r (.string ⟨dg.toArray⟩) rfl Try.isAgg9 ?_
         simp only [Act.put, pu]
         refine pw_value (by rfl) (.int .i64 (dg.length : Nat)) (y_lenS _ _ rfl dg rfl Try.underlying9) ?_
         simp only [Act.put, pu]
         refine pw_value (by rfl) (.bool true) (x_eqI _ _ _ _ rfl .i64 (dg.length : Nat) 32 rfl rfl true h32) ?_
         simp only [Act.put, pu]
         refine pw_pick (by rfl) true (v := .bool true) rfl rfl rfl ?_
         simp only [Act.put, pu]
         refine pw_mv (by rfl) rfl rfl ?_
         simp only [Act.put, pu]
         refine pw_loadm (by rfl) 29 _ rfl _ (0) rfl r1.r (msC kd op key sq cl dg a1 n c1 a2 m c2) (part_all _) _ Try.underlying29 rfl size_ms ?_
         simp only [Act.put, pu]
         refine pw_callB (by rfl) 47 _ _ rfl Try.func47 (by kernel_rfl) #[.agg (msC kd op key sq cl dg a1 n c1 a2 m c2)] rfl _ ((wbare_any kd op key sq cl dg a1 n c1 a2 m c2 _).mono fun e w' ⟨he, hb⟩ => ⟨he.trans (by rw [hbr]), hb⟩) ?_
         intro z12012 k
         simp only [Act.put, pu]
         replace r1 := k.row r1 (by simp <;> omega)
         replace sb := sb.trans (k.below w.heap.size sb.size (by simp <;> omega))
         clear k
         refine pw_mv (by rfl) rfl rfl ?_
         simp only [Act.put, pu]
         refine pw_loadm (by rfl) 29 _ rfl _ (0) rfl r1.r (msC kd op key sq cl dg a1 n c1 a2 m c2) (part_all _) _ Try.underlying29 rfl size_ms ?_
         simp only [Act.put, pu]
         refine pw_callB (by rfl) 49 _ _ rfl Try.func49 (by kernel_rfl) #[.agg (msC kd op key sq cl dg a1 n c1 a2 m c2)] rfl _ ((hD _ sb).mono fun e w' ⟨he, hb⟩ => ⟨he.trans (by rw [hdl]), hb⟩) ?_
         intro z12015 k
         simp only [Act.put, pu]
         replace r1 := k.row r1 (by simp <;> omega)
         replace sb := sb.trans (k.below w.heap.size sb.size (by simp <;> omega))
         clear k
         refine pw_pick (by rfl) false (v := .bool false) rfl rfl rfl ?_
         simp only [Act.put, pu]
         refine pw_pick (by rfl) true (v := .bool false) rfl rfl rfl ?_
         simp only [Act.put, pu]
         refine pw_callCP (by rfl) 45 _ _ _ rfl #[] rfl Try.func45 (by kernel_rfl) #[.bool false] rfl (want_no _) ?_
         intro z12018 hb
         exact ⟨rfl, by rw [hv]; rfl, below_on sb (Nat.le_refl _) hb⟩
      | false =>
       have hv : W0 = false := by rw [← hW0, wm_kn hk hop]; simp [kndB, h3, hzs, hst, h32]
       (repeat ((fail_if_success with_reducible refine rg ?_); go_step))
       refine wp_region_pw ?_
       refine pw_mv (by rfl) rfl rfl ?_
       simp only [Act.put, pu]
       refine pw_value (by rfl) (.pointer (some ⟨g1, 3, none⟩)) (exec_field 29 _ 3 rfl g1 0 rfl _ Try.underlying29 _ rfl 1 Try.sizeOf24) ?_
       simp only [Act.put, pu]
       refine pw_loadm (by rfl) 24 _ rfl _ (3) rfl r1.r (tsC sq cl) (ms_st _ _ _ _ _ _ _ _ _ _ _ _) _ Try.underlying24 rfl size_st ?_
       simp only [Act.put, pu]
       refine pw_callB (by rfl) 48 _ _ rfl Try.func48 (by kernel_rfl) #[.agg (tsC sq cl)] rfl _ ((wst_any sq cl _).mono fun e w' ⟨he, hb⟩ => ⟨he.trans (by rw [hst]), hb⟩) ?_
       intro z12003 k
       simp only [Act.put, pu]
       replace r1 := k.row r1 (by simp <;> omega)
       replace sb := sb.trans (k.below w.heap.size sb.size (by simp <;> omega))
       clear k
       refine pw_mv (by rfl) rfl rfl ?_
       simp only [Act.put, pu]
       refine pw_value (by rfl) (.pointer (some ⟨g1, 5, none⟩)) (exec_field 29 _ 4 rfl g1 0 rfl _ Try.underlying29 _ rfl 0 Try.sizeOf9) ?_
       simp only [Act.put, pu]
       refine pw_loadk (by rfl) 9 _ rfl _ (5) rfl r1.r (.string ⟨dg.toArray⟩) rfl Try.isAgg9 ?_
       simp only [Act.put, pu]
       refine pw_value (by rfl) (.int .i64 (dg.length : Nat)) (y_lenS _ _ rfl dg rfl Try.underlying9) ?_
       simp only [Act.put, pu]
       refine pw_value (by rfl) (.bool false) (x_eqI _ _ _ _ rfl .i64 (dg.length : Nat) 32 rfl rfl false h32) ?_
       simp only [Act.put, pu]
       refine pw_pick (by rfl) true (v := .bool false) rfl rfl rfl ?_
       simp only [Act.put, pu]
       refine pw_mv (by rfl) rfl rfl ?_
       simp only [Act.put, pu]
       refine pw_skip (by rfl) ?_
       simp only [Act.put, pu]
       refine pw_skip (by rfl) ?_
       simp only [Act.put, pu]
       refine pw_skip (by rfl) ?_
       simp only [Act.put, pu]
       refine pw_skip (by rfl) ?_
       simp only [Act.put, pu]
       refine pw_skip (by rfl) ?_
       simp only [Act.put, pu]
       refine pw_skip (by rfl) ?_
       simp only [Act.put, pu]
       refine pw_pick (by rfl) false (v := .bool false) rfl rfl rfl ?_
       simp only [Act.put, pu]
       refine pw_callCP (by rfl) 45 _ _ _ rfl #[] rfl Try.func45 (by kernel_rfl) #[.bool false] rfl (want_no _) ?_
       intro z12018 hb
       exact ⟨rfl, by rw [hv]; rfl, below_on sb (Nat.le_refl _) hb⟩
     | false =>
      have hv : W0 = false := by rw [← hW0, wm_kn hk hop]; simp [kndB, h3, hzs, hst]
      (repeat ((fail_if_success with_reducible refine rg ?_); go_step))
      refine wp_region_pw ?_
      refine pw_mv (by rfl) rfl rfl ?_
      simp only [Act.put, pu]
      refine pw_value (by rfl) (.pointer (some ⟨g1, 3, none⟩)) (exec_field 29 _ 3 rfl g1 0 rfl _ Try.underlying29 _ rfl 1 Try.sizeOf24) ?_
      simp only [Act.put, pu]
      refine pw_loadm (by rfl) 24 _ rfl _ (3) rfl r1.r (tsC sq cl) (ms_st _ _ _ _ _ _ _ _ _ _ _ _) _ Try.underlying24 rfl size_st ?_
      simp only [Act.put, pu]
      refine pw_callB (by rfl) 48 _ _ rfl Try.func48 (by kernel_rfl) #[.agg (tsC sq cl)] rfl _ ((wst_any sq cl _).mono fun e w' ⟨he, hb⟩ => ⟨he.trans (by rw [hst]), hb⟩) ?_
      intro z12003 k
      simp only [Act.put, pu]
      replace r1 := k.row r1 (by simp <;> omega)
      replace sb := sb.trans (k.below w.heap.size sb.size (by simp <;> omega))
      clear k
      refine pw_mv (by rfl) rfl rfl ?_
      simp only [Act.put, pu]
      refine pw_skip (by rfl) ?_
      simp only [Act.put, pu]
      refine pw_skip (by rfl) ?_
      simp only [Act.put, pu]
      refine pw_skip (by rfl) ?_
      simp only [Act.put, pu]
      refine pw_skip (by rfl) ?_
      simp only [Act.put, pu]
      refine pw_pick (by rfl) false (v := .bool false) rfl rfl rfl ?_
      simp only [Act.put, pu]
      refine pw_mv (by rfl) rfl rfl ?_
      simp only [Act.put, pu]
      refine pw_skip (by rfl) ?_
      simp only [Act.put, pu]
      refine pw_skip (by rfl) ?_
      simp only [Act.put, pu]
      refine pw_skip (by rfl) ?_
      simp only [Act.put, pu]
      refine pw_skip (by rfl) ?_
      simp only [Act.put, pu]
      refine pw_skip (by rfl) ?_
      simp only [Act.put, pu]
      refine pw_skip (by rfl) ?_
      simp only [Act.put, pu]
      refine pw_pick (by rfl) false (v := .bool false) rfl rfl rfl ?_
      simp only [Act.put, pu]
      refine pw_callCP (by rfl) 45 _ _ _ rfl #[] rfl Try.func45 (by kernel_rfl) #[.bool false] rfl (want_no _) ?_
      intro z12018 hb
      exact ⟨rfl, by rw [hv]; rfl, below_on sb (Nat.le_refl _) hb⟩
   (repeat ((fail_if_success with_reducible refine rg ?_); go_step))
   refine wp_region_pw ?_
   refine pw_value (by rfl) (.bool false) (x_eqI _ _ _ _ rfl .i64 kd 3 rfl rfl false (decide_eq_false (by omega))) ?_
   simp only [Act.put, pu]
   refine pw_as (by rfl) rfl rfl ?_
   simp only [Act.put, pu]
   refine pw_nil ?_
   by_cases h4 : kd = 4
   ·skip
    (repeat ((fail_if_success with_reducible refine rg ?_); go_step))
    refine wp_region_pw ?_
    refine pw_value (by rfl) (.bool true) (x_eqI _ _ _ _ rfl .i64 kd 4 rfl rfl true (decide_eq_true (by omega))) ?_
    simp only [Act.put, pu]
    refine pw_as (by rfl) rfl rfl ?_
    simp only [Act.put, pu]
    refine pw_nil ?_
    cases hst : stB sq cl with
    | true =>
     cases hnl : nlB dg with
     | true =>
      cases hdl : dlB n m X with
      | true =>
       have hv : W0 = true := by rw [← hW0, wm_kn hk hop]; simp [kndB, h4, hst, hnl, hdl]
       (repeat ((fail_if_success with_reducible refine rg ?_); go_step))
       refine wp_region_pw ?_
       refine pw_mv (by rfl) rfl rfl ?_
       simp only [Act.put, pu]
       refine pw_value (by rfl) (.pointer (some ⟨g1, 3, none⟩)) (exec_field 29 _ 3 rfl g1 0 rfl _ Try.underlying29 _ rfl 1 Try.sizeOf24) ?_
       simp only [Act.put, pu]
       refine pw_loadm (by rfl) 24 _ rfl _ (3) rfl r1.r (tsC sq cl) (ms_st _ _ _ _ _ _ _ _ _ _ _ _) _ Try.underlying24 rfl size_st ?_
       simp only [Act.put, pu]
       refine pw_callB (by rfl) 48 _ _ rfl Try.func48 (by kernel_rfl) #[.agg (tsC sq cl)] rfl _ ((wst_any sq cl _).mono fun e w' ⟨he, hb⟩ => ⟨he.trans (by rw [hst]), hb⟩) ?_
       intro z15003 k
       simp only [Act.put, pu]
       replace r1 := k.row r1 (by simp <;> omega)
       replace sb := sb.trans (k.below w.heap.size sb.size (by simp <;> omega))
       clear k
       refine pw_mv (by rfl) rfl rfl ?_
       simp only [Act.put, pu]
       refine pw_value (by rfl) (.pointer (some ⟨g1, 5, none⟩)) (exec_field 29 _ 4 rfl g1 0 rfl _ Try.underlying29 _ rfl 0 Try.sizeOf9) ?_
       simp only [Act.put, pu]
       refine pw_loadk (by rfl) 9 _ rfl _ (5) rfl r1.r (.string ⟨dg.toArray⟩) rfl Try.isAgg9 ?_
       simp only [Act.put, pu]
       refine pw_value (by rfl) (.bool true) (y_eqS _ _ _ _ rfl dg [] rfl rfl true hnl) ?_
       simp only [Act.put, pu]
       refine pw_pick (by rfl) true (v := .bool true) rfl rfl rfl ?_
       simp only [Act.put, pu]
       refine pw_mv (by rfl) rfl rfl ?_
       simp only [Act.put, pu]
       refine pw_loadm (by rfl) 29 _ rfl _ (0) rfl r1.r (msC kd op key sq cl dg a1 n c1 a2 m c2) (part_all _) _ Try.underlying29 rfl size_ms ?_
       simp only [Act.put, pu]
       refine pw_callB (by rfl) 49 _ _ rfl Try.func49 (by kernel_rfl) #[.agg (msC kd op key sq cl dg a1 n c1 a2 m c2)] rfl _ ((hD _ sb).mono fun e w' ⟨he, hb⟩ => ⟨he.trans (by rw [hdl]), hb⟩) ?_
       intro z15011 k
       simp only [Act.put, pu]
       replace r1 := k.row r1 (by simp <;> omega)
       replace sb := sb.trans (k.below w.heap.size sb.size (by simp <;> omega))
       clear k
       refine pw_pick (by rfl) true (v := .bool true) rfl rfl rfl ?_
       simp only [Act.put, pu]
       refine pw_callC (by rfl) (45) _ _ _ rfl (#[]) rfl (Try.func45) (by kernel_rfl) #[.bool true] rfl _ (want_yes _) ?_
       intro z15013 k
       simp only [Act.put, pu]
       replace r1 := k.row r1 (by simp <;> omega)
       replace sb := sb.trans (k.below w.heap.size sb.size (by simp <;> omega))
       clear k
       refine pw_nil ?_
       go_wp2
       first | (go_ret; exact ⟨by rw [hv]; rfl, sb⟩) | exact ⟨rfl, _, results_none rfl _ _ _, by rw [hv]; rfl, sb⟩
      | false =>
       have hv : W0 = false := by rw [← hW0, wm_kn hk hop]; simp [kndB, h4, hst, hnl, hdl]
       (repeat ((fail_if_success with_reducible refine rg ?_); go_step))
       refine wp_region_pw ?_
       refine pw_mv (by rfl) rfl rfl ?_
       simp only [Act.put, pu]
       refine pw_value (by rfl) (.pointer (some ⟨g1, 3, none⟩)) (exec_field 29 _ 3 rfl g1 0 rfl _ Try.underlying29 _ rfl 1 Try.sizeOf24) ?_
       simp only [Act.put, pu]
       refine pw_loadm (by rfl) 24 _ rfl _ (3) rfl r1.r (tsC sq cl) (ms_st _ _ _ _ _ _ _ _ _ _ _ _) _ Try.underlying24 rfl size_st ?_
       simp only [Act.put, pu]
       refine pw_callB (by rfl) 48 _ _ rfl Try.func48 (by kernel_rfl) #[.agg (tsC sq cl)] rfl _ ((wst_any sq cl _).mono fun e w' ⟨he, hb⟩ => ⟨he.trans (by rw [hst]), hb⟩) ?_
       intro z15003 k
       simp only [Act.put, pu]
       replace r1 := k.row r1 (by simp <;> omega)
       replace sb := sb.trans (k.below w.heap.size sb.size (by simp <;> omega))
       clear k
       refine pw_mv (by rfl) rfl rfl ?_
       simp only [Act.put, pu]
       refine pw_value (by rfl) (.pointer (some ⟨g1, 5, none⟩)) (exec_field 29 _ 4 rfl g1 0 rfl _ Try.underlying29 _ rfl 0 Try.sizeOf9) ?_
       simp only [Act.put, pu]
       refine pw_loadk (by rfl) 9 _ rfl _ (5) rfl r1.r (.string ⟨dg.toArray⟩) rfl Try.isAgg9 ?_
       simp only [Act.put, pu]
       refine pw_value (by rfl) (.bool true) (y_eqS _ _ _ _ rfl dg [] rfl rfl true hnl) ?_
       simp only [Act.put, pu]
       refine pw_pick (by rfl) true (v := .bool true) rfl rfl rfl ?_
       simp only [Act.put, pu]
       refine pw_mv (by rfl) rfl rfl ?_
       simp only [Act.put, pu]
       refine pw_loadm (by rfl) 29 _ rfl _ (0) rfl r1.r (msC kd op key sq cl dg a1 n c1 a2 m c2) (part_all _) _ Try.underlying29 rfl size_ms ?_
       simp only [Act.put, pu]
       refine pw_callB (by rfl) 49 _ _ rfl Try.func49 (by kernel_rfl) #[.agg (msC kd op key sq cl dg a1 n c1 a2 m c2)] rfl _ ((hD _ sb).mono fun e w' ⟨he, hb⟩ => ⟨he.trans (by rw [hdl]), hb⟩) ?_
       intro z15011 k
       simp only [Act.put, pu]
       replace r1 := k.row r1 (by simp <;> omega)
       replace sb := sb.trans (k.below w.heap.size sb.size (by simp <;> omega))
       clear k
       refine pw_pick (by rfl) true (v := .bool false) rfl rfl rfl ?_
       simp only [Act.put, pu]
       refine pw_callCP (by rfl) 45 _ _ _ rfl #[] rfl Try.func45 (by kernel_rfl) #[.bool false] rfl (want_no _) ?_
       intro z15013 hb
       exact ⟨rfl, by rw [hv]; rfl, below_on sb (Nat.le_refl _) hb⟩
     | false =>
      have hv : W0 = false := by rw [← hW0, wm_kn hk hop]; simp [kndB, h4, hst, hnl]
      (repeat ((fail_if_success with_reducible refine rg ?_); go_step))
      refine wp_region_pw ?_
      refine pw_mv (by rfl) rfl rfl ?_
      simp only [Act.put, pu]
      refine pw_value (by rfl) (.pointer (some ⟨g1, 3, none⟩)) (exec_field 29 _ 3 rfl g1 0 rfl _ Try.underlying29 _ rfl 1 Try.sizeOf24) ?_
      simp only [Act.put, pu]
      refine pw_loadm (by rfl) 24 _ rfl _ (3) rfl r1.r (tsC sq cl) (ms_st _ _ _ _ _ _ _ _ _ _ _ _) _ Try.underlying24 rfl size_st ?_
      simp only [Act.put, pu]
      refine pw_callB (by rfl) 48 _ _ rfl Try.func48 (by kernel_rfl) #[.agg (tsC sq cl)] rfl _ ((wst_any sq cl _).mono fun e w' ⟨he, hb⟩ => ⟨he.trans (by rw [hst]), hb⟩) ?_
      intro z15003 k
      simp only [Act.put, pu]
      replace r1 := k.row r1 (by simp <;> omega)
      replace sb := sb.trans (k.below w.heap.size sb.size (by simp <;> omega))
      clear k
      refine pw_mv (by rfl) rfl rfl ?_
      simp only [Act.put, pu]
      refine pw_value (by rfl) (.pointer (some ⟨g1, 5, none⟩)) (exec_field 29 _ 4 rfl g1 0 rfl _ Try.underlying29 _ rfl 0 Try.sizeOf9) ?_
      simp only [Act.put, pu]
      refine pw_loadk (by rfl) 9 _ rfl _ (5) rfl r1.r (.string ⟨dg.toArray⟩) rfl Try.isAgg9 ?_
      simp only [Act.put, pu]
      refine pw_value (by rfl) (.bool false) (y_eqS _ _ _ _ rfl dg [] rfl rfl false hnl) ?_
      simp only [Act.put, pu]
      refine pw_pick (by rfl) true (v := .bool false) rfl rfl rfl ?_
      simp only [Act.put, pu]
      refine pw_mv (by rfl) rfl rfl ?_
      simp only [Act.put, pu]
      refine pw_skip (by rfl) ?_
      simp only [Act.put, pu]
      refine pw_skip (by rfl) ?_
      simp only [Act.put, pu]
      refine pw_pick (by rfl) false (v := .bool false) rfl rfl rfl ?_
      simp only [Act.put, pu]
      refine pw_callCP (by rfl) 45 _ _ _ rfl #[] rfl Try.func45 (by kernel_rfl) #[.bool false] rfl (want_no _) ?_
      intro z15013 hb
      exact ⟨rfl, by rw [hv]; rfl, below_on sb (Nat.le_refl _) hb⟩
    | false =>
     have hv : W0 = false := by rw [← hW0, wm_kn hk hop]; simp [kndB, h4, hst]
     (repeat ((fail_if_success with_reducible refine rg ?_); go_step))
     refine wp_region_pw ?_
     refine pw_mv (by rfl) rfl rfl ?_
     simp only [Act.put, pu]
     refine pw_value (by rfl) (.pointer (some ⟨g1, 3, none⟩)) (exec_field 29 _ 3 rfl g1 0 rfl _ Try.underlying29 _ rfl 1 Try.sizeOf24) ?_
     simp only [Act.put, pu]
     refine pw_loadm (by rfl) 24 _ rfl _ (3) rfl r1.r (tsC sq cl) (ms_st _ _ _ _ _ _ _ _ _ _ _ _) _ Try.underlying24 rfl size_st ?_
     simp only [Act.put, pu]
     refine pw_callB (by rfl) 48 _ _ rfl Try.func48 (by kernel_rfl) #[.agg (tsC sq cl)] rfl _ ((wst_any sq cl _).mono fun e w' ⟨he, hb⟩ => ⟨he.trans (by rw [hst]), hb⟩) ?_
     intro z15003 k
     simp only [Act.put, pu]
     replace r1 := k.row r1 (by simp <;> omega)
     replace sb := sb.trans (k.below w.heap.size sb.size (by simp <;> omega))
     clear k
     refine pw_mv (by rfl) rfl rfl ?_
     simp only [Act.put, pu]
     refine pw_skip (by rfl) ?_
     simp only [Act.put, pu]
     refine pw_skip (by rfl) ?_
     simp only [Act.put, pu]
     refine pw_skip (by rfl) ?_
     simp only [Act.put, pu]
     refine pw_pick (by rfl) false (v := .bool false) rfl rfl rfl ?_
     simp only [Act.put, pu]
     refine pw_mv (by rfl) rfl rfl ?_
     simp only [Act.put, pu]
     refine pw_skip (by rfl) ?_
     simp only [Act.put, pu]
     refine pw_skip (by rfl) ?_
     simp only [Act.put, pu]
     refine pw_pick (by rfl) false (v := .bool false) rfl rfl rfl ?_
     simp only [Act.put, pu]
     refine pw_callCP (by rfl) 45 _ _ _ rfl #[] rfl Try.func45 (by kernel_rfl) #[.bool false] rfl (want_no _) ?_
     intro z15013 hb
     exact ⟨rfl, by rw [hv]; rfl, below_on sb (Nat.le_refl _) hb⟩
   (repeat ((fail_if_success with_reducible refine rg ?_); go_step))
   refine wp_region_pw ?_
   refine pw_value (by rfl) (.bool false) (x_eqI _ _ _ _ rfl .i64 kd 4 rfl rfl false (decide_eq_false (by omega))) ?_
   simp only [Act.put, pu]
   refine pw_as (by rfl) rfl rfl ?_
   simp only [Act.put, pu]
   refine pw_nil ?_
   by_cases h8 : kd = 8
   ·skip
    (repeat ((fail_if_success with_reducible refine rg ?_); go_step))
    refine wp_region_pw ?_
    refine pw_value (by rfl) (.bool true) (x_eqI _ _ _ _ rfl .i64 kd 8 rfl rfl true (decide_eq_true (by omega))) ?_
    simp only [Act.put, pu]
    refine pw_as (by rfl) rfl rfl ?_
    simp only [Act.put, pu]
    refine pw_nil ?_
    cases hst : stB sq cl with
    | true =>
     cases hnl : nlB dg with
     | true =>
      cases hdl : dlB n m X with
      | true =>
       have hv : W0 = true := by rw [← hW0, wm_kn hk hop]; simp [kndB, h8, hst, hnl, hdl]
       (repeat ((fail_if_success with_reducible refine rg ?_); go_step))
       refine wp_region_pw ?_
       refine pw_mv (by rfl) rfl rfl ?_
       simp only [Act.put, pu]
       refine pw_value (by rfl) (.pointer (some ⟨g1, 3, none⟩)) (exec_field 29 _ 3 rfl g1 0 rfl _ Try.underlying29 _ rfl 1 Try.sizeOf24) ?_
       simp only [Act.put, pu]
       refine pw_loadm (by rfl) 24 _ rfl _ (3) rfl r1.r (tsC sq cl) (ms_st _ _ _ _ _ _ _ _ _ _ _ _) _ Try.underlying24 rfl size_st ?_
       simp only [Act.put, pu]
       refine pw_callB (by rfl) 48 _ _ rfl Try.func48 (by kernel_rfl) #[.agg (tsC sq cl)] rfl _ ((wst_any sq cl _).mono fun e w' ⟨he, hb⟩ => ⟨he.trans (by rw [hst]), hb⟩) ?_
       intro z15003 k
       simp only [Act.put, pu]
       replace r1 := k.row r1 (by simp <;> omega)
       replace sb := sb.trans (k.below w.heap.size sb.size (by simp <;> omega))
       clear k
       refine pw_mv (by rfl) rfl rfl ?_
       simp only [Act.put, pu]
       refine pw_value (by rfl) (.pointer (some ⟨g1, 5, none⟩)) (exec_field 29 _ 4 rfl g1 0 rfl _ Try.underlying29 _ rfl 0 Try.sizeOf9) ?_
       simp only [Act.put, pu]
       refine pw_loadk (by rfl) 9 _ rfl _ (5) rfl r1.r (.string ⟨dg.toArray⟩) rfl Try.isAgg9 ?_
       simp only [Act.put, pu]
       refine pw_value (by rfl) (.bool true) (y_eqS _ _ _ _ rfl dg [] rfl rfl true hnl) ?_
       simp only [Act.put, pu]
       refine pw_pick (by rfl) true (v := .bool true) rfl rfl rfl ?_
       simp only [Act.put, pu]
       refine pw_mv (by rfl) rfl rfl ?_
       simp only [Act.put, pu]
       refine pw_loadm (by rfl) 29 _ rfl _ (0) rfl r1.r (msC kd op key sq cl dg a1 n c1 a2 m c2) (part_all _) _ Try.underlying29 rfl size_ms ?_
       simp only [Act.put, pu]
       refine pw_callB (by rfl) 49 _ _ rfl Try.func49 (by kernel_rfl) #[.agg (msC kd op key sq cl dg a1 n c1 a2 m c2)] rfl _ ((hD _ sb).mono fun e w' ⟨he, hb⟩ => ⟨he.trans (by rw [hdl]), hb⟩) ?_
       intro z15011 k
       simp only [Act.put, pu]
       replace r1 := k.row r1 (by simp <;> omega)
       replace sb := sb.trans (k.below w.heap.size sb.size (by simp <;> omega))
       clear k
       refine pw_pick (by rfl) true (v := .bool true) rfl rfl rfl ?_
       simp only [Act.put, pu]
       refine pw_callC (by rfl) (45) _ _ _ rfl (#[]) rfl (Try.func45) (by kernel_rfl) #[.bool true] rfl _ (want_yes _) ?_
       intro z15013 k
       simp only [Act.put, pu]
       replace r1 := k.row r1 (by simp <;> omega)
       replace sb := sb.trans (k.below w.heap.size sb.size (by simp <;> omega))
       clear k
       refine pw_nil ?_
       go_wp2
       first | (go_ret; exact ⟨by rw [hv]; rfl, sb⟩) | exact ⟨rfl, _, results_none rfl _ _ _, by rw [hv]; rfl, sb⟩
      | false =>
       have hv : W0 = false := by rw [← hW0, wm_kn hk hop]; simp [kndB, h8, hst, hnl, hdl]
       (repeat ((fail_if_success with_reducible refine rg ?_); go_step))
       refine wp_region_pw ?_
       refine pw_mv (by rfl) rfl rfl ?_
       simp only [Act.put, pu]
       refine pw_value (by rfl) (.pointer (some ⟨g1, 3, none⟩)) (exec_field 29 _ 3 rfl g1 0 rfl _ Try.underlying29 _ rfl 1 Try.sizeOf24) ?_
       simp only [Act.put, pu]
       refine pw_loadm (by rfl) 24 _ rfl _ (3) rfl r1.r (tsC sq cl) (ms_st _ _ _ _ _ _ _ _ _ _ _ _) _ Try.underlying24 rfl size_st ?_
       simp only [Act.put, pu]
       refine pw_callB (by rfl) 48 _ _ rfl Try.func48 (by kernel_rfl) #[.agg (tsC sq cl)] rfl _ ((wst_any sq cl _).mono fun e w' ⟨he, hb⟩ => ⟨he.trans (by rw [hst]), hb⟩) ?_
       intro z15003 k
       simp only [Act.put, pu]
       replace r1 := k.row r1 (by simp <;> omega)
       replace sb := sb.trans (k.below w.heap.size sb.size (by simp <;> omega))
       clear k
       refine pw_mv (by rfl) rfl rfl ?_
       simp only [Act.put, pu]
       refine pw_value (by rfl) (.pointer (some ⟨g1, 5, none⟩)) (exec_field 29 _ 4 rfl g1 0 rfl _ Try.underlying29 _ rfl 0 Try.sizeOf9) ?_
       simp only [Act.put, pu]
       refine pw_loadk (by rfl) 9 _ rfl _ (5) rfl r1.r (.string ⟨dg.toArray⟩) rfl Try.isAgg9 ?_
       simp only [Act.put, pu]
       refine pw_value (by rfl) (.bool true) (y_eqS _ _ _ _ rfl dg [] rfl rfl true hnl) ?_
       simp only [Act.put, pu]
       refine pw_pick (by rfl) true (v := .bool true) rfl rfl rfl ?_
       simp only [Act.put, pu]
       refine pw_mv (by rfl) rfl rfl ?_
       simp only [Act.put, pu]
       refine pw_loadm (by rfl) 29 _ rfl _ (0) rfl r1.r (msC kd op key sq cl dg a1 n c1 a2 m c2) (part_all _) _ Try.underlying29 rfl size_ms ?_
       simp only [Act.put, pu]
       refine pw_callB (by rfl) 49 _ _ rfl Try.func49 (by kernel_rfl) #[.agg (msC kd op key sq cl dg a1 n c1 a2 m c2)] rfl _ ((hD _ sb).mono fun e w' ⟨he, hb⟩ => ⟨he.trans (by rw [hdl]), hb⟩) ?_
       intro z15011 k
       simp only [Act.put, pu]
       replace r1 := k.row r1 (by simp <;> omega)
       replace sb := sb.trans (k.below w.heap.size sb.size (by simp <;> omega))
       clear k
       refine pw_pick (by rfl) true (v := .bool false) rfl rfl rfl ?_
       simp only [Act.put, pu]
       refine pw_callCP (by rfl) 45 _ _ _ rfl #[] rfl Try.func45 (by kernel_rfl) #[.bool false] rfl (want_no _) ?_
       intro z15013 hb
       exact ⟨rfl, by rw [hv]; rfl, below_on sb (Nat.le_refl _) hb⟩
     | false =>
      have hv : W0 = false := by rw [← hW0, wm_kn hk hop]; simp [kndB, h8, hst, hnl]
      (repeat ((fail_if_success with_reducible refine rg ?_); go_step))
      refine wp_region_pw ?_
      refine pw_mv (by rfl) rfl rfl ?_
      simp only [Act.put, pu]
      refine pw_value (by rfl) (.pointer (some ⟨g1, 3, none⟩)) (exec_field 29 _ 3 rfl g1 0 rfl _ Try.underlying29 _ rfl 1 Try.sizeOf24) ?_
      simp only [Act.put, pu]
      refine pw_loadm (by rfl) 24 _ rfl _ (3) rfl r1.r (tsC sq cl) (ms_st _ _ _ _ _ _ _ _ _ _ _ _) _ Try.underlying24 rfl size_st ?_
      simp only [Act.put, pu]
      refine pw_callB (by rfl) 48 _ _ rfl Try.func48 (by kernel_rfl) #[.agg (tsC sq cl)] rfl _ ((wst_any sq cl _).mono fun e w' ⟨he, hb⟩ => ⟨he.trans (by rw [hst]), hb⟩) ?_
      intro z15003 k
      simp only [Act.put, pu]
      replace r1 := k.row r1 (by simp <;> omega)
      replace sb := sb.trans (k.below w.heap.size sb.size (by simp <;> omega))
      clear k
      refine pw_mv (by rfl) rfl rfl ?_
      simp only [Act.put, pu]
      refine pw_value (by rfl) (.pointer (some ⟨g1, 5, none⟩)) (exec_field 29 _ 4 rfl g1 0 rfl _ Try.underlying29 _ rfl 0 Try.sizeOf9) ?_
      simp only [Act.put, pu]
      refine pw_loadk (by rfl) 9 _ rfl _ (5) rfl r1.r (.string ⟨dg.toArray⟩) rfl Try.isAgg9 ?_
      simp only [Act.put, pu]
      refine pw_value (by rfl) (.bool false) (y_eqS _ _ _ _ rfl dg [] rfl rfl false hnl) ?_
      simp only [Act.put, pu]
      refine pw_pick (by rfl) true (v := .bool false) rfl rfl rfl ?_
      simp only [Act.put, pu]
      refine pw_mv (by rfl) rfl rfl ?_
      simp only [Act.put, pu]
      refine pw_skip (by rfl) ?_
      simp only [Act.put, pu]
      refine pw_skip (by rfl) ?_
      simp only [Act.put, pu]
      refine pw_pick (by rfl) false (v := .bool false) rfl rfl rfl ?_
      simp only [Act.put, pu]
      refine pw_callCP (by rfl) 45 _ _ _ rfl #[] rfl Try.func45 (by kernel_rfl) #[.bool false] rfl (want_no _) ?_
      intro z15013 hb
      exact ⟨rfl, by rw [hv]; rfl, below_on sb (Nat.le_refl _) hb⟩
    | false =>
     have hv : W0 = false := by rw [← hW0, wm_kn hk hop]; simp [kndB, h8, hst]
     (repeat ((fail_if_success with_reducible refine rg ?_); go_step))
     refine wp_region_pw ?_
     refine pw_mv (by rfl) rfl rfl ?_
     simp only [Act.put, pu]
     refine pw_value (by rfl) (.pointer (some ⟨g1, 3, none⟩)) (exec_field 29 _ 3 rfl g1 0 rfl _ Try.underlying29 _ rfl 1 Try.sizeOf24) ?_
     simp only [Act.put, pu]
     refine pw_loadm (by rfl) 24 _ rfl _ (3) rfl r1.r (tsC sq cl) (ms_st _ _ _ _ _ _ _ _ _ _ _ _) _ Try.underlying24 rfl size_st ?_
     simp only [Act.put, pu]
     refine pw_callB (by rfl) 48 _ _ rfl Try.func48 (by kernel_rfl) #[.agg (tsC sq cl)] rfl _ ((wst_any sq cl _).mono fun e w' ⟨he, hb⟩ => ⟨he.trans (by rw [hst]), hb⟩) ?_
     intro z15003 k
     simp only [Act.put, pu]
     replace r1 := k.row r1 (by simp <;> omega)
     replace sb := sb.trans (k.below w.heap.size sb.size (by simp <;> omega))
     clear k
     refine pw_mv (by rfl) rfl rfl ?_
     simp only [Act.put, pu]
     refine pw_skip (by rfl) ?_
     simp only [Act.put, pu]
     refine pw_skip (by rfl) ?_
     simp only [Act.put, pu]
     refine pw_skip (by rfl) ?_
     simp only [Act.put, pu]
     refine pw_pick (by rfl) false (v := .bool false) rfl rfl rfl ?_
     simp only [Act.put, pu]
     refine pw_mv (by rfl) rfl rfl ?_
     simp only [Act.put, pu]
     refine pw_skip (by rfl) ?_
     simp only [Act.put, pu]
     refine pw_skip (by rfl) ?_
     simp only [Act.put, pu]
     refine pw_pick (by rfl) false (v := .bool false) rfl rfl rfl ?_
     simp only [Act.put, pu]
     refine pw_callCP (by rfl) 45 _ _ _ rfl #[] rfl Try.func45 (by kernel_rfl) #[.bool false] rfl (want_no _) ?_
     intro z15013 hb
     exact ⟨rfl, by rw [hv]; rfl, below_on sb (Nat.le_refl _) hb⟩
   (repeat ((fail_if_success with_reducible refine rg ?_); go_step))
   refine wp_region_pw ?_
   refine pw_value (by rfl) (.bool false) (x_eqI _ _ _ _ rfl .i64 kd 8 rfl rfl false (decide_eq_false (by omega))) ?_
   simp only [Act.put, pu]
   refine pw_as (by rfl) rfl rfl ?_
   simp only [Act.put, pu]
   refine pw_nil ?_
   by_cases h5 : kd = 5
   ·skip
    (repeat ((fail_if_success with_reducible refine rg ?_); go_step))
    refine wp_region_pw ?_
    refine pw_value (by rfl) (.bool true) (x_eqI _ _ _ _ rfl .i64 kd 5 rfl rfl true (decide_eq_true (by omega))) ?_
    simp only [Act.put, pu]
    refine pw_as (by rfl) rfl rfl ?_
    simp only [Act.put, pu]
    refine pw_nil ?_
    cases hst : stB sq cl with
    | true =>
     cases h32 : g32 dg with
     | true =>
      cases hbr : brB n m with
      | true =>
       have hv : W0 = true := by rw [← hW0, wm_kn hk hop]; simp [kndB, h5, hst, h32, hbr]
       (repeat ((fail_if_success with_reducible refine rg ?_); go_step))
       refine wp_region_pw ?_
       refine pw_mv (by rfl) rfl rfl ?_
       simp only [Act.put, pu]
       refine pw_value (by rfl) (.pointer (some ⟨g1, 3, none⟩)) (exec_field 29 _ 3 rfl g1 0 rfl _ Try.underlying29 _ rfl 1 Try.sizeOf24) ?_
       simp only [Act.put, pu]
       refine pw_loadm (by rfl) 24 _ rfl _ (3) rfl r1.r (tsC sq cl) (ms_st _ _ _ _ _ _ _ _ _ _ _ _) _ Try.underlying24 rfl size_st ?_
       simp only [Act.put, pu]
       refine pw_callB (by rfl) 48 _ _ rfl Try.func48 (by kernel_rfl) #[.agg (tsC sq cl)] rfl _ ((wst_any sq cl _).mono fun e w' ⟨he, hb⟩ => ⟨he.trans (by rw [hst]), hb⟩) ?_
       intro z18003 k
       simp only [Act.put, pu]
       replace r1 := k.row r1 (by simp <;> omega)
       replace sb := sb.trans (k.below w.heap.size sb.size (by simp <;> omega))
       clear k
       refine pw_mv (by rfl) rfl rfl ?_
       simp only [Act.put, pu]
       refine pw_value (by rfl) (.pointer (some ⟨g1, 5, none⟩)) (exec_field 29 _ 4 rfl g1 0 rfl _ Try.underlying29 _ rfl 0 Try.sizeOf9) ?_
       simp only [Act.put, pu]
       refine pw_loadk (by rfl) 9 _ rfl _ (5) rfl r1.r (.string ⟨dg.toArray⟩) rfl Try.isAgg9 ?_
       simp only [Act.put, pu]
       refine pw_value (by rfl) (.int .i64 (dg.length : Nat)) (y_lenS _ _ rfl dg rfl Try.underlying9) ?_
       simp only [Act.put, pu]
       refine pw_value (by rfl) (.bool true) (x_eqI _ _ _ _ rfl .i64 (dg.length : Nat) 32 rfl rfl true h32) ?_
       simp only [Act.put, pu]
       refine pw_pick (by rfl) true (v := .bool true) rfl rfl rfl ?_
       simp only [Act.put, pu]
       refine pw_mv (by rfl) rfl rfl ?_
       simp only [Act.put, pu]
       refine pw_loadm (by rfl) 29 _ rfl _ (0) rfl r1.r (msC kd op key sq cl dg a1 n c1 a2 m c2) (part_all _) _ Try.underlying29 rfl size_ms ?_
       simp only [Act.put, pu]
       refine pw_callB (by rfl) 47 _ _ rfl Try.func47 (by kernel_rfl) #[.agg (msC kd op key sq cl dg a1 n c1 a2 m c2)] rfl _ ((wbare_any kd op key sq cl dg a1 n c1 a2 m c2 _).mono fun e w' ⟨he, hb⟩ => ⟨he.trans (by rw [hbr]), hb⟩) ?_
       intro z18012 k
       simp only [Act.put, pu]
       replace r1 := k.row r1 (by simp <;> omega)
       replace sb := sb.trans (k.below w.heap.size sb.size (by simp <;> omega))
       clear k
       refine pw_pick (by rfl) true (v := .bool true) rfl rfl rfl ?_
       simp only [Act.put, pu]
       refine pw_callC (by rfl) (45) _ _ _ rfl (#[]) rfl (Try.func45) (by kernel_rfl) #[.bool true] rfl _ (want_yes _) ?_
       intro z18014 k
       simp only [Act.put, pu]
       replace r1 := k.row r1 (by simp <;> omega)
       replace sb := sb.trans (k.below w.heap.size sb.size (by simp <;> omega))
       clear k
       refine pw_nil ?_
       go_wp2
       first | (go_ret; exact ⟨by rw [hv]; rfl, sb⟩) | exact ⟨rfl, _, results_none rfl _ _ _, by rw [hv]; rfl, sb⟩
      | false =>
       have hv : W0 = false := by rw [← hW0, wm_kn hk hop]; simp [kndB, h5, hst, h32, hbr]
       (repeat ((fail_if_success with_reducible refine rg ?_); go_step))
       refine wp_region_pw ?_
       refine pw_mv (by rfl) rfl rfl ?_
       simp only [Act.put, pu]
       refine pw_value (by rfl) (.pointer (some ⟨g1, 3, none⟩)) (exec_field 29 _ 3 rfl g1 0 rfl _ Try.underlying29 _ rfl 1 Try.sizeOf24) ?_
       simp only [Act.put, pu]
       refine pw_loadm (by rfl) 24 _ rfl _ (3) rfl r1.r (tsC sq cl) (ms_st _ _ _ _ _ _ _ _ _ _ _ _) _ Try.underlying24 rfl size_st ?_
       simp only [Act.put, pu]
       refine pw_callB (by rfl) 48 _ _ rfl Try.func48 (by kernel_rfl) #[.agg (tsC sq cl)] rfl _ ((wst_any sq cl _).mono fun e w' ⟨he, hb⟩ => ⟨he.trans (by rw [hst]), hb⟩) ?_
       intro z18003 k
       simp only [Act.put, pu]
       replace r1 := k.row r1 (by simp <;> omega)
       replace sb := sb.trans (k.below w.heap.size sb.size (by simp <;> omega))
       clear k
       refine pw_mv (by rfl) rfl rfl ?_
       simp only [Act.put, pu]
       refine pw_value (by rfl) (.pointer (some ⟨g1, 5, none⟩)) (exec_field 29 _ 4 rfl g1 0 rfl _ Try.underlying29 _ rfl 0 Try.sizeOf9) ?_
       simp only [Act.put, pu]
       refine pw_loadk (by rfl) 9 _ rfl _ (5) rfl r1.r (.string ⟨dg.toArray⟩) rfl Try.isAgg9 ?_
       simp only [Act.put, pu]
       refine pw_value (by rfl) (.int .i64 (dg.length : Nat)) (y_lenS _ _ rfl dg rfl Try.underlying9) ?_
       simp only [Act.put, pu]
       refine pw_value (by rfl) (.bool true) (x_eqI _ _ _ _ rfl .i64 (dg.length : Nat) 32 rfl rfl true h32) ?_
       simp only [Act.put, pu]
       refine pw_pick (by rfl) true (v := .bool true) rfl rfl rfl ?_
       simp only [Act.put, pu]
       refine pw_mv (by rfl) rfl rfl ?_
       simp only [Act.put, pu]
       refine pw_loadm (by rfl) 29 _ rfl _ (0) rfl r1.r (msC kd op key sq cl dg a1 n c1 a2 m c2) (part_all _) _ Try.underlying29 rfl size_ms ?_
       simp only [Act.put, pu]
       refine pw_callB (by rfl) 47 _ _ rfl Try.func47 (by kernel_rfl) #[.agg (msC kd op key sq cl dg a1 n c1 a2 m c2)] rfl _ ((wbare_any kd op key sq cl dg a1 n c1 a2 m c2 _).mono fun e w' ⟨he, hb⟩ => ⟨he.trans (by rw [hbr]), hb⟩) ?_
       intro z18012 k
       simp only [Act.put, pu]
       replace r1 := k.row r1 (by simp <;> omega)
       replace sb := sb.trans (k.below w.heap.size sb.size (by simp <;> omega))
       clear k
       refine pw_pick (by rfl) true (v := .bool false) rfl rfl rfl ?_
       simp only [Act.put, pu]
       refine pw_callCP (by rfl) 45 _ _ _ rfl #[] rfl Try.func45 (by kernel_rfl) #[.bool false] rfl (want_no _) ?_
       intro z18014 hb
       exact ⟨rfl, by rw [hv]; rfl, below_on sb (Nat.le_refl _) hb⟩
     | false =>
      have hv : W0 = false := by rw [← hW0, wm_kn hk hop]; simp [kndB, h5, hst, h32]
      (repeat ((fail_if_success with_reducible refine rg ?_); go_step))
      refine wp_region_pw ?_
      refine pw_mv (by rfl) rfl rfl ?_
      simp only [Act.put, pu]
      refine pw_value (by rfl) (.pointer (some ⟨g1, 3, none⟩)) (exec_field 29 _ 3 rfl g1 0 rfl _ Try.underlying29 _ rfl 1 Try.sizeOf24) ?_
      simp only [Act.put, pu]
      refine pw_loadm (by rfl) 24 _ rfl _ (3) rfl r1.r (tsC sq cl) (ms_st _ _ _ _ _ _ _ _ _ _ _ _) _ Try.underlying24 rfl size_st ?_
      simp only [Act.put, pu]
      refine pw_callB (by rfl) 48 _ _ rfl Try.func48 (by kernel_rfl) #[.agg (tsC sq cl)] rfl _ ((wst_any sq cl _).mono fun e w' ⟨he, hb⟩ => ⟨he.trans (by rw [hst]), hb⟩) ?_
      intro z18003 k
      simp only [Act.put, pu]
      replace r1 := k.row r1 (by simp <;> omega)
      replace sb := sb.trans (k.below w.heap.size sb.size (by simp <;> omega))
      clear k
      refine pw_mv (by rfl) rfl rfl ?_
      simp only [Act.put, pu]
      refine pw_value (by rfl) (.pointer (some ⟨g1, 5, none⟩)) (exec_field 29 _ 4 rfl g1 0 rfl _ Try.underlying29 _ rfl 0 Try.sizeOf9) ?_
      simp only [Act.put, pu]
      refine pw_loadk (by rfl) 9 _ rfl _ (5) rfl r1.r (.string ⟨dg.toArray⟩) rfl Try.isAgg9 ?_
      simp only [Act.put, pu]
      refine pw_value (by rfl) (.int .i64 (dg.length : Nat)) (y_lenS _ _ rfl dg rfl Try.underlying9) ?_
      simp only [Act.put, pu]
      refine pw_value (by rfl) (.bool false) (x_eqI _ _ _ _ rfl .i64 (dg.length : Nat) 32 rfl rfl false h32) ?_
      simp only [Act.put, pu]
      refine pw_pick (by rfl) true (v := .bool false) rfl rfl rfl ?_
      simp only [Act.put, pu]
      refine pw_mv (by rfl) rfl rfl ?_
      simp only [Act.put, pu]
      refine pw_skip (by rfl) ?_
      simp only [Act.put, pu]
      refine pw_skip (by rfl) ?_
      simp only [Act.put, pu]
      refine pw_pick (by rfl) false (v := .bool false) rfl rfl rfl ?_
      simp only [Act.put, pu]
      refine pw_callCP (by rfl) 45 _ _ _ rfl #[] rfl Try.func45 (by kernel_rfl) #[.bool false] rfl (want_no _) ?_
      intro z18014 hb
      exact ⟨rfl, by rw [hv]; rfl, below_on sb (Nat.le_refl _) hb⟩
    | false =>
     have hv : W0 = false := by rw [← hW0, wm_kn hk hop]; simp [kndB, h5, hst]
     (repeat ((fail_if_success with_reducible refine rg ?_); go_step))
     refine wp_region_pw ?_
     refine pw_mv (by rfl) rfl rfl ?_
     simp only [Act.put, pu]
     refine pw_value (by rfl) (.pointer (some ⟨g1, 3, none⟩)) (exec_field 29 _ 3 rfl g1 0 rfl _ Try.underlying29 _ rfl 1 Try.sizeOf24) ?_
     simp only [Act.put, pu]
     refine pw_loadm (by rfl) 24 _ rfl _ (3) rfl r1.r (tsC sq cl) (ms_st _ _ _ _ _ _ _ _ _ _ _ _) _ Try.underlying24 rfl size_st ?_
     simp only [Act.put, pu]
     refine pw_callB (by rfl) 48 _ _ rfl Try.func48 (by kernel_rfl) #[.agg (tsC sq cl)] rfl _ ((wst_any sq cl _).mono fun e w' ⟨he, hb⟩ => ⟨he.trans (by rw [hst]), hb⟩) ?_
     intro z18003 k
     simp only [Act.put, pu]
     replace r1 := k.row r1 (by simp <;> omega)
     replace sb := sb.trans (k.below w.heap.size sb.size (by simp <;> omega))
     clear k
     refine pw_mv (by rfl) rfl rfl ?_
     simp only [Act.put, pu]
     refine pw_skip (by rfl) ?_
     simp only [Act.put, pu]
     refine pw_skip (by rfl) ?_
     simp only [Act.put, pu]
     refine pw_skip (by rfl) ?_
     simp only [Act.put, pu]
     refine pw_skip (by rfl) ?_
     simp only [Act.put, pu]
     refine pw_pick (by rfl) false (v := .bool false) rfl rfl rfl ?_
     simp only [Act.put, pu]
     refine pw_mv (by rfl) rfl rfl ?_
     simp only [Act.put, pu]
     refine pw_skip (by rfl) ?_
     simp only [Act.put, pu]
     refine pw_skip (by rfl) ?_
     simp only [Act.put, pu]
     refine pw_pick (by rfl) false (v := .bool false) rfl rfl rfl ?_
     simp only [Act.put, pu]
     refine pw_callCP (by rfl) 45 _ _ _ rfl #[] rfl Try.func45 (by kernel_rfl) #[.bool false] rfl (want_no _) ?_
     intro z18014 hb
     exact ⟨rfl, by rw [hv]; rfl, below_on sb (Nat.le_refl _) hb⟩
   (repeat ((fail_if_success with_reducible refine rg ?_); go_step))
   refine wp_region_pw ?_
   refine pw_value (by rfl) (.bool false) (x_eqI _ _ _ _ rfl .i64 kd 5 rfl rfl false (decide_eq_false (by omega))) ?_
   simp only [Act.put, pu]
   refine pw_as (by rfl) rfl rfl ?_
   simp only [Act.put, pu]
   refine pw_nil ?_
   by_cases h6 : kd = 6
   ·skip
    (repeat ((fail_if_success with_reducible refine rg ?_); go_step))
    refine wp_region_pw ?_
    refine pw_value (by rfl) (.bool true) (x_eqI _ _ _ _ rfl .i64 kd 6 rfl rfl true (decide_eq_true (by omega))) ?_
    simp only [Act.put, pu]
    refine pw_as (by rfl) rfl rfl ?_
    simp only [Act.put, pu]
    refine pw_nil ?_
    cases hst : stB sq cl with
    | true =>
     cases h32 : g32 dg with
     | true =>
      cases hbr : brB n m with
      | true =>
       have hv : W0 = true := by rw [← hW0, wm_kn hk hop]; simp [kndB, h6, hst, h32, hbr]
       (repeat ((fail_if_success with_reducible refine rg ?_); go_step))
       refine wp_region_pw ?_
       refine pw_mv (by rfl) rfl rfl ?_
       simp only [Act.put, pu]
       refine pw_value (by rfl) (.pointer (some ⟨g1, 3, none⟩)) (exec_field 29 _ 3 rfl g1 0 rfl _ Try.underlying29 _ rfl 1 Try.sizeOf24) ?_
       simp only [Act.put, pu]
       refine pw_loadm (by rfl) 24 _ rfl _ (3) rfl r1.r (tsC sq cl) (ms_st _ _ _ _ _ _ _ _ _ _ _ _) _ Try.underlying24 rfl size_st ?_
       simp only [Act.put, pu]
       refine pw_callB (by rfl) 48 _ _ rfl Try.func48 (by kernel_rfl) #[.agg (tsC sq cl)] rfl _ ((wst_any sq cl _).mono fun e w' ⟨he, hb⟩ => ⟨he.trans (by rw [hst]), hb⟩) ?_
       intro z18003 k
       simp only [Act.put, pu]
       replace r1 := k.row r1 (by simp <;> omega)
       replace sb := sb.trans (k.below w.heap.size sb.size (by simp <;> omega))
       clear k
       refine pw_mv (by rfl) rfl rfl ?_
       simp only [Act.put, pu]
       refine pw_value (by rfl) (.pointer (some ⟨g1, 5, none⟩)) (exec_field 29 _ 4 rfl g1 0 rfl _ Try.underlying29 _ rfl 0 Try.sizeOf9) ?_
       simp only [Act.put, pu]
       refine pw_loadk (by rfl) 9 _ rfl _ (5) rfl r1.r (.string ⟨dg.toArray⟩) rfl Try.isAgg9 ?_
       simp only [Act.put, pu]
       refine pw_value (by rfl) (.int .i64 (dg.length : Nat)) (y_lenS _ _ rfl dg rfl Try.underlying9) ?_
       simp only [Act.put, pu]
       refine pw_value (by rfl) (.bool true) (x_eqI _ _ _ _ rfl .i64 (dg.length : Nat) 32 rfl rfl true h32) ?_
       simp only [Act.put, pu]
       refine pw_pick (by rfl) true (v := .bool true) rfl rfl rfl ?_
       simp only [Act.put, pu]
       refine pw_mv (by rfl) rfl rfl ?_
       simp only [Act.put, pu]
       refine pw_loadm (by rfl) 29 _ rfl _ (0) rfl r1.r (msC kd op key sq cl dg a1 n c1 a2 m c2) (part_all _) _ Try.underlying29 rfl size_ms ?_
       simp only [Act.put, pu]
       refine pw_callB (by rfl) 47 _ _ rfl Try.func47 (by kernel_rfl) #[.agg (msC kd op key sq cl dg a1 n c1 a2 m c2)] rfl _ ((wbare_any kd op key sq cl dg a1 n c1 a2 m c2 _).mono fun e w' ⟨he, hb⟩ => ⟨he.trans (by rw [hbr]), hb⟩) ?_
       intro z18012 k
       simp only [Act.put, pu]
       replace r1 := k.row r1 (by simp <;> omega)
       replace sb := sb.trans (k.below w.heap.size sb.size (by simp <;> omega))
       clear k
       refine pw_pick (by rfl) true (v := .bool true) rfl rfl rfl ?_
       simp only [Act.put, pu]
       refine pw_callC (by rfl) (45) _ _ _ rfl (#[]) rfl (Try.func45) (by kernel_rfl) #[.bool true] rfl _ (want_yes _) ?_
       intro z18014 k
       simp only [Act.put, pu]
       replace r1 := k.row r1 (by simp <;> omega)
       replace sb := sb.trans (k.below w.heap.size sb.size (by simp <;> omega))
       clear k
       refine pw_nil ?_
       go_wp2
       first | (go_ret; exact ⟨by rw [hv]; rfl, sb⟩) | exact ⟨rfl, _, results_none rfl _ _ _, by rw [hv]; rfl, sb⟩
      | false =>
       have hv : W0 = false := by rw [← hW0, wm_kn hk hop]; simp [kndB, h6, hst, h32, hbr]
       (repeat ((fail_if_success with_reducible refine rg ?_); go_step))
       refine wp_region_pw ?_
       refine pw_mv (by rfl) rfl rfl ?_
       simp only [Act.put, pu]
       refine pw_value (by rfl) (.pointer (some ⟨g1, 3, none⟩)) (exec_field 29 _ 3 rfl g1 0 rfl _ Try.underlying29 _ rfl 1 Try.sizeOf24) ?_
       simp only [Act.put, pu]
       refine pw_loadm (by rfl) 24 _ rfl _ (3) rfl r1.r (tsC sq cl) (ms_st _ _ _ _ _ _ _ _ _ _ _ _) _ Try.underlying24 rfl size_st ?_
       simp only [Act.put, pu]
       refine pw_callB (by rfl) 48 _ _ rfl Try.func48 (by kernel_rfl) #[.agg (tsC sq cl)] rfl _ ((wst_any sq cl _).mono fun e w' ⟨he, hb⟩ => ⟨he.trans (by rw [hst]), hb⟩) ?_
       intro z18003 k
       simp only [Act.put, pu]
       replace r1 := k.row r1 (by simp <;> omega)
       replace sb := sb.trans (k.below w.heap.size sb.size (by simp <;> omega))
       clear k
       refine pw_mv (by rfl) rfl rfl ?_
       simp only [Act.put, pu]
       refine pw_value (by rfl) (.pointer (some ⟨g1, 5, none⟩)) (exec_field 29 _ 4 rfl g1 0 rfl _ Try.underlying29 _ rfl 0 Try.sizeOf9) ?_
       simp only [Act.put, pu]
       refine pw_loadk (by rfl) 9 _ rfl _ (5) rfl r1.r (.string ⟨dg.toArray⟩) rfl Try.isAgg9 ?_
       simp only [Act.put, pu]
       refine pw_value (by rfl) (.int .i64 (dg.length : Nat)) (y_lenS _ _ rfl dg rfl Try.underlying9) ?_
       simp only [Act.put, pu]
       refine pw_value (by rfl) (.bool true) (x_eqI _ _ _ _ rfl .i64 (dg.length : Nat) 32 rfl rfl true h32) ?_
       simp only [Act.put, pu]
       refine pw_pick (by rfl) true (v := .bool true) rfl rfl rfl ?_
       simp only [Act.put, pu]
       refine pw_mv (by rfl) rfl rfl ?_
       simp only [Act.put, pu]
       refine pw_loadm (by rfl) 29 _ rfl _ (0) rfl r1.r (msC kd op key sq cl dg a1 n c1 a2 m c2) (part_all _) _ Try.underlying29 rfl size_ms ?_
       simp only [Act.put, pu]
       refine pw_callB (by rfl) 47 _ _ rfl Try.func47 (by kernel_rfl) #[.agg (msC kd op key sq cl dg a1 n c1 a2 m c2)] rfl _ ((wbare_any kd op key sq cl dg a1 n c1 a2 m c2 _).mono fun e w' ⟨he, hb⟩ => ⟨he.trans (by rw [hbr]), hb⟩) ?_
       intro z18012 k
       simp only [Act.put, pu]
       replace r1 := k.row r1 (by simp <;> omega)
       replace sb := sb.trans (k.below w.heap.size sb.size (by simp <;> omega))
       clear k
       refine pw_pick (by rfl) true (v := .bool false) rfl rfl rfl ?_
       simp only [Act.put, pu]
       refine pw_callCP (by rfl) 45 _ _ _ rfl #[] rfl Try.func45 (by kernel_rfl) #[.bool false] rfl (want_no _) ?_
       intro z18014 hb
       exact ⟨rfl, by rw [hv]; rfl, below_on sb (Nat.le_refl _) hb⟩
     | false =>
      have hv : W0 = false := by rw [← hW0, wm_kn hk hop]; simp [kndB, h6, hst, h32]
      (repeat ((fail_if_success with_reducible refine rg ?_); go_step))
      refine wp_region_pw ?_
      refine pw_mv (by rfl) rfl rfl ?_
      simp only [Act.put, pu]
      refine pw_value (by rfl) (.pointer (some ⟨g1, 3, none⟩)) (exec_field 29 _ 3 rfl g1 0 rfl _ Try.underlying29 _ rfl 1 Try.sizeOf24) ?_
      simp only [Act.put, pu]
      refine pw_loadm (by rfl) 24 _ rfl _ (3) rfl r1.r (tsC sq cl) (ms_st _ _ _ _ _ _ _ _ _ _ _ _) _ Try.underlying24 rfl size_st ?_
      simp only [Act.put, pu]
      refine pw_callB (by rfl) 48 _ _ rfl Try.func48 (by kernel_rfl) #[.agg (tsC sq cl)] rfl _ ((wst_any sq cl _).mono fun e w' ⟨he, hb⟩ => ⟨he.trans (by rw [hst]), hb⟩) ?_
      intro z18003 k
      simp only [Act.put, pu]
      replace r1 := k.row r1 (by simp <;> omega)
      replace sb := sb.trans (k.below w.heap.size sb.size (by simp <;> omega))
      clear k
      refine pw_mv (by rfl) rfl rfl ?_
      simp only [Act.put, pu]
      refine pw_value (by rfl) (.pointer (some ⟨g1, 5, none⟩)) (exec_field 29 _ 4 rfl g1 0 rfl _ Try.underlying29 _ rfl 0 Try.sizeOf9) ?_
      simp only [Act.put, pu]
      refine pw_loadk (by rfl) 9 _ rfl _ (5) rfl r1.r (.string ⟨dg.toArray⟩) rfl Try.isAgg9 ?_
      simp only [Act.put, pu]
      refine pw_value (by rfl) (.int .i64 (dg.length : Nat)) (y_lenS _ _ rfl dg rfl Try.underlying9) ?_
      simp only [Act.put, pu]
      refine pw_value (by rfl) (.bool false) (x_eqI _ _ _ _ rfl .i64 (dg.length : Nat) 32 rfl rfl false h32) ?_
      simp only [Act.put, pu]
      refine pw_pick (by rfl) true (v := .bool false) rfl rfl rfl ?_
      simp only [Act.put, pu]
      refine pw_mv (by rfl) rfl rfl ?_
      simp only [Act.put, pu]
      refine pw_skip (by rfl) ?_
      simp only [Act.put, pu]
      refine pw_skip (by rfl) ?_
      simp only [Act.put, pu]
      refine pw_pick (by rfl) false (v := .bool false) rfl rfl rfl ?_
      simp only [Act.put, pu]
      refine pw_callCP (by rfl) 45 _ _ _ rfl #[] rfl Try.func45 (by kernel_rfl) #[.bool false] rfl (want_no _) ?_
      intro z18014 hb
      exact ⟨rfl, by rw [hv]; rfl, below_on sb (Nat.le_refl _) hb⟩
    | false =>
     have hv : W0 = false := by rw [← hW0, wm_kn hk hop]; simp [kndB, h6, hst]
     (repeat ((fail_if_success with_reducible refine rg ?_); go_step))
     refine wp_region_pw ?_
     refine pw_mv (by rfl) rfl rfl ?_
     simp only [Act.put, pu]
     refine pw_value (by rfl) (.pointer (some ⟨g1, 3, none⟩)) (exec_field 29 _ 3 rfl g1 0 rfl _ Try.underlying29 _ rfl 1 Try.sizeOf24) ?_
     simp only [Act.put, pu]
     refine pw_loadm (by rfl) 24 _ rfl _ (3) rfl r1.r (tsC sq cl) (ms_st _ _ _ _ _ _ _ _ _ _ _ _) _ Try.underlying24 rfl size_st ?_
     simp only [Act.put, pu]
     refine pw_callB (by rfl) 48 _ _ rfl Try.func48 (by kernel_rfl) #[.agg (tsC sq cl)] rfl _ ((wst_any sq cl _).mono fun e w' ⟨he, hb⟩ => ⟨he.trans (by rw [hst]), hb⟩) ?_
     intro z18003 k
     simp only [Act.put, pu]
     replace r1 := k.row r1 (by simp <;> omega)
     replace sb := sb.trans (k.below w.heap.size sb.size (by simp <;> omega))
     clear k
     refine pw_mv (by rfl) rfl rfl ?_
     simp only [Act.put, pu]
     refine pw_skip (by rfl) ?_
     simp only [Act.put, pu]
     refine pw_skip (by rfl) ?_
     simp only [Act.put, pu]
     refine pw_skip (by rfl) ?_
     simp only [Act.put, pu]
     refine pw_skip (by rfl) ?_
     simp only [Act.put, pu]
     refine pw_pick (by rfl) false (v := .bool false) rfl rfl rfl ?_
     simp only [Act.put, pu]
     refine pw_mv (by rfl) rfl rfl ?_
     simp only [Act.put, pu]
     refine pw_skip (by rfl) ?_
     simp only [Act.put, pu]
     refine pw_skip (by rfl) ?_
     simp only [Act.put, pu]
     refine pw_pick (by rfl) false (v := .bool false) rfl rfl rfl ?_
     simp only [Act.put, pu]
     refine pw_callCP (by rfl) 45 _ _ _ rfl #[] rfl Try.func45 (by kernel_rfl) #[.bool false] rfl (want_no _) ?_
     intro z18014 hb
     exact ⟨rfl, by rw [hv]; rfl, below_on sb (Nat.le_refl _) hb⟩
   (repeat ((fail_if_success with_reducible refine rg ?_); go_step))
   refine wp_region_pw ?_
   refine pw_value (by rfl) (.bool false) (x_eqI _ _ _ _ rfl .i64 kd 6 rfl rfl false (decide_eq_false (by omega))) ?_
   simp only [Act.put, pu]
   refine pw_as (by rfl) rfl rfl ?_
   simp only [Act.put, pu]
   refine pw_nil ?_
   by_cases h7 : kd = 7
   ·skip
    (repeat ((fail_if_success with_reducible refine rg ?_); go_step))
    refine wp_region_pw ?_
    refine pw_value (by rfl) (.bool true) (x_eqI _ _ _ _ rfl .i64 kd 7 rfl rfl true (decide_eq_true (by omega))) ?_
    simp only [Act.put, pu]
    refine pw_as (by rfl) rfl rfl ?_
    simp only [Act.put, pu]
    refine pw_nil ?_
    cases hst : stB sq cl with
    | true =>
     cases hnl : nlB dg with
     | true =>
      cases hbr : brB n m with
      | true =>
       have hv : W0 = true := by rw [← hW0, wm_kn hk hop]; simp [kndB, h7, hst, hnl, hbr]
       (repeat ((fail_if_success with_reducible refine rg ?_); go_step))
       refine wp_region_pw ?_
       refine pw_mv (by rfl) rfl rfl ?_
       simp only [Act.put, pu]
       refine pw_value (by rfl) (.pointer (some ⟨g1, 3, none⟩)) (exec_field 29 _ 3 rfl g1 0 rfl _ Try.underlying29 _ rfl 1 Try.sizeOf24) ?_
       simp only [Act.put, pu]
       refine pw_loadm (by rfl) 24 _ rfl _ (3) rfl r1.r (tsC sq cl) (ms_st _ _ _ _ _ _ _ _ _ _ _ _) _ Try.underlying24 rfl size_st ?_
       simp only [Act.put, pu]
       refine pw_callB (by rfl) 48 _ _ rfl Try.func48 (by kernel_rfl) #[.agg (tsC sq cl)] rfl _ ((wst_any sq cl _).mono fun e w' ⟨he, hb⟩ => ⟨he.trans (by rw [hst]), hb⟩) ?_
       intro z20003 k
       simp only [Act.put, pu]
       replace r1 := k.row r1 (by simp <;> omega)
       replace sb := sb.trans (k.below w.heap.size sb.size (by simp <;> omega))
       clear k
       refine pw_mv (by rfl) rfl rfl ?_
       simp only [Act.put, pu]
       refine pw_value (by rfl) (.pointer (some ⟨g1, 5, none⟩)) (exec_field 29 _ 4 rfl g1 0 rfl _ Try.underlying29 _ rfl 0 Try.sizeOf9) ?_
       simp only [Act.put, pu]
       refine pw_loadk (by rfl) 9 _ rfl _ (5) rfl r1.r (.string ⟨dg.toArray⟩) rfl Try.isAgg9 ?_
       simp only [Act.put, pu]
       refine pw_value (by rfl) (.bool true) (y_eqS _ _ _ _ rfl dg [] rfl rfl true hnl) ?_
       simp only [Act.put, pu]
       refine pw_pick (by rfl) true (v := .bool true) rfl rfl rfl ?_
       simp only [Act.put, pu]
       refine pw_mv (by rfl) rfl rfl ?_
       simp only [Act.put, pu]
       refine pw_loadm (by rfl) 29 _ rfl _ (0) rfl r1.r (msC kd op key sq cl dg a1 n c1 a2 m c2) (part_all _) _ Try.underlying29 rfl size_ms ?_
       simp only [Act.put, pu]
       refine pw_callB (by rfl) 47 _ _ rfl Try.func47 (by kernel_rfl) #[.agg (msC kd op key sq cl dg a1 n c1 a2 m c2)] rfl _ ((wbare_any kd op key sq cl dg a1 n c1 a2 m c2 _).mono fun e w' ⟨he, hb⟩ => ⟨he.trans (by rw [hbr]), hb⟩) ?_
       intro z20011 k
       simp only [Act.put, pu]
       replace r1 := k.row r1 (by simp <;> omega)
       replace sb := sb.trans (k.below w.heap.size sb.size (by simp <;> omega))
       clear k
       refine pw_pick (by rfl) true (v := .bool true) rfl rfl rfl ?_
       simp only [Act.put, pu]
       refine pw_callC (by rfl) (45) _ _ _ rfl (#[]) rfl (Try.func45) (by kernel_rfl) #[.bool true] rfl _ (want_yes _) ?_
       intro z20013 k
       simp only [Act.put, pu]
       replace r1 := k.row r1 (by simp <;> omega)
       replace sb := sb.trans (k.below w.heap.size sb.size (by simp <;> omega))
       clear k
       refine pw_nil ?_
       go_wp2
       first | (go_ret; exact ⟨by rw [hv]; rfl, sb⟩) | exact ⟨rfl, _, results_none rfl _ _ _, by rw [hv]; rfl, sb⟩
      | false =>
       have hv : W0 = false := by rw [← hW0, wm_kn hk hop]; simp [kndB, h7, hst, hnl, hbr]
       (repeat ((fail_if_success with_reducible refine rg ?_); go_step))
       refine wp_region_pw ?_
       refine pw_mv (by rfl) rfl rfl ?_
       simp only [Act.put, pu]
       refine pw_value (by rfl) (.pointer (some ⟨g1, 3, none⟩)) (exec_field 29 _ 3 rfl g1 0 rfl _ Try.underlying29 _ rfl 1 Try.sizeOf24) ?_
       simp only [Act.put, pu]
       refine pw_loadm (by rfl) 24 _ rfl _ (3) rfl r1.r (tsC sq cl) (ms_st _ _ _ _ _ _ _ _ _ _ _ _) _ Try.underlying24 rfl size_st ?_
       simp only [Act.put, pu]
       refine pw_callB (by rfl) 48 _ _ rfl Try.func48 (by kernel_rfl) #[.agg (tsC sq cl)] rfl _ ((wst_any sq cl _).mono fun e w' ⟨he, hb⟩ => ⟨he.trans (by rw [hst]), hb⟩) ?_
       intro z20003 k
       simp only [Act.put, pu]
       replace r1 := k.row r1 (by simp <;> omega)
       replace sb := sb.trans (k.below w.heap.size sb.size (by simp <;> omega))
       clear k
       refine pw_mv (by rfl) rfl rfl ?_
       simp only [Act.put, pu]
       refine pw_value (by rfl) (.pointer (some ⟨g1, 5, none⟩)) (exec_field 29 _ 4 rfl g1 0 rfl _ Try.underlying29 _ rfl 0 Try.sizeOf9) ?_
       simp only [Act.put, pu]
       refine pw_loadk (by rfl) 9 _ rfl _ (5) rfl r1.r (.string ⟨dg.toArray⟩) rfl Try.isAgg9 ?_
       simp only [Act.put, pu]
       refine pw_value (by rfl) (.bool true) (y_eqS _ _ _ _ rfl dg [] rfl rfl true hnl) ?_
       simp only [Act.put, pu]
       refine pw_pick (by rfl) true (v := .bool true) rfl rfl rfl ?_
       simp only [Act.put, pu]
       refine pw_mv (by rfl) rfl rfl ?_
       simp only [Act.put, pu]
       refine pw_loadm (by rfl) 29 _ rfl _ (0) rfl r1.r (msC kd op key sq cl dg a1 n c1 a2 m c2) (part_all _) _ Try.underlying29 rfl size_ms ?_
       simp only [Act.put, pu]
       refine pw_callB (by rfl) 47 _ _ rfl Try.func47 (by kernel_rfl) #[.agg (msC kd op key sq cl dg a1 n c1 a2 m c2)] rfl _ ((wbare_any kd op key sq cl dg a1 n c1 a2 m c2 _).mono fun e w' ⟨he, hb⟩ => ⟨he.trans (by rw [hbr]), hb⟩) ?_
       intro z20011 k
       simp only [Act.put, pu]
       replace r1 := k.row r1 (by simp <;> omega)
       replace sb := sb.trans (k.below w.heap.size sb.size (by simp <;> omega))
       clear k
       refine pw_pick (by rfl) true (v := .bool false) rfl rfl rfl ?_
       simp only [Act.put, pu]
       refine pw_callCP (by rfl) 45 _ _ _ rfl #[] rfl Try.func45 (by kernel_rfl) #[.bool false] rfl (want_no _) ?_
       intro z20013 hb
       exact ⟨rfl, by rw [hv]; rfl, below_on sb (Nat.le_refl _) hb⟩
     | false =>
      have hv : W0 = false := by rw [← hW0, wm_kn hk hop]; simp [kndB, h7, hst, hnl]
      (repeat ((fail_if_success with_reducible refine rg ?_); go_step))
      refine wp_region_pw ?_
      refine pw_mv (by rfl) rfl rfl ?_
      simp only [Act.put, pu]
      refine pw_value (by rfl) (.pointer (some ⟨g1, 3, none⟩)) (exec_field 29 _ 3 rfl g1 0 rfl _ Try.underlying29 _ rfl 1 Try.sizeOf24) ?_
      simp only [Act.put, pu]
      refine pw_loadm (by rfl) 24 _ rfl _ (3) rfl r1.r (tsC sq cl) (ms_st _ _ _ _ _ _ _ _ _ _ _ _) _ Try.underlying24 rfl size_st ?_
      simp only [Act.put, pu]
      refine pw_callB (by rfl) 48 _ _ rfl Try.func48 (by kernel_rfl) #[.agg (tsC sq cl)] rfl _ ((wst_any sq cl _).mono fun e w' ⟨he, hb⟩ => ⟨he.trans (by rw [hst]), hb⟩) ?_
      intro z20003 k
      simp only [Act.put, pu]
      replace r1 := k.row r1 (by simp <;> omega)
      replace sb := sb.trans (k.below w.heap.size sb.size (by simp <;> omega))
      clear k
      refine pw_mv (by rfl) rfl rfl ?_
      simp only [Act.put, pu]
      refine pw_value (by rfl) (.pointer (some ⟨g1, 5, none⟩)) (exec_field 29 _ 4 rfl g1 0 rfl _ Try.underlying29 _ rfl 0 Try.sizeOf9) ?_
      simp only [Act.put, pu]
      refine pw_loadk (by rfl) 9 _ rfl _ (5) rfl r1.r (.string ⟨dg.toArray⟩) rfl Try.isAgg9 ?_
      simp only [Act.put, pu]
      refine pw_value (by rfl) (.bool false) (y_eqS _ _ _ _ rfl dg [] rfl rfl false hnl) ?_
      simp only [Act.put, pu]
      refine pw_pick (by rfl) true (v := .bool false) rfl rfl rfl ?_
      simp only [Act.put, pu]
      refine pw_mv (by rfl) rfl rfl ?_
      simp only [Act.put, pu]
      refine pw_skip (by rfl) ?_
      simp only [Act.put, pu]
      refine pw_skip (by rfl) ?_
      simp only [Act.put, pu]
      refine pw_pick (by rfl) false (v := .bool false) rfl rfl rfl ?_
      simp only [Act.put, pu]
      refine pw_callCP (by rfl) 45 _ _ _ rfl #[] rfl Try.func45 (by kernel_rfl) #[.bool false] rfl (want_no _) ?_
      intro z20013 hb
      exact ⟨rfl, by rw [hv]; rfl, below_on sb (Nat.le_refl _) hb⟩
    | false =>
     have hv : W0 = false := by rw [← hW0, wm_kn hk hop]; simp [kndB, h7, hst]
     (repeat ((fail_if_success with_reducible refine rg ?_); go_step))
     refine wp_region_pw ?_
     refine pw_mv (by rfl) rfl rfl ?_
     simp only [Act.put, pu]
     refine pw_value (by rfl) (.pointer (some ⟨g1, 3, none⟩)) (exec_field 29 _ 3 rfl g1 0 rfl _ Try.underlying29 _ rfl 1 Try.sizeOf24) ?_
     simp only [Act.put, pu]
     refine pw_loadm (by rfl) 24 _ rfl _ (3) rfl r1.r (tsC sq cl) (ms_st _ _ _ _ _ _ _ _ _ _ _ _) _ Try.underlying24 rfl size_st ?_
     simp only [Act.put, pu]
     refine pw_callB (by rfl) 48 _ _ rfl Try.func48 (by kernel_rfl) #[.agg (tsC sq cl)] rfl _ ((wst_any sq cl _).mono fun e w' ⟨he, hb⟩ => ⟨he.trans (by rw [hst]), hb⟩) ?_
     intro z20003 k
     simp only [Act.put, pu]
     replace r1 := k.row r1 (by simp <;> omega)
     replace sb := sb.trans (k.below w.heap.size sb.size (by simp <;> omega))
     clear k
     refine pw_mv (by rfl) rfl rfl ?_
     simp only [Act.put, pu]
     refine pw_skip (by rfl) ?_
     simp only [Act.put, pu]
     refine pw_skip (by rfl) ?_
     simp only [Act.put, pu]
     refine pw_skip (by rfl) ?_
     simp only [Act.put, pu]
     refine pw_pick (by rfl) false (v := .bool false) rfl rfl rfl ?_
     simp only [Act.put, pu]
     refine pw_mv (by rfl) rfl rfl ?_
     simp only [Act.put, pu]
     refine pw_skip (by rfl) ?_
     simp only [Act.put, pu]
     refine pw_skip (by rfl) ?_
     simp only [Act.put, pu]
     refine pw_pick (by rfl) false (v := .bool false) rfl rfl rfl ?_
     simp only [Act.put, pu]
     refine pw_callCP (by rfl) 45 _ _ _ rfl #[] rfl Try.func45 (by kernel_rfl) #[.bool false] rfl (want_no _) ?_
     intro z20013 hb
     exact ⟨rfl, by rw [hv]; rfl, below_on sb (Nat.le_refl _) hb⟩
   (repeat ((fail_if_success with_reducible refine rg ?_); go_step))
   refine wp_region_pw ?_
   refine pw_value (by rfl) (.bool false) (x_eqI _ _ _ _ rfl .i64 kd 7 rfl rfl false (decide_eq_false (by omega))) ?_
   simp only [Act.put, pu]
   refine pw_as (by rfl) rfl rfl ?_
   simp only [Act.put, pu]
   refine pw_nil ?_
   have hv : W0 = false := by rw [← hW0, wm_kn hk hop]; simp [kndB, h1, h2, h3, h4, h8, h5, h6, h7]
   (repeat ((fail_if_success with_reducible refine rg ?_); go_step))
   refine wp_region_pw ?_
   refine pw_mv (by rfl) rfl rfl ?_
   simp only [Act.put, pu]
   refine pw_callCP (by rfl) 45 _ _ _ rfl #[] rfl Try.func45 (by kernel_rfl) #[.bool false] rfl (want_no _) ?_
   intro z5001 hb
   exact ⟨rfl, by rw [hv]; rfl, below_on sb (Nat.le_refl _) hb⟩
end Go.Proofs.Ytojobffihlmfgaa
/- wire.Check, wire.Put. -/
namespace Go.Proofs.Ytojobffihlmfgaa
open Go.RowKit
set_option linter.unusedVariables false
set_option linter.unusedSimpArgs false
def chI (b : Bool) (n : Int) : Int := if b then 0 else n
/-- caught, of a closure that only makes memory. -/
theorem caught_q (f : FuncId) (caps : Array Value) {fn : Func} (hf : Try.prog.funcs[f]? = some fn) (hb : (fn.name == "runtime.NumGoroutine" || fn.body.isNone) = false) (b : Bool) (n0 : Int) (w : World)
  (hc : ∀ w1, Below w.heap.size w w1 → Calls Try.prog f caps w1 fun e w2 => e = insE b n0 ∧ Below w1.heap.size w1 w2) :
  Calls Try.prog 13 #[.func (.func f) #[] caps] w fun e w' => e = .returned (.int .i64 (chI b n0)) ∧ Below w.heap.size w w' := by
 refine (caught_any f caps hf hb [] (fun n _ _ => n = chI b n0) w (by simp) (fun w1 h1 => (hc w1 h1).mono ?_)).mono ?_
 ·rintro e w2 ⟨rfl, hb2⟩
  refine ⟨Kept.ofBelow hb2, ?_⟩
  cases b with
  | true => exact .inl ⟨rfl, rfl⟩
  | false => exact .inr ⟨n0, rfl, rfl⟩
 ·rintro e w3 ⟨n, w1, w2, g, rfl, h1, hg, _, k1, rfl, k2⟩
  refine ⟨rfl, (h1.trans (k1.below w.heap.size h1.size (by simp))).trans ?_⟩
  exact k2.below w.heap.size (Nat.le_trans h1.size k1.size) (by simpa using hg)
/-- caught, of a closure that writes into one row. -/
theorem caught_w (f : FuncId) (caps : Array Value) {fn : Func} (hf : Try.prog.funcs[f]? = some fn) (hb : (fn.name == "runtime.NumGoroutine" || fn.body.isNone) = false) (n0 : Int) (g : Nat) (c : Array Value) (t : TypeId) (w : World) (hg : g < w.heap.size)
  (hc : ∀ w1, Below w.heap.size w w1 → Calls Try.prog f caps w1 fun e w2 => Kept [g] w1 w2 ∧ Row w2 g c t ∧ ((e = .returned (.tuple #[]) ∧ n0 = 0) ∨ e = .panicked (wrP n0))) :
  Calls Try.prog 13 #[.func (.func f) #[] caps] w fun e w' => e = .returned (.int .i64 n0) ∧ Row w' g c t ∧ Kept [g] w w' := by
 refine (caught_any f caps hf hb [g] (fun n _ w2 => n = n0 ∧ Row w2 g c t) w (by simpa using hg) (fun w1 h1 => (hc w1 h1).mono ?_)).mono ?_
 ·rintro e w2 ⟨hk, hr, h⟩
  refine ⟨hk, ?_⟩
  rcases h with ⟨rfl, h0⟩ | rfl
  ·exact .inl ⟨rfl, h0.symm, hr⟩
  ·exact .inr ⟨n0, rfl, rfl, hr⟩
 ·rintro e w3 ⟨n, w1, w2, g', rfl, h1, hg', _, k1, ⟨rfl, hr⟩, k2⟩
  refine ⟨rfl, k2.row hr (by simp; omega), ?_⟩
  have e1 : Kept [g] w w2 := (show Kept [g] w w1 from ⟨h1.os, h1.tape, h1.output, h1.size, fun k hk _ => h1.block k hk⟩).trans k1 (fun x hx => .inl hx)
  exact e1.trans k2 (fun x hx => .inr (by rw [List.mem_singleton.1 hx]; exact hg'))
theorem wck_any (kd op : Int) (key : List UInt8) (sq cl : Int) (dg : List UInt8) (a1 : Option Addr) (n c1 : Nat) (a2 : Option Addr) (m c2 : Nat) (N : Nat → Nat) (M : Nat → Nat → Nat) (w : World) (hkl : key.length < 9223372036854775808) (hn : n < 4611686018427387904) (hM : MtA w a1 n N M) :
  Calls Try.prog 22 #[.agg (msC kd op key sq cl dg a1 n c1 a2 m c2)] w fun e w' => e = insE (wmB kd op key sq cl dg (brB n m) (dlB n m (xmB n N M))) 1 ∧ Below w.heap.size w w' :=
 wcheck_any kd op key sq cl dg a1 n c1 a2 m c2 _ w hkl (fun w' hb => wdealt_any kd op key sq cl dg a1 n c1 a2 m c2 N M _ w' rfl hn (hM.below hb))
set_option maxRecDepth 100000 in
set_option maxHeartbeats 2000000 in
theorem wck1_any (kd op : Int) (key : List UInt8) (sq cl : Int) (dg : List UInt8) (a1 : Option Addr) (n c1 : Nat) (a2 : Option Addr) (m c2 : Nat) (N : Nat → Nat) (M : Nat → Nat → Nat) (w : World) (hkl : key.length < 9223372036854775808) (hn : n < 4611686018427387904) (hM : MtA w a1 n N M) (g0 : Nat) (r0 : Row w g0 (msC kd op key sq cl dg a1 n c1 a2 m c2) 29) :
  Calls Try.prog 28 #[.pointer (some ⟨g0, 0, none⟩)] w fun e w' => e = insE (wmB kd op key sq cl dg (brB n m) (dlB n m (xmB n N M))) 1 ∧ Below w.heap.size w w' := by
 have hC := wck_any kd op key sq cl dg a1 n c1 a2 m c2 N M w hkl hn hM
 clear hM
 have sb := Below.refl w.heap.size w
 cases hW : wmB kd op key sq cl dg (brB n m) (dlB n m (xmB n N M))
 ·rw [hW] at hC
  rw [insE_no] at hC ⊢
  go_enter Try.func28, Try.ntmps28
  (repeat ((fail_if_success with_reducible refine rg ?_); go_step))
  refine wp_region_pw ?_
  refine pw_loadm (by rfl) 29 _ rfl _ (0) rfl r0.r (msC kd op key sq cl dg a1 n c1 a2 m c2) (part_all _) _ Try.underlying29 rfl size_ms ?_
  simp only [Act.put, pu]
  refine pw_callP (by rfl) 22 _ _ rfl Try.func22 (by kernel_rfl) #[.agg (msC kd op key sq cl dg a1 n c1 a2 m c2)] rfl hC ?_
  intro z1 hb
  exact ⟨rfl, rfl, below_on sb (Nat.le_refl _) hb⟩
 ·rw [hW] at hC
  rw [insE_yes] at hC ⊢
  go_enter Try.func28, Try.ntmps28
  (repeat ((fail_if_success with_reducible refine rg ?_); go_step))
  refine wp_region_pw ?_
  refine pw_loadm (by rfl) 29 _ rfl _ (0) rfl r0.r (msC kd op key sq cl dg a1 n c1 a2 m c2) (part_all _) _ Try.underlying29 rfl size_ms ?_
  simp only [Act.put, pu]
  refine pw_callB (by rfl) 22 _ _ rfl Try.func22 (by kernel_rfl) #[.agg (msC kd op key sq cl dg a1 n c1 a2 m c2)] rfl _ (hC) ?_
  intro z1 k
  simp only [Act.put, pu]
  replace r0 := k.row r0 (by simp <;> omega)
  replace sb := sb.trans (k.below w.heap.size sb.size (by simp <;> omega))
  clear k
  refine pw_nil ?_
  go_wp2
  first | (go_ret; exact ⟨rfl, sb⟩) | exact ⟨rfl, _, results_none rfl _ _ _, rfl, sb⟩
set_option maxRecDepth 100000 in
set_option maxHeartbeats 2000000 in
theorem wCheck_any (kd op : Int) (key : List UInt8) (sq cl : Int) (dg : List UInt8) (a1 : Option Addr) (n c1 : Nat) (a2 : Option Addr) (m c2 : Nat) (N : Nat → Nat) (M : Nat → Nat → Nat) (w : World) (hkl : key.length < 9223372036854775808) (hn : n < 4611686018427387904) (hM : MtA w a1 n N M) :
  Calls Try.prog 11 #[.agg (msC kd op key sq cl dg a1 n c1 a2 m c2)] w fun e w' => e = .returned (.int .i64 (chI (wmB kd op key sq cl dg (brB n m) (dlB n m (xmB n N M))) 1)) ∧ Below w.heap.size w w' := by
 go_enter Try.func11, Try.ntmps11
 (repeat ((fail_if_success with_reducible refine rg ?_); go_step))
 refine wp_region_pw ?_
 refine pw_boxr (by rfl) 29 _ rfl (msC kd op key sq cl dg a1 n c1 a2 m c2) rfl ?_
 intro g1 z0 n0 r1 k
 simp only [Act.put, pu]
 have b1 : w.heap.size ≤ g1 := n0
 clear n0
 have sb := k.below w.heap.size (Nat.le_refl _) (by simp)
 clear k
 refine pw_value (by rfl) (.int .i64 0) (fun _ => rfl) ?_
 simp only [Act.put, pu]
 refine pw_nil ?_
 (repeat ((fail_if_success with_reducible refine rg ?_); go_step))
 refine wp_region_pw ?_
 refine pw_value (by rfl) (.func (.func 28) #[] #[.pointer (some ⟨g1, 0, none⟩)]) (x_mkf _ _ rfl _ rfl) ?_
 simp only [Act.put, pu]
 refine pw_callB (by rfl) 13 _ _ rfl Try.func13 (by kernel_rfl) #[.func (.func 28) #[] #[.pointer (some ⟨g1, 0, none⟩)]] rfl _ (caught_q 28 _ Try.func28 (by kernel_rfl) _ 1 _ (fun w1 h1 => wck1_any kd op key sq cl dg a1 n c1 a2 m c2 N M w1 hkl hn ((hM.below sb).below h1) g1 (r1.belowAll h1))) ?_
 intro z1001 k
 simp only [Act.put, pu]
 replace r1 := k.row r1 (by simp <;> omega)
 replace sb := sb.trans (k.below w.heap.size sb.size (by simp <;> omega))
 clear k
 refine pw_as (by rfl) rfl rfl ?_
 simp only [Act.put, pu]
 refine pw_nil ?_
 go_wp2
 go_ret
 exact ⟨rfl, sb⟩
theorem wm_facts {kd op : Int} {key : List UInt8} {sq cl : Int} {dg : List UInt8} {n m : Nat} {X : List UInt8} (h : wmB kd op key sq cl dg (brB n m) (dlB n m X) = true) :
  (1 ≤ kd ∧ kd ≤ 8) ∧ (0 ≤ op ∧ op ≤ 1048576) ∧ (1 ≤ key.length ∧ key.length ≤ 8) ∧ (0 ≤ sq ∧ sq ≤ 1099511627776) ∧ (0 ≤ cl ∧ cl ≤ 4) ∧ dg.length ≤ 32 ∧ ((n = 0 ∧ m = 0) ∨ (m = n ∧ X ≠ [])) := by
 unfold wmB at h
 simp only [Bool.and_eq_true] at h
 obtain ⟨hk, ho, h⟩ := h
 have hk' : 1 ≤ key.length ∧ key.length ≤ 8 := of_decide_eq_true hk
 have ho' : 0 ≤ op ∧ op ≤ 1048576 := by
  unfold opB at ho
  split at ho
  ·have := of_decide_eq_true ho; omega
  ·have := of_decide_eq_true ho; omega
 have hz : zsB sq cl = true → (0 ≤ sq ∧ sq ≤ 1099511627776) ∧ (0 ≤ cl ∧ cl ≤ 4) := fun e => by have := of_decide_eq_true e; omega
 have hs : stB sq cl = true → (0 ≤ sq ∧ sq ≤ 1099511627776) ∧ (0 ≤ cl ∧ cl ≤ 4) := fun e => by have := of_decide_eq_true e; omega
 have hnl : nlB dg = true → dg.length ≤ 32 := fun e => by have := of_decide_eq_true e; rw [this]; exact Nat.zero_le _
 have h32 : g32 dg = true → dg.length ≤ 32 := fun e => by have := of_decide_eq_true e; omega
 have hbr : brB n m = true → ((n = 0 ∧ m = 0) ∨ (m = n ∧ X ≠ [])) := fun e => .inl (of_decide_eq_true e)
 have hdl : dlB n m X = true → ((n = 0 ∧ m = 0) ∨ (m = n ∧ X ≠ [])) := fun e => .inr (of_decide_eq_true e)
 unfold kndB at h
 split at h
 ·simp only [Bool.and_eq_true] at h
  exact ⟨by omega, ho', hk', (hz h.1).1, (hz h.1).2, hnl h.2.1, hbr h.2.2⟩
 split at h
 ·split at h
  ·rename_i e
   simp only [Bool.and_eq_true] at h
   exact ⟨by omega, ho', hk', (hz e).1, (hz e).2, hnl h.1, hbr h.2⟩
  ·simp only [Bool.and_eq_true, Bool.or_eq_true] at h
   exact ⟨by omega, ho', hk', (hs h.1).1, (hs h.1).2, h32 h.2.1, h.2.2.elim hbr hdl⟩
 split at h
 ·simp only [Bool.and_eq_true] at h
  exact ⟨by omega, ho', hk', (hs h.1).1, (hs h.1).2, hnl h.2.1, hdl h.2.2⟩
 split at h
 ·simp only [Bool.and_eq_true] at h
  exact ⟨by omega, ho', hk', (hs h.1).1, (hs h.1).2, h32 h.2.1, hbr h.2.2⟩
 split at h
 ·simp only [Bool.and_eq_true] at h
  exact ⟨by omega, ho', hk', (hs h.1).1, (hs h.1).2, hnl h.2.1, hbr h.2.2⟩
 ·cases h
theorem MtA.lt {w : World} {a1 : Option Addr} {n : Nat} {N : Nat → Nat} {M : Nat → Nat → Nat} (h : MtA w a1 n N M) : ∀ i, i < n → ∀ j, j < N i → M i j < 2 ^ 256 := by
 obtain ⟨S, gb, ob, bcs, tb, h1, h2⟩ := h
 intro i hi j hj
 obtain ⟨_, _, _, _, _, _, _, h3⟩ := h2 i hi
 exact h3.lt j hj
theorem xwB_len {n : Nat} {N : Nat → Nat} {M : Nat → Nat → Nat} (h : ∀ i, i < n → ∀ j, j < N i → M i j < 2 ^ 256) : (xmB n N M).length < 10000 := by
 unfold xmB
 split
 ·rename_i hT
  obtain ⟨n1, n2, k1, k2, hNk⟩ := tbB_is hT
  have hnk : n * N 0 ≤ 25 * 7 := Nat.mul_le_mul n2 k2
  have hG : ∀ t, t < n * N 0 → M (t / N 0) (t % N 0) < 2 ^ 256 := fun t ht => by
   have h1 : t / N 0 < n := Nat.div_lt_of_lt_mul (by rw [Nat.mul_comm]; exact ht)
   exact h _ h1 _ (by rw [hNk _ h1]; exact Nat.mod_lt _ (by omega))
  have := xmT_length (G := fun t => M (t / N 0) (t % N 0)) (t := n * N 0) hG
  unfold xmL
  simp only [List.length_cons]
  omega
 ·decide
theorem xwB_n {n : Nat} {N : Nat → Nat} {M : Nat → Nat → Nat} (h : xmB n N M ≠ []) : n ≤ 25 := by
 unfold xmB at h
 split at h
 ·rename_i hT
  exact (tbB_is hT).2.1
 ·exact absurd rfl h
theorem size1tstring : (Try.prog.info? 9).map (·.size) = some 1 := by kernel_rfl
/-- Whether a message is put, and its bytes. -/
def ptB (b : Bool) (l : List UInt8) : Bool := b && decide (l.length ≤ 8192)
def ptT (b : Bool) (l : List UInt8) : List UInt8 := if ptB b l then l else []
theorem bofI_any (kd op : Int) (key : List UInt8) (sq cl : Int) (dg : List UInt8) (a1 : Option Addr) (n c1 : Nat) (a2 : Option Addr) (m c2 : Nat) (N : Nat → Nat) (M : Nat → Nat → Nat) (Y : Nat → Nat) (w : World) (hkl : key.length < 9223372036854775808) (hn : n < 4611686018427387904) (hM : MtA w a1 n N M) (hY : YsA w a2 m Y) (hW : wmB kd op key sq cl dg (brB n m) (dlB n m (xmB n N M)) = true) :
  Calls Try.prog 23 #[.agg (msC kd op key sq cl dg a1 n c1 a2 m c2)] w fun e w' => e = .returned (.string ⟨(msL kd.toNat op.toNat key sq.toNat cl.toNat dg (xmB n N M) m Y).toArray⟩) ∧ Below w.heap.size w w' := by
 obtain ⟨f1, f2, f3, f4, f5, f6, f7⟩ := wm_facts hW
 have hm : m ≤ 1000 := by
  rcases f7 with ⟨_, h⟩ | ⟨h, hx⟩
  ·omega
  ·have := xwB_n hx; omega
 have hc := bof_any kd.toNat op.toNat key sq.toNat cl.toNat dg a1 n c1 a2 m c2 (xmB n N M) Y w (by omega) (by omega) (by omega) (by omega) (by omega) (by omega) (xwB_len hM.lt) hm hY (fun w' hb => mby_any a1 n c1 N M w' hn (hM.below hb))
 rw [Int.toNat_of_nonneg (by omega), Int.toNat_of_nonneg (by omega), Int.toNat_of_nonneg (by omega), Int.toNat_of_nonneg (by omega)] at hc
 exact hc
set_option maxRecDepth 100000 in
set_option maxHeartbeats 2000000 in
theorem wput1_any (kd op : Int) (key : List UInt8) (sq cl : Int) (dg : List UInt8) (a1 : Option Addr) (n c1 : Nat) (a2 : Option Addr) (m c2 : Nat) (N : Nat → Nat) (M : Nat → Nat → Nat) (Y : Nat → Nat) (w : World) (hkl : key.length < 9223372036854775808) (hn : n < 4611686018427387904) (hM : MtA w a1 n N M) (hY : YsA w a2 m Y) (g0 g1 : Nat) (r0 : Row w g0 (msC kd op key sq cl dg a1 n c1 a2 m c2) 29) (r1 : Row w g1 #[.string ⟨#[]⟩] 9) :
  Calls Try.prog 21 #[.pointer (some ⟨g0, 0, none⟩), .pointer (some ⟨g1, 0, none⟩)] w fun e w' => Kept [g1] w w' ∧ Row w' g1 #[.string ⟨(ptT (wmB kd op key sq cl dg (brB n m) (dlB n m (xmB n N M))) (msL kd.toNat op.toNat key sq.toNat cl.toNat dg (xmB n N M) m Y)).toArray⟩] 9 ∧ ((e = .returned (.tuple #[]) ∧ chI (ptB (wmB kd op key sq cl dg (brB n m) (dlB n m (xmB n N M))) (msL kd.toNat op.toNat key sq.toNat cl.toNat dg (xmB n N M) m Y)) 1 = 0) ∨ e = .panicked (wrP (chI (ptB (wmB kd op key sq cl dg (brB n m) (dlB n m (xmB n N M))) (msL kd.toNat op.toNat key sq.toNat cl.toNat dg (xmB n N M) m Y)) 1))) := by
 have hC := wck_any kd op key sq cl dg a1 n c1 a2 m c2 N M w hkl hn hM
 have hB := fun w' (hb : Below w.heap.size w w') hW => bofI_any kd op key sq cl dg a1 n c1 a2 m c2 N M Y w' hkl hn (hM.below hb) (hY.below hb) hW
 clear hM hY
 have l1 := r1.lt
 generalize (msL kd.toNat op.toNat key sq.toNat cl.toNat dg (xmB n N M) m Y) = L at *
 generalize wmB kd op key sq cl dg (brB n m) (dlB n m (xmB n N M)) = W at *
 have sk := Kept.refl [g1] w
 cases W with
 | false =>
  rw [insE_no] at hC
  rw [show ptT false L = [] from rfl, show ptB false L = false from rfl]
  clear hB
  go_enter Try.func21, Try.ntmps21
  (repeat ((fail_if_success with_reducible refine rg ?_); go_step))
  refine wp_region_pw ?_
  refine pw_loadm (by rfl) 29 _ rfl _ (0) rfl r0.r (msC kd op key sq cl dg a1 n c1 a2 m c2) (part_all _) _ Try.underlying29 rfl size_ms ?_
  simp only [Act.put, pu]
  refine pw_callP (by rfl) 22 _ _ rfl Try.func22 (by kernel_rfl) #[.agg (msC kd op key sq cl dg a1 n c1 a2 m c2)] rfl hC ?_
  intro z1 hb
  have k := Kept.ofBelow hb
  exact ⟨rfl, sk.trans k (by simp), k.row r1 (by simp), .inr rfl⟩
 | true =>
  rw [insE_yes] at hC
  have hL := fun w' hb => hB w' hb rfl
  clear hB
  by_cases h : L.length ≤ 8192
  ·rw [show ptT true L = L by unfold ptT ptB; rw [decide_eq_true h]; rfl, show ptB true L = true by unfold ptB; rw [decide_eq_true h]; rfl]
   go_enter Try.func21, Try.ntmps21
   have cb := Below.refl w.heap.size w
   (repeat ((fail_if_success with_reducible refine rg ?_); go_step))
   refine wp_region_pw ?_
   refine pw_loadm (by rfl) 29 _ rfl _ (0) rfl r0.r (msC kd op key sq cl dg a1 n c1 a2 m c2) (part_all _) _ Try.underlying29 rfl size_ms ?_
   simp only [Act.put, pu]
   refine pw_callB (by rfl) 22 _ _ rfl Try.func22 (by kernel_rfl) #[.agg (msC kd op key sq cl dg a1 n c1 a2 m c2)] rfl _ (hC) ?_
   intro z1 k
   simp only [Act.put, pu]
   replace r0 := k.row r0 (by simp <;> omega)
   replace r1 := k.row r1 (by simp <;> omega)
   replace cb := cb.trans (k.below _ cb.size (by simp <;> omega))
   replace sk := sk.trans k (by simp <;> omega)
   clear k
   refine pw_nil ?_
   (repeat ((fail_if_success with_reducible refine rg ?_); go_step))
   refine wp_region_pw ?_
   refine pw_loadm (by rfl) 29 _ rfl _ (0) rfl r0.r (msC kd op key sq cl dg a1 n c1 a2 m c2) (part_all _) _ Try.underlying29 rfl size_ms ?_
   simp only [Act.put, pu]
   refine pw_callB (by rfl) 23 _ _ rfl Try.func23 (by kernel_rfl) #[.agg (msC kd op key sq cl dg a1 n c1 a2 m c2)] rfl _ (hL _ cb) ?_
   intro z1001 k
   simp only [Act.put, pu]
   replace r0 := k.row r0 (by simp <;> omega)
   replace r1 := k.row r1 (by simp <;> omega)
   replace cb := cb.trans (k.below _ cb.size (by simp <;> omega))
   replace sk := sk.trans k (by simp <;> omega)
   clear k
   refine pw_as (by rfl) rfl rfl ?_
   simp only [Act.put, pu]
   refine pw_nil ?_
   (repeat ((fail_if_success with_reducible refine rg ?_); go_step))
   refine wp_region_pw ?_
   refine pw_mv (by rfl) rfl rfl ?_
   simp only [Act.put, pu]
   refine pw_value (by rfl) (.int .i64 (L.length : Nat)) (y_lenS _ _ rfl L rfl Try.underlying9) ?_
   simp only [Act.put, pu]
   refine pw_value (by rfl) (.bool true) (w_le _ _ _ _ rfl (L.length : Nat) 8192 rfl rfl true (decide_eq_true (by omega))) ?_
   simp only [Act.put, pu]
   refine pw_callB (by rfl) 24 _ _ rfl Try.func24 (by kernel_rfl) #[.bool true, .int .i64 1] rfl _ (insist_any true 1 _) ?_
   intro z2003 k
   simp only [Act.put, pu]
   replace r0 := k.row r0 (by simp <;> omega)
   replace r1 := k.row r1 (by simp <;> omega)
   replace sk := sk.trans k (by simp <;> omega)
   clear k
   refine pw_nil ?_
   (repeat ((fail_if_success with_reducible refine rg ?_); go_step))
   refine wp_region_pw ?_
   refine pw_mv (by rfl) rfl rfl ?_
   simp only [Act.put, pu]
   refine pw_putv (by rfl) 9 _ _ rfl _ (0) rfl r1 (.string ⟨L.toArray⟩) rfl rfl rfl size1tstring (by exact Nat.one_pos) (#[.string ⟨L.toArray⟩]) rfl ?_
   clear r1
   intro z3001 r1 k
   simp only [Act.put]
   replace sk := sk.trans k (by simp <;> omega)
   clear k
   refine pw_nil ?_
   go_wp2
   first | (go_ret; exact ⟨sk, r1, .inl ⟨rfl, rfl⟩⟩) | exact ⟨rfl, _, results_none rfl _ _ _, sk, r1, .inl ⟨rfl, rfl⟩⟩
  ·rw [show ptT true L = [] by unfold ptT ptB; rw [decide_eq_false h]; rfl, show ptB true L = false by unfold ptB; rw [decide_eq_false h]; rfl]
   go_enter Try.func21, Try.ntmps21
   have cb := Below.refl w.heap.size w
   (repeat ((fail_if_success with_reducible refine rg ?_); go_step))
   refine wp_region_pw ?_
   refine pw_loadm (by rfl) 29 _ rfl _ (0) rfl r0.r (msC kd op key sq cl dg a1 n c1 a2 m c2) (part_all _) _ Try.underlying29 rfl size_ms ?_
   simp only [Act.put, pu]
   refine pw_callB (by rfl) 22 _ _ rfl Try.func22 (by kernel_rfl) #[.agg (msC kd op key sq cl dg a1 n c1 a2 m c2)] rfl _ (hC) ?_
   intro z1 k
   simp only [Act.put, pu]
   replace r0 := k.row r0 (by simp <;> omega)
   replace r1 := k.row r1 (by simp <;> omega)
   replace cb := cb.trans (k.below _ cb.size (by simp <;> omega))
   replace sk := sk.trans k (by simp <;> omega)
   clear k
   refine pw_nil ?_
   (repeat ((fail_if_success with_reducible refine rg ?_); go_step))
   refine wp_region_pw ?_
   refine pw_loadm (by rfl) 29 _ rfl _ (0) rfl r0.r (msC kd op key sq cl dg a1 n c1 a2 m c2) (part_all _) _ Try.underlying29 rfl size_ms ?_
   simp only [Act.put, pu]
   refine pw_callB (by rfl) 23 _ _ rfl Try.func23 (by kernel_rfl) #[.agg (msC kd op key sq cl dg a1 n c1 a2 m c2)] rfl _ (hL _ cb) ?_
   intro z1001 k
   simp only [Act.put, pu]
   replace r0 := k.row r0 (by simp <;> omega)
   replace r1 := k.row r1 (by simp <;> omega)
   replace cb := cb.trans (k.below _ cb.size (by simp <;> omega))
   replace sk := sk.trans k (by simp <;> omega)
   clear k
   refine pw_as (by rfl) rfl rfl ?_
   simp only [Act.put, pu]
   refine pw_nil ?_
   (repeat ((fail_if_success with_reducible refine rg ?_); go_step))
   refine wp_region_pw ?_
   refine pw_mv (by rfl) rfl rfl ?_
   simp only [Act.put, pu]
   refine pw_value (by rfl) (.int .i64 (L.length : Nat)) (y_lenS _ _ rfl L rfl Try.underlying9) ?_
   simp only [Act.put, pu]
   refine pw_value (by rfl) (.bool false) (w_le _ _ _ _ rfl (L.length : Nat) 8192 rfl rfl false (decide_eq_false (by omega))) ?_
   simp only [Act.put, pu]
   refine pw_callP (by rfl) 24 _ _ rfl Try.func24 (by kernel_rfl) #[.bool false, .int .i64 1] rfl (insist_any false 1 _) ?_
   intro z2003 hb
   have k := Kept.ofBelow hb
   exact ⟨rfl, sk.trans k (by simp), k.row r1 (by simp), .inr rfl⟩
theorem zero_sg (w : World) : (zeroValue 9).run Try.prog w = .ok (.string ⟨#[]⟩) w := by
 have h : (Try.prog.info? 9).map (fun i => (i.zero, i.size)) = some (some (.string ⟨#[]⟩), 1) := by kernel_rfl
 exact (zero_of_info h).1 w
set_option maxRecDepth 100000 in
set_option maxHeartbeats 2000000 in
theorem wPut_any (kd op : Int) (key : List UInt8) (sq cl : Int) (dg : List UInt8) (a1 : Option Addr) (n c1 : Nat) (a2 : Option Addr) (m c2 : Nat) (N : Nat → Nat) (M : Nat → Nat → Nat) (Y : Nat → Nat) (w : World) (hkl : key.length < 9223372036854775808) (hn : n < 4611686018427387904) (hM : MtA w a1 n N M) (hY : YsA w a2 m Y) :
  Calls Try.prog 8 #[.agg (msC kd op key sq cl dg a1 n c1 a2 m c2)] w fun e w' => e = .returned (.tuple #[.string ⟨(ptT (wmB kd op key sq cl dg (brB n m) (dlB n m (xmB n N M))) (msL kd.toNat op.toNat key sq.toNat cl.toNat dg (xmB n N M) m Y)).toArray⟩, .int .i64 (chI (ptB (wmB kd op key sq cl dg (brB n m) (dlB n m (xmB n N M))) (msL kd.toNat op.toNat key sq.toNat cl.toNat dg (xmB n N M) m Y)) 1)]) ∧ Below w.heap.size w w' := by
 go_enter Try.func8, Try.ntmps8
 (repeat ((fail_if_success with_reducible refine rg ?_); go_step))
 refine wp_region_pw ?_
 refine pw_boxr (by rfl) 29 _ rfl (msC kd op key sq cl dg a1 n c1 a2 m c2) rfl ?_
 intro g1 z0 n0 r1 k
 simp only [Act.put, pu]
 have b1 : w.heap.size ≤ g1 := n0
 clear n0
 have sb := k.below w.heap.size (Nat.le_refl _) (by simp)
 clear k
 refine pw_move (by rfl) (.inr rfl) rfl ?_
 simp only [Act.put, pu]
 refine pw_value (by rfl) (.int .i64 0) (fun _ => rfl) ?_
 simp only [Act.put, pu]
 refine pw_nil ?_
 (repeat ((fail_if_success with_reducible refine rg ?_); go_step))
 refine wp_region_pw ?_
 refine pw_newv (by rfl) 9 rfl (.string ⟨#[]⟩) zero_sg rfl ?_
 intro g4 z1000 n0 r4 k
 simp only [Act.put, pu]
 have d1x4 := Nat.lt_of_lt_of_le r1.lt n0
 have b4 := Nat.le_trans sb.size n0
 clear n0
 replace r1 := k.row r1 (by simp <;> omega)
 replace sb := sb.trans (k.below w.heap.size sb.size (by simp <;> omega))
 clear k
 refine pw_nil ?_
 (repeat ((fail_if_success with_reducible refine rg ?_); go_step))
 refine wp_region_pw ?_
 refine pw_value (by rfl) (.func (.func 21) #[] #[.pointer (some ⟨g1, 0, none⟩), .pointer (some ⟨g4, 0, none⟩)]) (x_mkf _ _ rfl _ rfl) ?_
 simp only [Act.put, pu]
 refine pw_callE (by rfl) 13 _ _ rfl Try.func13 (by kernel_rfl) #[.func (.func 21) #[] #[.pointer (some ⟨g1, 0, none⟩), .pointer (some ⟨g4, 0, none⟩)]] rfl (caught_w 21 _ Try.func21 (by kernel_rfl) _ g4 _ _ _ r4.lt (fun w1 h1 => wput1_any kd op key sq cl dg a1 n c1 a2 m c2 N M Y w1 hkl hn ((hM.below sb).below h1) ((hY.below sb).below h1) g1 g4 (r1.belowAll h1) (r4.belowAll h1))) ?_
 have cr4 := r4.lt
 clear r4
 rintro _ z2001 ⟨rfl, r4, k⟩
 refine ⟨_, rfl, ?_⟩
 simp only [Act.put, pu]
 clear cr4
 replace r1 := k.row r1 (by simp <;> omega)
 replace sb := sb.trans (k.below w.heap.size sb.size (by simp <;> omega))
 clear k
 refine pw_as (by rfl) rfl rfl ?_
 simp only [Act.put, pu]
 refine pw_nil ?_
 (repeat ((fail_if_success with_reducible refine rg ?_); go_step))
 refine wp_region_pw ?_
 refine pw_loadk (by rfl) 9 _ rfl _ (0) rfl r4.r (_) rfl Try.isAgg9 ?_
 simp only [Act.put, pu]
 refine pw_mv (by rfl) rfl rfl ?_
 simp only [Act.put, pu]
 refine pw_as (by rfl) rfl rfl ?_
 simp only [Act.put, pu]
 refine pw_as (by rfl) rfl rfl ?_
 simp only [Act.put, pu]
 refine pw_nil ?_
 go_wp2
 go_ret2
 exact ⟨rfl, sb⟩
end Go.Proofs.Ytojobffihlmfgaa
