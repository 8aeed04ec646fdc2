/- votes' Count. -/
import Derived.Test.YtdbcikhineghcaaVtPut
namespace Go.Proofs.Ytdbcikhineghcaa
open Go.RowKit
set_option linter.unusedVariables false
set_option linter.unusedSectionVars false
set_option linter.unusedSimpArgs false
set_option maxRecDepth 100000 in
set_option maxHeartbeats 2000000 in
theorem cnt_nil (s c : Int) (d : List UInt8) (w : World) :
  Calls Try.prog 11 #[.pointer none, .agg (tsC s c), .string ⟨d.toArray⟩] w fun e w' => e = .returned (.int .i64 0) ∧ Below w.heap.size w w' := by
 go_enter Try.func11, Try.ntmps11
 have sb := sbmk w
 (repeat ((fail_if_success with_reducible refine rg ?_); go_step))
 refine wp_region_pw ?_
 refine pw_boxr (by rfl) 32 _ rfl (tsC s c) rfl ?_
 intro g4 z0 n0 r4 k
 simp only [Act.put, pu]
 have b4 := Nat.le_trans sb.size n0
 clear n0
 replace sb := sb.trans (k.below w.heap.size sb.size (by simp <;> omega))
 clear k
 refine pw_value (by rfl) (.int .i64 0) (fun _ => rfl) ?_
 simp only [Act.put, pu]
 refine pw_nil ?_
 (repeat ((fail_if_success with_reducible refine rg ?_); go_step))
 refine wp_region_pw ?_
 refine pw_mv (by rfl) rfl rfl ?_
 simp only [Act.put, pu]
 refine pw_callB (by rfl) 23 _ _ rfl Try.func23 (by kernel_rfl) #[.pointer none] rfl _ (made_nil _) ?_
 intro z1001 k
 simp only [Act.put, pu]
 replace r4 := k.row r4 (by simp <;> omega)
 replace sb := sb.trans (k.below w.heap.size sb.size (by simp <;> omega))
 clear k
 refine pw_value (by rfl) (.bool true) (exec_not _ _ rfl false rfl) ?_
 simp only [Act.put, pu]
 refine pw_mv (by rfl) rfl rfl ?_
 simp only [Act.put, pu]
 refine pw_skip (by rfl) ?_
 simp only [Act.put, pu]
 refine pw_skip (by rfl) ?_
 simp only [Act.put, pu]
 refine pw_skip (by rfl) ?_
 simp only [Act.put, pu]
 refine pw_pick (by rfl) true (v := .bool true) rfl rfl rfl ?_
 simp only [Act.put, pu]
 refine pw_nil ?_
 (repeat ((fail_if_success with_reducible refine rg ?_); go_step))
 refine wp_region_pw ?_
 refine pw_value (by rfl) (.int .i64 0) (fun _ => rfl) ?_
 simp only [Act.put, pu]
 refine pw_nil ?_
 go_wp2
 go_ret
 exact ⟨rfl, sb⟩
set_option maxRecDepth 100000 in
set_option maxHeartbeats 2000000 in
theorem cnt_no (g1 : Nat) (n : Int) (V : Nat → Vt) (s c : Int) (d : List UInt8) (w : World) (r1 : Row w g1 (voC n V) 51) (hn : n ≤ 0) :
  Calls Try.prog 11 #[.pointer (some ⟨g1, 0, none⟩), .agg (tsC s c), .string ⟨d.toArray⟩] w fun e w' => e = .returned (.int .i64 0) ∧ Below w.heap.size w w' := by
 go_enter Try.func11, Try.ntmps11
 have sb := sbmk w
 (repeat ((fail_if_success with_reducible refine rg ?_); go_step))
 refine wp_region_pw ?_
 refine pw_boxr (by rfl) 32 _ rfl (tsC s c) rfl ?_
 intro g4 z0 n0 r4 k
 simp only [Act.put, pu]
 have d1x4 := Nat.lt_of_lt_of_le r1.lt n0
 have b4 := Nat.le_trans sb.size n0
 clear n0
 replace r1 := k.row r1 (by simp <;> omega)
 replace sb := sb.trans (k.below w.heap.size sb.size (by simp <;> omega))
 clear k
 refine pw_value (by rfl) (.int .i64 0) (fun _ => rfl) ?_
 simp only [Act.put, pu]
 refine pw_nil ?_
 (repeat ((fail_if_success with_reducible refine rg ?_); go_step))
 refine wp_region_pw ?_
 refine pw_mv (by rfl) rfl rfl ?_
 simp only [Act.put, pu]
 refine pw_callB (by rfl) 23 _ _ rfl Try.func23 (by kernel_rfl) #[.pointer (some ⟨g1, 0, none⟩)] rfl _ (made_no g1 n V _ r1 hn) ?_
 intro z1001 k
 simp only [Act.put, pu]
 replace r4 := k.row r4 (by simp <;> omega)
 replace sb := sb.trans (k.below w.heap.size sb.size (by simp <;> omega))
 clear k
 refine pw_value (by rfl) (.bool true) (exec_not _ _ rfl false rfl) ?_
 simp only [Act.put, pu]
 refine pw_mv (by rfl) rfl rfl ?_
 simp only [Act.put, pu]
 refine pw_skip (by rfl) ?_
 simp only [Act.put, pu]
 refine pw_skip (by rfl) ?_
 simp only [Act.put, pu]
 refine pw_skip (by rfl) ?_
 simp only [Act.put, pu]
 refine pw_pick (by rfl) true (v := .bool true) rfl rfl rfl ?_
 simp only [Act.put, pu]
 refine pw_nil ?_
 (repeat ((fail_if_success with_reducible refine rg ?_); go_step))
 refine wp_region_pw ?_
 refine pw_value (by rfl) (.int .i64 0) (fun _ => rfl) ?_
 simp only [Act.put, pu]
 refine pw_nil ?_
 go_wp2
 go_ret
 exact ⟨rfl, sb⟩
set_option maxRecDepth 100000 in
set_option maxHeartbeats 2000000 in
theorem cnt_may (g1 m : Nat) (V : Nat → Vt) (s c : Int) (d : List UInt8) (w : World) (r1 : Row w g1 (voC (m : Nat) V) 51) (hm : 1 ≤ m) (h : stB s c = false) :
  Calls Try.prog 11 #[.pointer (some ⟨g1, 0, none⟩), .agg (tsC s c), .string ⟨d.toArray⟩] w fun e w' => e = .returned (.int .i64 0) ∧ Below w.heap.size w w' := by
 have hY := fun w' => smay_any s c w'
 rw [h] at hY
 clear h
 go_enter Try.func11, Try.ntmps11
 have sb := sbmk w
 (repeat ((fail_if_success with_reducible refine rg ?_); go_step))
 refine wp_region_pw ?_
 refine pw_boxr (by rfl) 32 _ rfl (tsC s c) rfl ?_
 intro g4 z0 n0 r4 k
 simp only [Act.put, pu]
 have d1x4 := Nat.lt_of_lt_of_le r1.lt n0
 have b4 := Nat.le_trans sb.size n0
 clear n0
 replace r1 := k.row r1 (by simp <;> omega)
 replace sb := sb.trans (k.below w.heap.size sb.size (by simp <;> omega))
 clear k
 refine pw_value (by rfl) (.int .i64 0) (fun _ => rfl) ?_
 simp only [Act.put, pu]
 refine pw_nil ?_
 (repeat ((fail_if_success with_reducible refine rg ?_); go_step))
 refine wp_region_pw ?_
 refine pw_mv (by rfl) rfl rfl ?_
 simp only [Act.put, pu]
 refine pw_callB (by rfl) 23 _ _ rfl Try.func23 (by kernel_rfl) #[.pointer (some ⟨g1, 0, none⟩)] rfl _ (made_yes g1 _ V _ r1 (by omega)) ?_
 intro z1001 k
 simp only [Act.put, pu]
 replace r1 := k.row r1 (by simp <;> omega)
 replace r4 := k.row r4 (by simp <;> omega)
 replace sb := sb.trans (k.below w.heap.size sb.size (by simp <;> omega))
 clear k
 refine pw_value (by rfl) (.bool false) (exec_not _ _ rfl true rfl) ?_
 simp only [Act.put, pu]
 refine pw_mv (by rfl) rfl rfl ?_
 simp only [Act.put, pu]
 refine pw_loadm (by rfl) 32 _ rfl _ 0 rfl r4.r _ (part_all _) _ Try.underlying32 rfl size_st ?_
 simp only [Act.put, pu]
 refine pw_callB (by rfl) 21 _ _ rfl Try.func21 (by kernel_rfl) #[.agg (tsC s c)] rfl _ (hY _) ?_
 intro z1005 k
 simp only [Act.put, pu]
 replace r1 := k.row r1 (by simp <;> omega)
 replace r4 := k.row r4 (by simp <;> omega)
 replace sb := sb.trans (k.below w.heap.size sb.size (by simp <;> omega))
 clear k
 refine pw_value (by rfl) (.bool true) (exec_not _ _ rfl false rfl) ?_
 simp only [Act.put, pu]
 refine pw_pick (by rfl) false (v := .bool true) rfl rfl rfl ?_
 simp only [Act.put, pu]
 refine pw_nil ?_
 (repeat ((fail_if_success with_reducible refine rg ?_); go_step))
 refine wp_region_pw ?_
 refine pw_value (by rfl) (.int .i64 0) (fun _ => rfl) ?_
 simp only [Act.put, pu]
 refine pw_nil ?_
 go_wp2
 go_ret
 exact ⟨rfl, sb⟩
set_option maxRecDepth 100000 in
set_option maxHeartbeats 2000000 in
theorem cnt_yes (g1 m : Nat) (V : Nat → Vt) (s c : Int) (d : List UInt8) (w : World) (r1 : Row w g1 (voC (m : Nat) V) 51) (hm : 1 ≤ m) (hm7 : m ≤ 7) (h : stB s c = true) :
  Calls Try.prog 11 #[.pointer (some ⟨g1, 0, none⟩), .agg (tsC s c), .string ⟨d.toArray⟩] w fun e w' => e = .returned (.int .i64 (cb (isV V s c d) m : Nat)) ∧ Below w.heap.size w w' := by
 have hY := fun w' => smay_any s c w'
 have hP := fun w' => par_any s c w'
 rw [h] at hY
 have HS : Hid (stB s c = true) := h
 clear h
 go_enter Try.func11, Try.ntmps11
 have sb := sbmk w
 (repeat ((fail_if_success with_reducible refine rg ?_); go_step))
 refine wp_region_pw ?_
 refine pw_boxr (by rfl) 32 _ rfl (tsC s c) rfl ?_
 intro g4 z0 n0 r4 k
 simp only [Act.put, pu]
 have d1x4 := Nat.lt_of_lt_of_le r1.lt n0
 have b4 := Nat.le_trans sb.size n0
 clear n0
 replace r1 := k.row r1 (by simp <;> omega)
 replace sb := sb.trans (k.below w.heap.size sb.size (by simp <;> omega))
 clear k
 refine pw_value (by rfl) (.int .i64 0) (fun _ => rfl) ?_
 simp only [Act.put, pu]
 refine pw_nil ?_
 (repeat ((fail_if_success with_reducible refine rg ?_); go_step))
 refine wp_region_pw ?_
 refine pw_mv (by rfl) rfl rfl ?_
 simp only [Act.put, pu]
 refine pw_callB (by rfl) 23 _ _ rfl Try.func23 (by kernel_rfl) #[.pointer (some ⟨g1, 0, none⟩)] rfl _ (made_yes g1 _ V _ r1 (by omega)) ?_
 intro z1001 k
 simp only [Act.put, pu]
 replace r1 := k.row r1 (by simp <;> omega)
 replace r4 := k.row r4 (by simp <;> omega)
 replace sb := sb.trans (k.below w.heap.size sb.size (by simp <;> omega))
 clear k
 refine pw_value (by rfl) (.bool false) (exec_not _ _ rfl true rfl) ?_
 simp only [Act.put, pu]
 refine pw_mv (by rfl) rfl rfl ?_
 simp only [Act.put, pu]
 refine pw_loadm (by rfl) 32 _ rfl _ 0 rfl r4.r _ (part_all _) _ Try.underlying32 rfl size_st ?_
 simp only [Act.put, pu]
 refine pw_callB (by rfl) 21 _ _ rfl Try.func21 (by kernel_rfl) #[.agg (tsC s c)] rfl _ (hY _) ?_
 intro z1005 k
 simp only [Act.put, pu]
 replace r1 := k.row r1 (by simp <;> omega)
 replace r4 := k.row r4 (by simp <;> omega)
 replace sb := sb.trans (k.below w.heap.size sb.size (by simp <;> omega))
 clear k
 refine pw_value (by rfl) (.bool false) (exec_not _ _ rfl true rfl) ?_
 simp only [Act.put, pu]
 refine pw_pick (by rfl) false (v := .bool false) rfl rfl rfl ?_
 simp only [Act.put, pu]
 refine pw_nil ?_
 (repeat ((fail_if_success with_reducible refine rg ?_); go_step))
 refine wp_region_pw ?_
 refine pw_loadm (by rfl) 32 _ rfl _ 0 rfl r4.r _ (part_all _) _ Try.underlying32 rfl size_st ?_
 simp only [Act.put, pu]
 refine pw_mv (by rfl) rfl rfl ?_
 simp only [Act.put, pu]
 refine pw_value (by rfl) (.agg (voA (s, c, d))) (exec_buildv _ [(0, _), (1, _)] rfl [(0, .agg (tsC s c)), (1, .string ⟨d.toArray⟩)] rfl _ (built_vo s c d)) ?_
 simp only [Act.put, pu]
 refine pw_new (by rfl) 46 rfl _ zero_vo ?_
 intro g7 z3003 n0 r7 k
 simp only [Act.put, pu]
 have d1x7 := Nat.lt_of_lt_of_le r1.lt n0
 have d4x7 := Nat.lt_of_lt_of_le r4.lt n0
 have b7 := Nat.le_trans sb.size n0
 clear n0
 replace r1 := k.row r1 (by simp <;> omega)
 replace r4 := k.row r4 (by simp <;> omega)
 replace sb := sb.trans (k.below w.heap.size sb.size (by simp <;> omega))
 clear k
 refine pw_put (by rfl) 46 _ _ rfl _ rfl r7 (voA (s, c, d)) rfl (by exact size_vo) (by rfl) (vo_one _) ?_
 clear r7
 intro z3004 r7 k
 simp only [Act.put]
 replace r1 := k.row r1 (by simp <;> omega)
 replace r4 := k.row r4 (by simp <;> omega)
 replace sb := sb.trans (k.below w.heap.size sb.size (by simp <;> omega))
 clear k
 refine pw_nil ?_
 (repeat ((fail_if_success with_reducible refine rg ?_); go_step))
 refine wp_region_pw ?_
 refine pw_value (by rfl) (.int .i64 0) (fun _ => rfl) ?_
 simp only [Act.put, pu]
 refine pw_nil ?_
 (repeat ((fail_if_success with_reducible refine rg ?_); go_step))
 refine wp_region_pw ?_
 refine pw_mv (by rfl) rfl rfl ?_
 simp only [Act.put, pu]
 refine pw_value (by rfl) (.pointer (some ⟨g1, 0, none⟩)) (exec_nil _ rfl g1 (0) rfl) ?_
 simp only [Act.put, pu]
 refine pw_value (by rfl) (.pointer (some ⟨g1, 0, none⟩)) (exec_field 51 _ 0 rfl g1 0 rfl _ Try.underlying51 _ rfl 0 Try.sizeOf3) ?_
 simp only [Act.put, pu]
 refine pw_loadk (by rfl) 3 _ rfl _ (0) rfl r1.r (.int .i64 (m : Nat)) (voC_zero _ _) Try.isAgg3 ?_
 simp only [Act.put, pu]
 refine pw_value (by rfl) (.int .i64 0) (fun _ => rfl) ?_
 simp only [Act.put, pu]
 refine pw_nil ?_
 go_wp2_with fail
 go_loopg [8, 9, 25] m (fun x s8 s9 s25 wr => ∃ j : Nat, j + x = m ∧ s8 = .int .i64 (cb (isV V s c d) j : Nat) ∧ s25 = .int .i64 j ∧ Row wr g1 (voC (m : Nat) V) 51 ∧ Row wr g4 (tsC s c) 32 ∧ Row wr g7 (voA (s, c, d)) 46 ∧ Below w.heap.size w wr)
 case atStart => exact ⟨0, by omega, rfl, rfl, r1, r4, r7, sb⟩
 case round =>
  clear sb r1 r4 r7
  obtain ⟨j, hj, rfl, rfl, r1, r4, r7, sb⟩ := hrel
  cases gk with
  | zero =>
   obtain rfl : j = m := by omega
   clear hj
   (repeat ((fail_if_success with_reducible refine rg ?_); go_step))
   refine wp_region_pw ?_
   refine pw_value (by rfl) (.bool false) (exec_lt_b _ _ _ _ rfl ((j : Nat)) ((j : Nat)) rfl rfl false (decide_eq_false (Int.lt_irrefl _))) ?_
   simp only [Act.put, pu]
   refine pw_nil ?_
   (repeat ((fail_if_success with_reducible refine rg ?_); go_step))
   refine wp_region_pw ?_
   refine pw_mv (by rfl) rfl rfl ?_
   simp only [Act.put, pu]
   refine pw_as (by rfl) rfl rfl ?_
   simp only [Act.put, pu]
   refine pw_nil ?_
   go_wp2
   go_ret
   exact ⟨rfl, sb⟩
  | succ y =>
   have hlt : j < m := by omega
   have hs := stB_yes HS.out
   have hpl : plB (m : Nat) ((j : Int) + 1) c (s % 2) = true := decide_eq_true (by omega)
   have hi := plI_lt (by omega) hpl
   have hL := fun w' (hb : Below w.heap.size w w') (r : Row w' g1 (voC (m : Nat) V) 51) => place_yes g1 (m : Nat) V ((j : Int) + 1) c (s % 2) w' r (by omega) hpl
   have hv := voC_part (n := (m : Nat)) (V := V) _ hi _ rfl
   have hle := cb_le (isV V s c d) j
   have hcy : isV V s c d j = true → cb (isV V s c d) (j + 1) = cb (isV V s c d) j + 1 := cb_yes
   have hcn : isV V s c d j = false → cb (isV V s c d) (j + 1) = cb (isV V s c d) j := cb_no
   unfold isV at hcy hcn
   have HY1 : Hid (decide (V (plI ((j : Int) + 1) c (s % 2)) = (s, c, d)) = true → cb (isV V s c d) (j + 1) = cb (isV V s c d) j + 1) := hcy
   have HN1 : Hid (decide (V (plI ((j : Int) + 1) c (s % 2)) = (s, c, d)) = false → cb (isV V s c d) (j + 1) = cb (isV V s c d) j) := hcn
   clear hcy hcn hs hpl hY
   generalize V (plI ((j : Int) + 1) c (s % 2)) = x at *
   generalize plI ((j : Int) + 1) c (s % 2) = i at *
   obtain ⟨u', hu'⟩ : ∃ u', cb (isV V s c d) (j + 1) = u' := ⟨_, rfl⟩
   rw [hu'] at HY1 HN1
   have HU : Hid (cb (isV V s c d) (j + 1) = u') := hu'
   clear hu'
   generalize cb (isV V s c d) j = u at *
   by_cases hx0 : x = (s, c, d)
   ·have hx := decide_eq_true hx0
    have HE : Hid (u' = u + 1) := HY1.out hx
    clear HY1 HN1 hx0
    (repeat ((fail_if_success with_reducible refine rg ?_); go_step))
    refine wp_region_pw ?_
    refine pw_value (by rfl) (.bool true) (exec_lt_b _ _ _ _ rfl ((j : Nat)) ((m : Nat)) rfl rfl true (decide_eq_true (by omega))) ?_
    simp only [Act.put, pu]
    refine pw_nil ?_
    (repeat ((fail_if_success with_reducible refine rg ?_); go_step))
    refine wp_region_pw ?_
    refine pw_mv (by rfl) rfl rfl ?_
    simp only [Act.put, pu]
    refine pw_as (by rfl) rfl rfl ?_
    simp only [Act.put, pu]
    refine pw_nil ?_
    (repeat ((fail_if_success with_reducible refine rg ?_); go_step))
    refine wp_region_qw (by kernel_rfl) (by kernel_rfl) ?_
    refine qw_move (by rfl) rfl rfl ?_
    simp only [Act.put, pu]
    refine qw_move (by rfl) rfl rfl ?_
    simp only [Act.put, pu]
    refine qw_value (by rfl) (.int .i64 ((j : Int) + 1)) (x_addz _ _ _ _ rfl (j : Int) 1 ((j : Int) + 1) rfl rfl rfl (by omega) (by omega)) ?_
    simp only [Act.put, pu]
    refine qw_value (by rfl) (.pointer (some ⟨g4, 1, none⟩)) (exec_field 32 _ 1 rfl g4 0 rfl _ Try.underlying32 _ rfl 0 Try.sizeOf3) ?_
    simp only [Act.put, pu]
    refine qw_loadc (by rfl) 3 _ rfl _ (1) rfl r4 (.int .i64 c) rfl Try.isAgg3 ?_
    simp only [Act.put, pu]
    refine qw_loadm (by rfl) 32 _ rfl _ (0) rfl r4 ((tsC s c)) (part_all _) _ Try.underlying32 rfl size_st ?_
    simp only [Act.put, pu]
    refine qw_call (by rfl) 20 _ _ rfl Try.func20 (by kernel_rfl) #[.agg (tsC s c)] rfl _ hP ?_
    simp only [Act.put, pu]
    refine qw_callK (by rfl) 19 _ _ rfl Try.func19 (by kernel_rfl) #[.pointer (some ⟨g1, 0, none⟩), .int .i64 ((j : Int) + 1), .int .i64 c, .int .i64 (s % 2)] rfl _ (fun w' hb => hL w' (below_on sb (Nat.le_refl _) hb) (r1.belowAll hb)) ?_
    simp only [Act.put, pu]
    refine qw_value (by rfl) (.pointer (some ⟨g1, 1 + i * 3, none⟩)) (exec_nil _ rfl g1 (1 + i * 3) rfl) ?_
    simp only [Act.put, pu]
    refine qw_loadm (by rfl) 46 _ rfl _ (1 + i * 3) rfl r1 ((voA x)) hv _ Try.underlying46 rfl size_vo ?_
    simp only [Act.put, pu]
    refine qw_loadm (by rfl) 46 _ rfl _ (0) rfl r7 ((voA (s, c, d))) (part_all _) _ Try.underlying46 rfl size_vo ?_
    simp only [Act.put, pu]
    refine qw_value (by rfl) (.bool true) (exec_eql_vo _ _ _ rfl x (s, c, d) rfl rfl true hx) ?_
    simp only [Act.put, pu]
    refine qw_nil ?_
    intro w9 hqb
    replace r1 := r1.belowAll hqb
    replace r4 := r4.belowAll hqb
    replace r7 := r7.belowAll hqb
    replace sb := below_on sb (Nat.le_refl _) hqb
    clear hqb
    (repeat ((fail_if_success with_reducible refine rg ?_); go_step))
    refine wp_region_pw ?_
    refine pw_mv (by rfl) rfl rfl ?_
    simp only [Act.put, pu]
    refine pw_value (by rfl) (.int .i64 (((u + 1 : Nat) : Int))) (x_addz _ _ _ _ rfl ((u : Nat)) (1) (((u + 1 : Nat) : Int)) rfl rfl (by omega) (by omega) (by omega)) ?_
    simp only [Act.put, pu]
    refine pw_as (by rfl) rfl rfl ?_
    simp only [Act.put, pu]
    refine pw_nil ?_
    (repeat ((fail_if_success with_reducible refine rg ?_); go_step))
    refine wp_region_pw ?_
    refine pw_value (by rfl) (.int .i64 (((j + 1 : Nat) : Int))) (x_addz _ _ _ _ rfl ((j : Nat)) (1) (((j + 1 : Nat) : Int)) rfl rfl (by omega) (by omega) (by omega)) ?_
    simp only [Act.put, pu]
    refine pw_mv (by rfl) rfl rfl ?_
    simp only [Act.put, pu]
    refine pw_nil ?_
    go_wp2
    go_roundg y
    case measure => omega
    case rel => exact ⟨j + 1, by omega, by rw [HU.out, HE.out], rfl, r1, r4, r7, sb⟩
   ·have hx := decide_eq_false hx0
    have HE : Hid (u' = u) := HN1.out hx
    clear HY1 HN1 hx0
    (repeat ((fail_if_success with_reducible refine rg ?_); go_step))
    refine wp_region_pw ?_
    refine pw_value (by rfl) (.bool true) (exec_lt_b _ _ _ _ rfl ((j : Nat)) ((m : Nat)) rfl rfl true (decide_eq_true (by omega))) ?_
    simp only [Act.put, pu]
    refine pw_nil ?_
    (repeat ((fail_if_success with_reducible refine rg ?_); go_step))
    refine wp_region_pw ?_
    refine pw_mv (by rfl) rfl rfl ?_
    simp only [Act.put, pu]
    refine pw_as (by rfl) rfl rfl ?_
    simp only [Act.put, pu]
    refine pw_nil ?_
    (repeat ((fail_if_success with_reducible refine rg ?_); go_step))
    refine wp_region_qw (by kernel_rfl) (by kernel_rfl) ?_
    refine qw_move (by rfl) rfl rfl ?_
    simp only [Act.put, pu]
    refine qw_move (by rfl) rfl rfl ?_
    simp only [Act.put, pu]
    refine qw_value (by rfl) (.int .i64 ((j : Int) + 1)) (x_addz _ _ _ _ rfl (j : Int) 1 ((j : Int) + 1) rfl rfl rfl (by omega) (by omega)) ?_
    simp only [Act.put, pu]
    refine qw_value (by rfl) (.pointer (some ⟨g4, 1, none⟩)) (exec_field 32 _ 1 rfl g4 0 rfl _ Try.underlying32 _ rfl 0 Try.sizeOf3) ?_
    simp only [Act.put, pu]
    refine qw_loadc (by rfl) 3 _ rfl _ (1) rfl r4 (.int .i64 c) rfl Try.isAgg3 ?_
    simp only [Act.put, pu]
    refine qw_loadm (by rfl) 32 _ rfl _ (0) rfl r4 ((tsC s c)) (part_all _) _ Try.underlying32 rfl size_st ?_
    simp only [Act.put, pu]
    refine qw_call (by rfl) 20 _ _ rfl Try.func20 (by kernel_rfl) #[.agg (tsC s c)] rfl _ hP ?_
    simp only [Act.put, pu]
    refine qw_callK (by rfl) 19 _ _ rfl Try.func19 (by kernel_rfl) #[.pointer (some ⟨g1, 0, none⟩), .int .i64 ((j : Int) + 1), .int .i64 c, .int .i64 (s % 2)] rfl _ (fun w' hb => hL w' (below_on sb (Nat.le_refl _) hb) (r1.belowAll hb)) ?_
    simp only [Act.put, pu]
    refine qw_value (by rfl) (.pointer (some ⟨g1, 1 + i * 3, none⟩)) (exec_nil _ rfl g1 (1 + i * 3) rfl) ?_
    simp only [Act.put, pu]
    refine qw_loadm (by rfl) 46 _ rfl _ (1 + i * 3) rfl r1 ((voA x)) hv _ Try.underlying46 rfl size_vo ?_
    simp only [Act.put, pu]
    refine qw_loadm (by rfl) 46 _ rfl _ (0) rfl r7 ((voA (s, c, d))) (part_all _) _ Try.underlying46 rfl size_vo ?_
    simp only [Act.put, pu]
    refine qw_value (by rfl) (.bool false) (exec_eql_vo _ _ _ rfl x (s, c, d) rfl rfl false hx) ?_
    simp only [Act.put, pu]
    refine qw_nil ?_
    intro w9 hqb
    replace r1 := r1.belowAll hqb
    replace r4 := r4.belowAll hqb
    replace r7 := r7.belowAll hqb
    replace sb := below_on sb (Nat.le_refl _) hqb
    clear hqb
    (repeat ((fail_if_success with_reducible refine rg ?_); go_step))
    refine wp_region_pw ?_
    refine pw_value (by rfl) (.int .i64 (((j + 1 : Nat) : Int))) (x_addz _ _ _ _ rfl ((j : Nat)) (1) (((j + 1 : Nat) : Int)) rfl rfl (by omega) (by omega) (by omega)) ?_
    simp only [Act.put, pu]
    refine pw_mv (by rfl) rfl rfl ?_
    simp only [Act.put, pu]
    refine pw_nil ?_
    go_wp2
    go_roundg y
    case measure => omega
    case rel => exact ⟨j + 1, by omega, by rw [HU.out, HE.out], rfl, r1, r4, r7, sb⟩
theorem cnt_any (g1 m : Nat) (V : Nat → Vt) (s c : Int) (d : List UInt8) (w : World) (r1 : Row w g1 (voC (m : Nat) V) 51) (hm : 1 ≤ m) (hm7 : m ≤ 7) :
  Calls Try.prog 11 #[.pointer (some ⟨g1, 0, none⟩), .agg (tsC s c), .string ⟨d.toArray⟩] w fun e w' => e = .returned (.int .i64 (cntN m V s c d : Nat)) ∧ Below w.heap.size w w' := by
 cases h : stB s c with
 | true =>
  rw [show cntN m V s c d = cb (isV V s c d) m from if_pos h]
  exact cnt_yes g1 m V s c d w r1 hm hm7 h
 | false =>
  rw [show cntN m V s c d = 0 from if_neg (by rw [h]; decide)]
  exact cnt_may g1 m V s c d w r1 hm h
end Go.Proofs.Ytdbcikhineghcaa
