/- stamp's functions, and the document's of layer 20. -/
import Derived.Test.YtdgbjmolinoplaaStBase
namespace Go.Proofs.Ytdgbjmolinoplaa
open Go.RowKit
set_option linter.unusedVariables false
set_option linter.unusedSectionVars false
set_option linter.unusedSimpArgs false
set_option maxRecDepth 100000 in
set_option maxHeartbeats 2000000 in
theorem nan_any (z : Int) (w : World) :
  Calls Try.prog 24 #[.int .i64 z] w fun e w' => e = .returned (.bool false) ∧ Below w.heap.size w w' := by
 go_enter Try.func24, Try.ntmps24
 have sb := sbmk w
 (repeat ((fail_if_success with_reducible refine rg ?_); go_step))
 refine wp_region_pw ?_
 refine pw_value (by rfl) (.bool false) (fun _ => rfl) ?_
 simp only [Act.put, pu]
 refine pw_nil ?_
 (repeat ((fail_if_success with_reducible refine rg ?_); go_step))
 refine wp_region_pw ?_
 refine pw_mv (by rfl) rfl rfl ?_
 simp only [Act.put, pu]
 refine pw_mv (by rfl) rfl rfl ?_
 simp only [Act.put, pu]
 refine pw_value (by rfl) (.bool false) (exec_neq_k .i64 _ _ _ _ rfl z z rfl rfl false (by rw [decide_eq_true rfl]; rfl)) ?_
 simp only [Act.put, pu]
 refine pw_as (by rfl) rfl rfl ?_
 simp only [Act.put, pu]
 refine pw_nil ?_
 go_wp2
 go_ret
 exact ⟨rfl, sb⟩
set_option maxRecDepth 100000 in
set_option maxHeartbeats 2000000 in
theorem ccmp_any (x y : Int) (w : World) :
  Calls Try.prog 19 #[.int .i64 x, .int .i64 y] w fun e w' => e = .returned (.int .i64 (cpz x y)) ∧ Below w.heap.size w w' := by
 go_enter Try.func19, Try.ntmps19
 have sb := sbmk w
 by_cases h1 : x < y
 ·rw [show cpz x y = -1 from if_pos h1]
  (repeat ((fail_if_success with_reducible refine rg ?_); go_step))
  refine wp_region_pw ?_
  refine pw_value (by rfl) (.int .i64 0) (fun _ => rfl) ?_
  simp only [Act.put, pu]
  refine pw_nil ?_
  (repeat ((fail_if_success with_reducible refine rg ?_); go_step))
  refine wp_region_pw ?_
  refine pw_mv (by rfl) rfl rfl ?_
  simp only [Act.put, pu]
  refine pw_callB (by rfl) 24 _ _ rfl Try.func24 (by kernel_rfl) #[.int .i64 x] rfl _ (nan_any x _) ?_
  intro z1001 k
  simp only [Act.put, pu]
  replace sb := sb.trans (k.below w.heap.size sb.size (by simp <;> omega))
  clear k
  refine pw_as (by rfl) rfl rfl ?_
  simp only [Act.put, pu]
  refine pw_nil ?_
  (repeat ((fail_if_success with_reducible refine rg ?_); go_step))
  refine wp_region_pw ?_
  refine pw_mv (by rfl) rfl rfl ?_
  simp only [Act.put, pu]
  refine pw_callB (by rfl) 24 _ _ rfl Try.func24 (by kernel_rfl) #[.int .i64 y] rfl _ (nan_any y _) ?_
  intro z2001 k
  simp only [Act.put, pu]
  replace sb := sb.trans (k.below w.heap.size sb.size (by simp <;> omega))
  clear k
  refine pw_as (by rfl) rfl rfl ?_
  simp only [Act.put, pu]
  refine pw_nil ?_
  (repeat ((fail_if_success with_reducible refine rg ?_); go_step))
  refine wp_region_pw ?_
  refine pw_mv (by rfl) rfl rfl ?_
  simp only [Act.put, pu]
  refine pw_nil ?_
  (repeat ((fail_if_success with_reducible refine rg ?_); go_step))
  refine wp_region_pw ?_
  refine pw_mv (by rfl) rfl rfl ?_
  simp only [Act.put, pu]
  refine pw_nil ?_
  (repeat ((fail_if_success with_reducible refine rg ?_); go_step))
  refine wp_region_pw ?_
  refine pw_mv (by rfl) rfl rfl ?_
  simp only [Act.put, pu]
  refine pw_mv (by rfl) rfl rfl ?_
  simp only [Act.put, pu]
  refine pw_value (by rfl) (.bool true) (exec_lt_b _ _ _ _ rfl x y rfl rfl true (decide_eq_true h1)) ?_
  simp only [Act.put, pu]
  refine pw_nil ?_
  (repeat ((fail_if_success with_reducible refine rg ?_); go_step))
  refine wp_region_pw ?_
  refine pw_move (by rfl) (.inr rfl) rfl ?_
  simp only [Act.put, pu]
  refine pw_nil ?_
  go_wp2
  go_ret
  exact ⟨rfl, sb⟩
 ·by_cases h2 : x > y
  ·rw [show cpz x y = 1 by unfold cpz; rw [if_neg h1, if_pos h2]]
   (repeat ((fail_if_success with_reducible refine rg ?_); go_step))
   refine wp_region_pw ?_
   refine pw_value (by rfl) (.int .i64 0) (fun _ => rfl) ?_
   simp only [Act.put, pu]
   refine pw_nil ?_
   (repeat ((fail_if_success with_reducible refine rg ?_); go_step))
   refine wp_region_pw ?_
   refine pw_mv (by rfl) rfl rfl ?_
   simp only [Act.put, pu]
   refine pw_callB (by rfl) 24 _ _ rfl Try.func24 (by kernel_rfl) #[.int .i64 x] rfl _ (nan_any x _) ?_
   intro z1001 k
   simp only [Act.put, pu]
   replace sb := sb.trans (k.below w.heap.size sb.size (by simp <;> omega))
   clear k
   refine pw_as (by rfl) rfl rfl ?_
   simp only [Act.put, pu]
   refine pw_nil ?_
   (repeat ((fail_if_success with_reducible refine rg ?_); go_step))
   refine wp_region_pw ?_
   refine pw_mv (by rfl) rfl rfl ?_
   simp only [Act.put, pu]
   refine pw_callB (by rfl) 24 _ _ rfl Try.func24 (by kernel_rfl) #[.int .i64 y] rfl _ (nan_any y _) ?_
   intro z2001 k
   simp only [Act.put, pu]
   replace sb := sb.trans (k.below w.heap.size sb.size (by simp <;> omega))
   clear k
   refine pw_as (by rfl) rfl rfl ?_
   simp only [Act.put, pu]
   refine pw_nil ?_
   (repeat ((fail_if_success with_reducible refine rg ?_); go_step))
   refine wp_region_pw ?_
   refine pw_mv (by rfl) rfl rfl ?_
   simp only [Act.put, pu]
   refine pw_nil ?_
   (repeat ((fail_if_success with_reducible refine rg ?_); go_step))
   refine wp_region_pw ?_
   refine pw_mv (by rfl) rfl rfl ?_
   simp only [Act.put, pu]
   refine pw_nil ?_
   (repeat ((fail_if_success with_reducible refine rg ?_); go_step))
   refine wp_region_pw ?_
   refine pw_mv (by rfl) rfl rfl ?_
   simp only [Act.put, pu]
   refine pw_mv (by rfl) rfl rfl ?_
   simp only [Act.put, pu]
   refine pw_value (by rfl) (.bool false) (exec_lt_b _ _ _ _ rfl x y rfl rfl false (decide_eq_false h1)) ?_
   simp only [Act.put, pu]
   refine pw_nil ?_
   (repeat ((fail_if_success with_reducible refine rg ?_); go_step))
   refine wp_region_pw ?_
   refine pw_mv (by rfl) rfl rfl ?_
   simp only [Act.put, pu]
   refine pw_mv (by rfl) rfl rfl ?_
   simp only [Act.put, pu]
   refine pw_value (by rfl) (.bool true) (exec_gt_i _ _ _ _ rfl x y rfl rfl true (decide_eq_true h2)) ?_
   simp only [Act.put, pu]
   refine pw_nil ?_
   (repeat ((fail_if_success with_reducible refine rg ?_); go_step))
   refine wp_region_pw ?_
   refine pw_value (by rfl) (.int .i64 1) (fun _ => rfl) ?_
   simp only [Act.put, pu]
   refine pw_nil ?_
   go_wp2
   go_ret
   exact ⟨rfl, sb⟩
  ·rw [show cpz x y = 0 by unfold cpz; rw [if_neg h1, if_neg h2]]
   (repeat ((fail_if_success with_reducible refine rg ?_); go_step))
   refine wp_region_pw ?_
   refine pw_value (by rfl) (.int .i64 0) (fun _ => rfl) ?_
   simp only [Act.put, pu]
   refine pw_nil ?_
   (repeat ((fail_if_success with_reducible refine rg ?_); go_step))
   refine wp_region_pw ?_
   refine pw_mv (by rfl) rfl rfl ?_
   simp only [Act.put, pu]
   refine pw_callB (by rfl) 24 _ _ rfl Try.func24 (by kernel_rfl) #[.int .i64 x] rfl _ (nan_any x _) ?_
   intro z1001 k
   simp only [Act.put, pu]
   replace sb := sb.trans (k.below w.heap.size sb.size (by simp <;> omega))
   clear k
   refine pw_as (by rfl) rfl rfl ?_
   simp only [Act.put, pu]
   refine pw_nil ?_
   (repeat ((fail_if_success with_reducible refine rg ?_); go_step))
   refine wp_region_pw ?_
   refine pw_mv (by rfl) rfl rfl ?_
   simp only [Act.put, pu]
   refine pw_callB (by rfl) 24 _ _ rfl Try.func24 (by kernel_rfl) #[.int .i64 y] rfl _ (nan_any y _) ?_
   intro z2001 k
   simp only [Act.put, pu]
   replace sb := sb.trans (k.below w.heap.size sb.size (by simp <;> omega))
   clear k
   refine pw_as (by rfl) rfl rfl ?_
   simp only [Act.put, pu]
   refine pw_nil ?_
   (repeat ((fail_if_success with_reducible refine rg ?_); go_step))
   refine wp_region_pw ?_
   refine pw_mv (by rfl) rfl rfl ?_
   simp only [Act.put, pu]
   refine pw_nil ?_
   (repeat ((fail_if_success with_reducible refine rg ?_); go_step))
   refine wp_region_pw ?_
   refine pw_mv (by rfl) rfl rfl ?_
   simp only [Act.put, pu]
   refine pw_nil ?_
   (repeat ((fail_if_success with_reducible refine rg ?_); go_step))
   refine wp_region_pw ?_
   refine pw_mv (by rfl) rfl rfl ?_
   simp only [Act.put, pu]
   refine pw_mv (by rfl) rfl rfl ?_
   simp only [Act.put, pu]
   refine pw_value (by rfl) (.bool false) (exec_lt_b _ _ _ _ rfl x y rfl rfl false (decide_eq_false h1)) ?_
   simp only [Act.put, pu]
   refine pw_nil ?_
   (repeat ((fail_if_success with_reducible refine rg ?_); go_step))
   refine wp_region_pw ?_
   refine pw_mv (by rfl) rfl rfl ?_
   simp only [Act.put, pu]
   refine pw_mv (by rfl) rfl rfl ?_
   simp only [Act.put, pu]
   refine pw_value (by rfl) (.bool false) (exec_gt_i _ _ _ _ rfl x y rfl rfl false (decide_eq_false h2)) ?_
   simp only [Act.put, pu]
   refine pw_nil ?_
   (repeat ((fail_if_success with_reducible refine rg ?_); go_step))
   refine wp_region_pw ?_
   refine pw_value (by rfl) (.int .i64 0) (fun _ => rfl) ?_
   simp only [Act.put, pu]
   refine pw_nil ?_
   go_wp2
   go_ret
   exact ⟨rfl, sb⟩
set_option maxRecDepth 100000 in
set_option maxHeartbeats 2000000 in
theorem cor_any (ab : Option Addr) (n c : Nat) (Z : Nat → Int) (gb ob : Nat) (bcs : Array Value) (tb : TypeId) (r : Int) (w : World) (hz : ZsAt w ab n Z gb ob bcs tb) (hn : n < 4611686018427387904) (hr : orF Z 0 n = r) :
  Calls Try.prog 18 #[.slice ab n c] w fun e w' => e = .returned (.int .i64 r) ∧ Below w.heap.size w w' := by
 have HB : Hid (ZsAt w ab n Z gb ob bcs tb) := hz
 clear hz
 go_enter Try.func18, Try.ntmps18
 have sb := sbmk w
 (repeat ((fail_if_success with_reducible refine rg ?_); go_step))
 refine wp_region_pw ?_
 refine pw_value (by rfl) (.int .i64 0) (fun _ => rfl) ?_
 simp only [Act.put, pu]
 refine pw_nil ?_
 (repeat ((fail_if_success with_reducible refine rg ?_); go_step))
 refine wp_region_pw ?_
 refine pw_value (by rfl) (.int .i64 0) (fun _ => rfl) ?_
 simp only [Act.put, pu]
 refine pw_nil ?_
 (repeat ((fail_if_success with_reducible refine rg ?_); go_step))
 refine wp_region_pw ?_
 refine pw_mv (by rfl) rfl rfl ?_
 simp only [Act.put, pu]
 refine pw_value (by rfl) (.int .i64 (n : Nat)) (exec_len_s 31 _ rfl (ab) (n) (c) rfl sl_intsX) ?_
 simp only [Act.put, pu]
 refine pw_value (by rfl) (.int .i64 0) (fun _ => rfl) ?_
 simp only [Act.put, pu]
 refine pw_nil ?_
 go_wp2_with fail
 go_loopg [5, 8] n (fun x s5 s8 wr => ∃ k : Nat, k + x = n ∧ s8 = .int .i64 k ∧ orF Z k x = r ∧ Below w.heap.size w wr)
 case atStart => exact ⟨0, by omega, rfl, hr, sb⟩
 case round =>
  clear sb hr
  obtain ⟨k, hk, rfl, hr, sb⟩ := hrel
  cases gk with
  | zero =>
   obtain rfl : k = n := by omega
   obtain rfl : 0 = r := hr
   clear hk
   (repeat ((fail_if_success with_reducible refine rg ?_); go_step))
   refine wp_region_pw ?_
   refine pw_value (by rfl) (.bool false) (exec_lt_b _ _ _ _ rfl (k) (k) rfl rfl false (decide_eq_false (Int.lt_irrefl _))) ?_
   simp only [Act.put, pu]
   refine pw_nil ?_
   (repeat ((fail_if_success with_reducible refine rg ?_); go_step))
   refine wp_region_pw ?_
   refine pw_mv (by rfl) rfl rfl ?_
   simp only [Act.put, pu]
   refine pw_as (by rfl) rfl rfl ?_
   simp only [Act.put, pu]
   refine pw_nil ?_
   go_wp2
   go_ret
   exact ⟨rfl, sb⟩
  | succ x =>
   have hlt : k < n := by omega
   have hr' : (if Z k = 0 then orF Z (k + 1) x else Z k) = r := hr
   clear hr
   obtain h0 | ⟨rfl, rB, hbt⟩ := (HB.out.below sb).at'
   ·exact absurd h0 (by omega)
   have hbt' := hbt k hlt
   clear hbt
   by_cases h1 : Z k = 0
   ·rw [if_pos h1] at hr'
    (repeat ((fail_if_success with_reducible refine rg ?_); go_step))
    refine wp_region_pw ?_
    refine pw_value (by rfl) (.bool true) (exec_lt_b _ _ _ _ rfl (k) (n) rfl rfl true (decide_eq_true (by omega))) ?_
    simp only [Act.put, pu]
    refine pw_nil ?_
    (repeat ((fail_if_success with_reducible refine rg ?_); go_step))
    refine wp_region_pw ?_
    refine pw_value (by rfl) (.pointer (some ⟨gb, ob + k * 1, none⟩)) ((exec_index_s 31 _ _ rfl gb ob (n) (c) rfl (k) rfl (hlt) _ Try.underlying31 1 Try.sizeOf3)) ?_
    simp only [Act.put, pu]
    refine pw_loadk (by rfl) 3 _ rfl _ (ob + k * 1) rfl rB (.int .i64 (Z k)) hbt' Try.isAgg3 ?_
    simp only [Act.put, pu]
    refine pw_as (by rfl) rfl rfl ?_
    simp only [Act.put, pu]
    refine pw_nil ?_
    (repeat ((fail_if_success with_reducible refine rg ?_); go_step))
    refine wp_region_pw ?_
    refine pw_mv (by rfl) rfl rfl ?_
    simp only [Act.put, pu]
    refine pw_mv (by rfl) rfl rfl ?_
    simp only [Act.put, pu]
    refine pw_value (by rfl) (.bool false) (exec_neq_k .i64 _ _ _ _ rfl (Z k) (0) rfl rfl false (by rw [decide_eq_true (by omega)]; rfl)) ?_
    simp only [Act.put, pu]
    refine pw_nil ?_
    (repeat ((fail_if_success with_reducible refine rg ?_); go_step))
    refine wp_region_pw ?_
    refine pw_value (by rfl) (.int .i64 ((k + 1 : Nat))) (x_addz _ _ _ _ rfl (k) (1) ((k + 1 : Nat)) rfl rfl (by omega) (by omega) (by omega)) ?_
    simp only [Act.put, pu]
    refine pw_mv (by rfl) rfl rfl ?_
    simp only [Act.put, pu]
    refine pw_nil ?_
    go_wp2
    go_roundg x
    case measure => omega
    case rel => exact ⟨k + 1, by omega, rfl, hr', sb⟩
   ·rw [if_neg h1] at hr'
    subst hr'
    (repeat ((fail_if_success with_reducible refine rg ?_); go_step))
    refine wp_region_pw ?_
    refine pw_value (by rfl) (.bool true) (exec_lt_b _ _ _ _ rfl (k) (n) rfl rfl true (decide_eq_true (by omega))) ?_
    simp only [Act.put, pu]
    refine pw_nil ?_
    (repeat ((fail_if_success with_reducible refine rg ?_); go_step))
    refine wp_region_pw ?_
    refine pw_value (by rfl) (.pointer (some ⟨gb, ob + k * 1, none⟩)) ((exec_index_s 31 _ _ rfl gb ob (n) (c) rfl (k) rfl (hlt) _ Try.underlying31 1 Try.sizeOf3)) ?_
    simp only [Act.put, pu]
    refine pw_loadk (by rfl) 3 _ rfl _ (ob + k * 1) rfl rB (.int .i64 (Z k)) hbt' Try.isAgg3 ?_
    simp only [Act.put, pu]
    refine pw_as (by rfl) rfl rfl ?_
    simp only [Act.put, pu]
    refine pw_nil ?_
    (repeat ((fail_if_success with_reducible refine rg ?_); go_step))
    refine wp_region_pw ?_
    refine pw_mv (by rfl) rfl rfl ?_
    simp only [Act.put, pu]
    refine pw_mv (by rfl) rfl rfl ?_
    simp only [Act.put, pu]
    refine pw_value (by rfl) (.bool true) (exec_neq_k .i64 _ _ _ _ rfl (Z k) (0) rfl rfl true (by rw [decide_eq_false (by omega)]; rfl)) ?_
    simp only [Act.put, pu]
    refine pw_nil ?_
    (repeat ((fail_if_success with_reducible refine rg ?_); go_step))
    refine wp_region_pw ?_
    refine pw_mv (by rfl) rfl rfl ?_
    simp only [Act.put, pu]
    refine pw_as (by rfl) rfl rfl ?_
    simp only [Act.put, pu]
    refine pw_nil ?_
    go_wp2
    go_ret
    exact ⟨rfl, sb⟩
set_option maxRecDepth 100000 in
set_option maxHeartbeats 2000000 in
theorem scmp_any (sq cl sq2 cl2 : Int) (w : World) :
  Calls Try.prog 9 #[.agg (tsC sq cl), .agg (tsC sq2 cl2)] w fun e w' => e = .returned (.int .i64 (cpS sq cl sq2 cl2)) ∧ Below w.heap.size w w' := by
 obtain ⟨ie, hie, hze, hsz, _⟩ := info_int'
 have h1 : ¬ 2 * ie.size > 2 ^ 24 := by rw [hsz]; decide
 have h2 : ¬ 2 * ie.size = 0 := by rw [hsz]; decide
 have hl := fun a b => lit_z2 a b ie.size hsz
 have hor := fun g w' (r : Row w' g #[.int .i64 (cpz sq sq2), .int .i64 (cpz cl cl2)] 3) => cor_any (some ⟨g, 0, none⟩) 2 2 (z2 (cpz sq sq2) (cpz cl cl2)) g 0 _ _ _ w' (zs_rowR r (z2_c _ _)) (by decide) (orF2 _ _)
 rw [show cpS sq cl sq2 cl2 = orI (cpz sq sq2) (cpz cl cl2) from rfl]
 have hA := fun w' => ccmp_any sq sq2 w'
 have hB := fun w' => ccmp_any cl cl2 w'
 generalize cpz sq sq2 = x at *
 generalize cpz cl cl2 = y at *
 go_enter Try.func9, Try.ntmps9
 have sb := sbmk w
 (repeat ((fail_if_success with_reducible refine rg ?_); go_step))
 refine wp_region_pw ?_
 refine pw_boxr (by rfl) 23 _ rfl (tsC sq cl) rfl ?_
 intro g2 z0 n0 r2 k
 simp only [Act.put, pu]
 have b2 := Nat.le_trans sb.size n0
 clear n0
 replace sb := sb.trans (k.below w.heap.size sb.size (by simp <;> omega))
 clear k
 refine pw_boxr (by rfl) 23 _ rfl (tsC sq2 cl2) rfl ?_
 intro g3 z1 n0 r3 k
 simp only [Act.put, pu]
 have d2x3 := Nat.lt_of_lt_of_le r2.lt n0
 have b3 := Nat.le_trans sb.size n0
 clear n0
 replace r2 := k.row r2 (by simp <;> omega)
 replace sb := sb.trans (k.below w.heap.size sb.size (by simp <;> omega))
 clear k
 refine pw_value (by rfl) (.int .i64 0) (fun _ => rfl) ?_
 simp only [Act.put, pu]
 refine pw_nil ?_
 (repeat ((fail_if_success with_reducible refine rg ?_); go_step))
 refine wp_region_ewb (by kernel_rfl) [] [(0, false), (1, false), (2, false), (3, false), (4, false), (5, false), (6, false), (7, false), (8, false), (9, false), (10, true), (11, true), (12, false)] ?_ (by kernel_rfl)
 have or2 := r2
 have or3 := r3
 have cb := below_self sb
 have osb := sb
 refine ew_value (by rfl) (.pointer (some ⟨g2, 0, none⟩)) (exec_field 23 _ 0 rfl g2 0 rfl _ Try.underlying23 _ rfl 0 Try.sizeOf3) ?_
 simp only [Act.put, pu]
 refine ew_loadk (by rfl) 3 _ rfl _ (0) rfl (fun _ hb => (or2.belowAll hb).r) (.int .i64 sq) rfl Try.isAgg3 ?_
 simp only [Act.put, pu]
 refine ew_value (by rfl) (.pointer (some ⟨g3, 0, none⟩)) (exec_field 23 _ 0 rfl g3 0 rfl _ Try.underlying23 _ rfl 0 Try.sizeOf3) ?_
 simp only [Act.put, pu]
 refine ew_loadk (by rfl) 3 _ rfl _ (0) rfl (fun _ hb => (or3.belowAll hb).r) (.int .i64 sq2) rfl Try.isAgg3 ?_
 simp only [Act.put, pu]
 refine ew_call (by rfl) 19 _ _ rfl Try.func19 (by kernel_rfl) #[.int .i64 sq, .int .i64 sq2] rfl _ (fun w _ => hA w) ?_
 simp only [Act.put, pu]
 refine ew_value (by rfl) (.pointer (some ⟨g2, 1, none⟩)) (exec_field 23 _ 1 rfl g2 0 rfl _ Try.underlying23 _ rfl 0 Try.sizeOf3) ?_
 simp only [Act.put, pu]
 refine ew_loadk (by rfl) 3 _ rfl _ (1) rfl (fun _ hb => (or2.belowAll hb).r) (.int .i64 cl) rfl Try.isAgg3 ?_
 simp only [Act.put, pu]
 refine ew_value (by rfl) (.pointer (some ⟨g3, 1, none⟩)) (exec_field 23 _ 1 rfl g3 0 rfl _ Try.underlying23 _ rfl 0 Try.sizeOf3) ?_
 simp only [Act.put, pu]
 refine ew_loadk (by rfl) 3 _ rfl _ (1) rfl (fun _ hb => (or3.belowAll hb).r) (.int .i64 cl2) rfl Try.isAgg3 ?_
 simp only [Act.put, pu]
 refine ew_call (by rfl) 19 _ _ rfl Try.func19 (by kernel_rfl) #[.int .i64 cl, .int .i64 cl2] rfl _ (fun w _ => hB w) ?_
 simp only [Act.put, pu]
 refine ew_litr (by rfl) 31 3 2 _ rfl (#[.int .i64 x, .int .i64 y]) ie _ Try.underlying31 hie hze h1 h2 [(0, .int .i64 x), (1, .int .i64 y)] rfl (hl _ _) ?_
 intro wa10 hqb gL wb10 n0 rL hb
 refine ⟨fun _ => below_on (below_on cb (Nat.le_refl _) hqb) (Nat.le_refl _) hb, ?_⟩
 simp only [Act.put, pu]
 replace r2 := r2.belowAll hqb
 replace r3 := r3.belowAll hqb
 replace sb := below_on sb (Nat.le_refl _) hqb
 replace cb := below_on cb (Nat.le_refl _) hqb
 have d2xL := Nat.lt_of_lt_of_le r2.lt n0
 have d3xL := Nat.lt_of_lt_of_le r3.lt n0
 have bL := Nat.le_trans sb.size n0
 replace r2 := r2.belowAll hb
 replace r3 := r3.belowAll hb
 replace sb := below_on sb (Nat.le_refl _) hb
 replace cb := below_on cb (Nat.le_refl _) hb
 clear hqb hb n0
 refine ew_callE (by rfl) 18 _ _ rfl Try.func18 (by kernel_rfl) #[.slice (some ⟨gL, 0, none⟩) 2 2] rfl ?_
 intro wa11 hqb
 replace r2 := r2.belowAll hqb
 replace r3 := r3.belowAll hqb
 replace rL := rL.belowAll hqb
 replace sb := below_on sb (Nat.le_refl _) hqb
 replace cb := below_on cb (Nat.le_refl _) hqb
 clear hqb
 refine (hor gL _ rL).mono ?_
 rintro _ wb11 ⟨rfl, hb⟩
 refine ⟨_, rfl, fun _ => below_on cb (Nat.le_refl _) hb, ?_⟩
 simp only [Act.put, pu]
 replace r2 := r2.belowAll hb
 replace r3 := r3.belowAll hb
 replace rL := rL.belowAll hb
 replace sb := below_on sb (Nat.le_refl _) hb
 replace cb := below_on cb (Nat.le_refl _) hb
 clear hb
 refine ew_as (by rfl) rfl rfl ?_
 simp only [Act.put, pu]
 refine ew_nil ?_
 intro wz hqb
 replace r2 := r2.belowAll hqb
 replace r3 := r3.belowAll hqb
 replace rL := rL.belowAll hqb
 replace sb := below_on sb (Nat.le_refl _) hqb
 clear hqb cb osb or2 or3
 go_wp2
 go_ret
 exact ⟨rfl, sb⟩
set_option maxRecDepth 100000 in
set_option maxHeartbeats 2000000 in
theorem scl_any (n : Int) (w : World) :
  Calls Try.prog 17 #[.int .i64 n] w fun e w' => e = .returned (.bool (clB n)) ∧ Below w.heap.size w w' := by
 by_cases h1 : 1 ≤ n
 rotate_left
 ·rw [show clB n = false from decide_eq_false (by omega)]
  go_enter Try.func17, Try.ntmps17
  have sb := sbmk w
  (repeat ((fail_if_success with_reducible refine rg ?_); go_step))
  refine wp_region_pw ?_
  refine pw_value (by rfl) (.bool false) (fun _ => rfl) ?_
  simp only [Act.put, pu]
  refine pw_nil ?_
  (repeat ((fail_if_success with_reducible refine rg ?_); go_step))
  refine wp_region_pw ?_
  refine pw_mv (by rfl) rfl rfl ?_
  simp only [Act.put, pu]
  refine pw_value (by rfl) (.bool false) (exec_geq_i _ _ _ _ rfl (n) (1) rfl rfl false (decide_eq_false (by omega))) ?_
  simp only [Act.put, pu]
  refine pw_mv (by rfl) rfl rfl ?_
  simp only [Act.put, pu]
  refine pw_skip (by rfl) ?_
  simp only [Act.put, pu]
  refine pw_skip (by rfl) ?_
  simp only [Act.put, pu]
  refine pw_pick (by rfl) false (v := .bool false) rfl rfl rfl ?_
  simp only [Act.put, pu]
  refine pw_as (by rfl) rfl rfl ?_
  simp only [Act.put, pu]
  refine pw_nil ?_
  go_wp2
  go_ret
  exact ⟨rfl, sb⟩
 by_cases h2 : n ≤ 4
 ·rw [show clB n = true from decide_eq_true ⟨h1, h2⟩]
  go_enter Try.func17, Try.ntmps17
  have sb := sbmk w
  (repeat ((fail_if_success with_reducible refine rg ?_); go_step))
  refine wp_region_pw ?_
  refine pw_value (by rfl) (.bool false) (fun _ => rfl) ?_
  simp only [Act.put, pu]
  refine pw_nil ?_
  (repeat ((fail_if_success with_reducible refine rg ?_); go_step))
  refine wp_region_pw ?_
  refine pw_mv (by rfl) rfl rfl ?_
  simp only [Act.put, pu]
  refine pw_value (by rfl) (.bool true) (exec_geq_i _ _ _ _ rfl (n) (1) rfl rfl true (decide_eq_true (by omega))) ?_
  simp only [Act.put, pu]
  refine pw_mv (by rfl) rfl rfl ?_
  simp only [Act.put, pu]
  refine pw_mv (by rfl) rfl rfl ?_
  simp only [Act.put, pu]
  refine pw_value (by rfl) (.bool true) (exec_leq_i _ _ _ _ rfl (n) (4) rfl rfl true (decide_eq_true (by omega))) ?_
  simp only [Act.put, pu]
  refine pw_pick (by rfl) true (v := .bool true) rfl rfl rfl ?_
  simp only [Act.put, pu]
  refine pw_as (by rfl) rfl rfl ?_
  simp only [Act.put, pu]
  refine pw_nil ?_
  go_wp2
  go_ret
  exact ⟨rfl, sb⟩
 ·rw [show clB n = false from decide_eq_false (by omega)]
  go_enter Try.func17, Try.ntmps17
  have sb := sbmk w
  (repeat ((fail_if_success with_reducible refine rg ?_); go_step))
  refine wp_region_pw ?_
  refine pw_value (by rfl) (.bool false) (fun _ => rfl) ?_
  simp only [Act.put, pu]
  refine pw_nil ?_
  (repeat ((fail_if_success with_reducible refine rg ?_); go_step))
  refine wp_region_pw ?_
  refine pw_mv (by rfl) rfl rfl ?_
  simp only [Act.put, pu]
  refine pw_value (by rfl) (.bool true) (exec_geq_i _ _ _ _ rfl (n) (1) rfl rfl true (decide_eq_true (by omega))) ?_
  simp only [Act.put, pu]
  refine pw_mv (by rfl) rfl rfl ?_
  simp only [Act.put, pu]
  refine pw_mv (by rfl) rfl rfl ?_
  simp only [Act.put, pu]
  refine pw_value (by rfl) (.bool false) (exec_leq_i _ _ _ _ rfl (n) (4) rfl rfl false (decide_eq_false (by omega))) ?_
  simp only [Act.put, pu]
  refine pw_pick (by rfl) true (v := .bool false) rfl rfl rfl ?_
  simp only [Act.put, pu]
  refine pw_as (by rfl) rfl rfl ?_
  simp only [Act.put, pu]
  refine pw_nil ?_
  go_wp2
  go_ret
  exact ⟨rfl, sb⟩
set_option maxRecDepth 100000 in
set_option maxHeartbeats 2000000 in
theorem smay_any (sq cl : Int) (w : World) :
  Calls Try.prog 11 #[.agg (tsC sq cl)] w fun e w' => e = .returned (.bool (stB sq cl)) ∧ Below w.heap.size w w' := by
 have hC := fun w' => scl_any cl w'
 by_cases h1 : 1 ≤ sq
 rotate_left
 ·rw [show stB sq cl = false from decide_eq_false (by omega)]
  go_enter Try.func11, Try.ntmps11
  have sb := sbmk w
  (repeat ((fail_if_success with_reducible refine rg ?_); go_step))
  refine wp_region_pw ?_
  refine pw_boxr (by rfl) 23 _ rfl (tsC sq cl) rfl ?_
  intro g1 z0 n0 r1 k
  simp only [Act.put, pu]
  have b1 := Nat.le_trans sb.size n0
  clear n0
  replace sb := sb.trans (k.below w.heap.size sb.size (by simp <;> omega))
  clear k
  refine pw_value (by rfl) (.bool false) (fun _ => rfl) ?_
  simp only [Act.put, pu]
  refine pw_nil ?_
  (repeat ((fail_if_success with_reducible refine rg ?_); go_step))
  refine wp_region_pw ?_
  refine pw_value (by rfl) (.pointer (some ⟨g1, 0, none⟩)) (exec_field 23 _ 0 rfl g1 0 rfl _ Try.underlying23 _ rfl 0 Try.sizeOf3) ?_
  simp only [Act.put, pu]
  refine pw_loadk (by rfl) 3 _ rfl _ (0) rfl r1.r (.int .i64 sq) rfl Try.isAgg3 ?_
  simp only [Act.put, pu]
  refine pw_value (by rfl) (.bool false) (exec_geq_i _ _ _ _ rfl (sq) (1) rfl rfl false (decide_eq_false (by omega))) ?_
  simp only [Act.put, pu]
  refine pw_mv (by rfl) rfl rfl ?_
  simp only [Act.put, pu]
  refine pw_skip (by rfl) ?_
  simp only [Act.put, pu]
  refine pw_skip (by rfl) ?_
  simp only [Act.put, pu]
  refine pw_skip (by rfl) ?_
  simp only [Act.put, pu]
  refine pw_pick (by rfl) false (v := .bool false) rfl rfl rfl ?_
  simp only [Act.put, pu]
  refine pw_mv (by rfl) rfl rfl ?_
  simp only [Act.put, pu]
  refine pw_skip (by rfl) ?_
  simp only [Act.put, pu]
  refine pw_skip (by rfl) ?_
  simp only [Act.put, pu]
  refine pw_skip (by rfl) ?_
  simp only [Act.put, pu]
  refine pw_pick (by rfl) false (v := .bool false) rfl rfl rfl ?_
  simp only [Act.put, pu]
  refine pw_as (by rfl) rfl rfl ?_
  simp only [Act.put, pu]
  refine pw_nil ?_
  go_wp2
  go_ret
  exact ⟨rfl, sb⟩
 by_cases h2 : sq ≤ 1099511627776
 ·rw [show stB sq cl = clB cl from decide_eq_decide.2 (by omega)]
  go_enter Try.func11, Try.ntmps11
  have sb := sbmk w
  (repeat ((fail_if_success with_reducible refine rg ?_); go_step))
  refine wp_region_pw ?_
  refine pw_boxr (by rfl) 23 _ rfl (tsC sq cl) rfl ?_
  intro g1 z0 n0 r1 k
  simp only [Act.put, pu]
  have b1 := Nat.le_trans sb.size n0
  clear n0
  replace sb := sb.trans (k.below w.heap.size sb.size (by simp <;> omega))
  clear k
  refine pw_value (by rfl) (.bool false) (fun _ => rfl) ?_
  simp only [Act.put, pu]
  refine pw_nil ?_
  (repeat ((fail_if_success with_reducible refine rg ?_); go_step))
  refine wp_region_pw ?_
  refine pw_value (by rfl) (.pointer (some ⟨g1, 0, none⟩)) (exec_field 23 _ 0 rfl g1 0 rfl _ Try.underlying23 _ rfl 0 Try.sizeOf3) ?_
  simp only [Act.put, pu]
  refine pw_loadk (by rfl) 3 _ rfl _ (0) rfl r1.r (.int .i64 sq) rfl Try.isAgg3 ?_
  simp only [Act.put, pu]
  refine pw_value (by rfl) (.bool true) (exec_geq_i _ _ _ _ rfl (sq) (1) rfl rfl true (decide_eq_true (by omega))) ?_
  simp only [Act.put, pu]
  refine pw_mv (by rfl) rfl rfl ?_
  simp only [Act.put, pu]
  refine pw_value (by rfl) (.pointer (some ⟨g1, 0, none⟩)) (exec_field 23 _ 0 rfl g1 0 rfl _ Try.underlying23 _ rfl 0 Try.sizeOf3) ?_
  simp only [Act.put, pu]
  refine pw_loadk (by rfl) 3 _ rfl _ (0) rfl r1.r (.int .i64 sq) rfl Try.isAgg3 ?_
  simp only [Act.put, pu]
  refine pw_value (by rfl) (.bool true) (exec_leq_i _ _ _ _ rfl (sq) (1099511627776) rfl rfl true (decide_eq_true (by omega))) ?_
  simp only [Act.put, pu]
  refine pw_pick (by rfl) true (v := .bool true) rfl rfl rfl ?_
  simp only [Act.put, pu]
  refine pw_mv (by rfl) rfl rfl ?_
  simp only [Act.put, pu]
  refine pw_value (by rfl) (.pointer (some ⟨g1, 1, none⟩)) (exec_field 23 _ 1 rfl g1 0 rfl _ Try.underlying23 _ rfl 0 Try.sizeOf3) ?_
  simp only [Act.put, pu]
  refine pw_loadk (by rfl) 3 _ rfl _ (1) rfl r1.r (.int .i64 cl) rfl Try.isAgg3 ?_
  simp only [Act.put, pu]
  refine pw_callB (by rfl) 17 _ _ rfl Try.func17 (by kernel_rfl) #[.int .i64 cl] rfl _ (hC _) ?_
  intro z1011 k
  simp only [Act.put, pu]
  replace r1 := k.row r1 (by simp <;> omega)
  replace sb := sb.trans (k.below w.heap.size sb.size (by simp <;> omega))
  clear k
  refine pw_pick (by rfl) true (v := .bool (clB cl)) rfl rfl rfl ?_
  simp only [Act.put, pu]
  refine pw_as (by rfl) rfl rfl ?_
  simp only [Act.put, pu]
  refine pw_nil ?_
  go_wp2
  go_ret
  exact ⟨rfl, sb⟩
 ·rw [show stB sq cl = false from decide_eq_false (by omega)]
  go_enter Try.func11, Try.ntmps11
  have sb := sbmk w
  (repeat ((fail_if_success with_reducible refine rg ?_); go_step))
  refine wp_region_pw ?_
  refine pw_boxr (by rfl) 23 _ rfl (tsC sq cl) rfl ?_
  intro g1 z0 n0 r1 k
  simp only [Act.put, pu]
  have b1 := Nat.le_trans sb.size n0
  clear n0
  replace sb := sb.trans (k.below w.heap.size sb.size (by simp <;> omega))
  clear k
  refine pw_value (by rfl) (.bool false) (fun _ => rfl) ?_
  simp only [Act.put, pu]
  refine pw_nil ?_
  (repeat ((fail_if_success with_reducible refine rg ?_); go_step))
  refine wp_region_pw ?_
  refine pw_value (by rfl) (.pointer (some ⟨g1, 0, none⟩)) (exec_field 23 _ 0 rfl g1 0 rfl _ Try.underlying23 _ rfl 0 Try.sizeOf3) ?_
  simp only [Act.put, pu]
  refine pw_loadk (by rfl) 3 _ rfl _ (0) rfl r1.r (.int .i64 sq) rfl Try.isAgg3 ?_
  simp only [Act.put, pu]
  refine pw_value (by rfl) (.bool true) (exec_geq_i _ _ _ _ rfl (sq) (1) rfl rfl true (decide_eq_true (by omega))) ?_
  simp only [Act.put, pu]
  refine pw_mv (by rfl) rfl rfl ?_
  simp only [Act.put, pu]
  refine pw_value (by rfl) (.pointer (some ⟨g1, 0, none⟩)) (exec_field 23 _ 0 rfl g1 0 rfl _ Try.underlying23 _ rfl 0 Try.sizeOf3) ?_
  simp only [Act.put, pu]
  refine pw_loadk (by rfl) 3 _ rfl _ (0) rfl r1.r (.int .i64 sq) rfl Try.isAgg3 ?_
  simp only [Act.put, pu]
  refine pw_value (by rfl) (.bool false) (exec_leq_i _ _ _ _ rfl (sq) (1099511627776) rfl rfl false (decide_eq_false (by omega))) ?_
  simp only [Act.put, pu]
  refine pw_pick (by rfl) true (v := .bool false) rfl rfl rfl ?_
  simp only [Act.put, pu]
  refine pw_mv (by rfl) rfl rfl ?_
  simp only [Act.put, pu]
  refine pw_skip (by rfl) ?_
  simp only [Act.put, pu]
  refine pw_skip (by rfl) ?_
  simp only [Act.put, pu]
  refine pw_skip (by rfl) ?_
  simp only [Act.put, pu]
  refine pw_pick (by rfl) false (v := .bool false) rfl rfl rfl ?_
  simp only [Act.put, pu]
  refine pw_as (by rfl) rfl rfl ?_
  simp only [Act.put, pu]
  refine pw_nil ?_
  go_wp2
  go_ret
  exact ⟨rfl, sb⟩
set_option maxRecDepth 100000 in
set_option maxHeartbeats 2000000 in
theorem rsmay_any (sq cl : Int) (w : World) :
  Calls Try.prog 12 #[.agg (tsC sq cl)] w fun e w' => e = .returned (.bool (stB sq cl)) ∧ Below w.heap.size w w' := by
 by_cases h0 : 1 ≤ sq
 rotate_left
 ·rw [show stB sq cl = false from decide_eq_false (by omega)]
  go_enter Try.func12, Try.ntmps12
  (repeat ((fail_if_success with_reducible refine rg ?_); go_step))
  refine wp_region_pw ?_
  refine pw_boxr (by rfl) 23 _ rfl (tsC sq cl) rfl ?_
  intro g1 z0 n0 r1 k
  simp only [Act.put, pu]
  have b1 : w.heap.size ≤ g1 := n0
  clear n0
  have sb := k.below w.heap.size (Nat.le_refl _) (by simp)
  clear k
  refine pw_value (by rfl) (.bool false) (fun _ => rfl) ?_
  simp only [Act.put, pu]
  refine pw_nil ?_
  (repeat ((fail_if_success with_reducible refine rg ?_); go_step))
  refine wp_region_pw ?_
  refine pw_value (by rfl) (.pointer (some ⟨g1, 0, none⟩)) (exec_field 23 _ 0 rfl g1 0 rfl _ Try.underlying23 _ rfl 0 Try.sizeOf3) ?_
  simp only [Act.put, pu]
  refine pw_loadk (by rfl) 3 _ rfl _ (0) rfl r1.r (.int .i64 sq) rfl Try.isAgg3 ?_
  simp only [Act.put, pu]
  refine pw_value (by rfl) (.bool false) (exec_geq_i _ _ _ _ rfl sq 1 rfl rfl false (decide_eq_false (by omega))) ?_
  simp only [Act.put, pu]
  refine pw_mv (by rfl) rfl rfl ?_
  simp only [Act.put, pu]
  refine pw_skip (by rfl) ?_
  simp only [Act.put, pu]
  refine pw_skip (by rfl) ?_
  simp only [Act.put, pu]
  refine pw_skip (by rfl) ?_
  simp only [Act.put, pu]
  refine pw_pick (by rfl) false (v := .bool false) rfl rfl rfl ?_
  simp only [Act.put, pu]
  refine pw_mv (by rfl) rfl rfl ?_
  simp only [Act.put, pu]
  refine pw_skip (by rfl) ?_
  simp only [Act.put, pu]
  refine pw_skip (by rfl) ?_
  simp only [Act.put, pu]
  refine pw_skip (by rfl) ?_
  simp only [Act.put, pu]
  refine pw_pick (by rfl) false (v := .bool false) rfl rfl rfl ?_
  simp only [Act.put, pu]
  refine pw_mv (by rfl) rfl rfl ?_
  simp only [Act.put, pu]
  refine pw_skip (by rfl) ?_
  simp only [Act.put, pu]
  refine pw_skip (by rfl) ?_
  simp only [Act.put, pu]
  refine pw_skip (by rfl) ?_
  simp only [Act.put, pu]
  refine pw_pick (by rfl) false (v := .bool false) rfl rfl rfl ?_
  simp only [Act.put, pu]
  refine pw_as (by rfl) rfl rfl ?_
  simp only [Act.put, pu]
  refine pw_nil ?_
  go_wp2
  go_ret
  exact ⟨rfl, sb⟩
 by_cases h1 : sq ≤ 1099511627776
 rotate_left
 ·rw [show stB sq cl = false from decide_eq_false (by omega)]
  go_enter Try.func12, Try.ntmps12
  (repeat ((fail_if_success with_reducible refine rg ?_); go_step))
  refine wp_region_pw ?_
  refine pw_boxr (by rfl) 23 _ rfl (tsC sq cl) rfl ?_
  intro g1 z0 n0 r1 k
  simp only [Act.put, pu]
  have b1 : w.heap.size ≤ g1 := n0
  clear n0
  have sb := k.below w.heap.size (Nat.le_refl _) (by simp)
  clear k
  refine pw_value (by rfl) (.bool false) (fun _ => rfl) ?_
  simp only [Act.put, pu]
  refine pw_nil ?_
  (repeat ((fail_if_success with_reducible refine rg ?_); go_step))
  refine wp_region_pw ?_
  refine pw_value (by rfl) (.pointer (some ⟨g1, 0, none⟩)) (exec_field 23 _ 0 rfl g1 0 rfl _ Try.underlying23 _ rfl 0 Try.sizeOf3) ?_
  simp only [Act.put, pu]
  refine pw_loadk (by rfl) 3 _ rfl _ (0) rfl r1.r (.int .i64 sq) rfl Try.isAgg3 ?_
  simp only [Act.put, pu]
  refine pw_value (by rfl) (.bool true) (exec_geq_i _ _ _ _ rfl sq 1 rfl rfl true (decide_eq_true (by omega))) ?_
  simp only [Act.put, pu]
  refine pw_mv (by rfl) rfl rfl ?_
  simp only [Act.put, pu]
  refine pw_value (by rfl) (.pointer (some ⟨g1, 0, none⟩)) (exec_field 23 _ 0 rfl g1 0 rfl _ Try.underlying23 _ rfl 0 Try.sizeOf3) ?_
  simp only [Act.put, pu]
  refine pw_loadk (by rfl) 3 _ rfl _ (0) rfl r1.r (.int .i64 sq) rfl Try.isAgg3 ?_
  simp only [Act.put, pu]
  refine pw_value (by rfl) (.bool false) (exec_leq_i _ _ _ _ rfl sq 1099511627776 rfl rfl false (decide_eq_false (by omega))) ?_
  simp only [Act.put, pu]
  refine pw_pick (by rfl) true (v := .bool false) rfl rfl rfl ?_
  simp only [Act.put, pu]
  refine pw_mv (by rfl) rfl rfl ?_
  simp only [Act.put, pu]
  refine pw_skip (by rfl) ?_
  simp only [Act.put, pu]
  refine pw_skip (by rfl) ?_
  simp only [Act.put, pu]
  refine pw_skip (by rfl) ?_
  simp only [Act.put, pu]
  refine pw_pick (by rfl) false (v := .bool false) rfl rfl rfl ?_
  simp only [Act.put, pu]
  refine pw_mv (by rfl) rfl rfl ?_
  simp only [Act.put, pu]
  refine pw_skip (by rfl) ?_
  simp only [Act.put, pu]
  refine pw_skip (by rfl) ?_
  simp only [Act.put, pu]
  refine pw_skip (by rfl) ?_
  simp only [Act.put, pu]
  refine pw_pick (by rfl) false (v := .bool false) rfl rfl rfl ?_
  simp only [Act.put, pu]
  refine pw_as (by rfl) rfl rfl ?_
  simp only [Act.put, pu]
  refine pw_nil ?_
  go_wp2
  go_ret
  exact ⟨rfl, sb⟩
 by_cases h2 : 1 ≤ cl
 rotate_left
 ·rw [show stB sq cl = false from decide_eq_false (by omega)]
  go_enter Try.func12, Try.ntmps12
  (repeat ((fail_if_success with_reducible refine rg ?_); go_step))
  refine wp_region_pw ?_
  refine pw_boxr (by rfl) 23 _ rfl (tsC sq cl) rfl ?_
  intro g1 z0 n0 r1 k
  simp only [Act.put, pu]
  have b1 : w.heap.size ≤ g1 := n0
  clear n0
  have sb := k.below w.heap.size (Nat.le_refl _) (by simp)
  clear k
  refine pw_value (by rfl) (.bool false) (fun _ => rfl) ?_
  simp only [Act.put, pu]
  refine pw_nil ?_
  (repeat ((fail_if_success with_reducible refine rg ?_); go_step))
  refine wp_region_pw ?_
  refine pw_value (by rfl) (.pointer (some ⟨g1, 0, none⟩)) (exec_field 23 _ 0 rfl g1 0 rfl _ Try.underlying23 _ rfl 0 Try.sizeOf3) ?_
  simp only [Act.put, pu]
  refine pw_loadk (by rfl) 3 _ rfl _ (0) rfl r1.r (.int .i64 sq) rfl Try.isAgg3 ?_
  simp only [Act.put, pu]
  refine pw_value (by rfl) (.bool true) (exec_geq_i _ _ _ _ rfl sq 1 rfl rfl true (decide_eq_true (by omega))) ?_
  simp only [Act.put, pu]
  refine pw_mv (by rfl) rfl rfl ?_
  simp only [Act.put, pu]
  refine pw_value (by rfl) (.pointer (some ⟨g1, 0, none⟩)) (exec_field 23 _ 0 rfl g1 0 rfl _ Try.underlying23 _ rfl 0 Try.sizeOf3) ?_
  simp only [Act.put, pu]
  refine pw_loadk (by rfl) 3 _ rfl _ (0) rfl r1.r (.int .i64 sq) rfl Try.isAgg3 ?_
  simp only [Act.put, pu]
  refine pw_value (by rfl) (.bool true) (exec_leq_i _ _ _ _ rfl sq 1099511627776 rfl rfl true (decide_eq_true (by omega))) ?_
  simp only [Act.put, pu]
  refine pw_pick (by rfl) true (v := .bool true) rfl rfl rfl ?_
  simp only [Act.put, pu]
  refine pw_mv (by rfl) rfl rfl ?_
  simp only [Act.put, pu]
  refine pw_value (by rfl) (.pointer (some ⟨g1, 1, none⟩)) (exec_field 23 _ 1 rfl g1 0 rfl _ Try.underlying23 _ rfl 0 Try.sizeOf3) ?_
  simp only [Act.put, pu]
  refine pw_loadk (by rfl) 3 _ rfl _ (1) rfl r1.r (.int .i64 cl) rfl Try.isAgg3 ?_
  simp only [Act.put, pu]
  refine pw_value (by rfl) (.bool false) (exec_geq_i _ _ _ _ rfl cl 1 rfl rfl false (decide_eq_false (by omega))) ?_
  simp only [Act.put, pu]
  refine pw_pick (by rfl) true (v := .bool false) rfl rfl rfl ?_
  simp only [Act.put, pu]
  refine pw_mv (by rfl) rfl rfl ?_
  simp only [Act.put, pu]
  refine pw_skip (by rfl) ?_
  simp only [Act.put, pu]
  refine pw_skip (by rfl) ?_
  simp only [Act.put, pu]
  refine pw_skip (by rfl) ?_
  simp only [Act.put, pu]
  refine pw_pick (by rfl) false (v := .bool false) rfl rfl rfl ?_
  simp only [Act.put, pu]
  refine pw_as (by rfl) rfl rfl ?_
  simp only [Act.put, pu]
  refine pw_nil ?_
  go_wp2
  go_ret
  exact ⟨rfl, sb⟩
 by_cases h3 : cl ≤ 4
 rotate_left
 ·rw [show stB sq cl = false from decide_eq_false (by omega)]
  go_enter Try.func12, Try.ntmps12
  (repeat ((fail_if_success with_reducible refine rg ?_); go_step))
  refine wp_region_pw ?_
  refine pw_boxr (by rfl) 23 _ rfl (tsC sq cl) rfl ?_
  intro g1 z0 n0 r1 k
  simp only [Act.put, pu]
  have b1 : w.heap.size ≤ g1 := n0
  clear n0
  have sb := k.below w.heap.size (Nat.le_refl _) (by simp)
  clear k
  refine pw_value (by rfl) (.bool false) (fun _ => rfl) ?_
  simp only [Act.put, pu]
  refine pw_nil ?_
  (repeat ((fail_if_success with_reducible refine rg ?_); go_step))
  refine wp_region_pw ?_
  refine pw_value (by rfl) (.pointer (some ⟨g1, 0, none⟩)) (exec_field 23 _ 0 rfl g1 0 rfl _ Try.underlying23 _ rfl 0 Try.sizeOf3) ?_
  simp only [Act.put, pu]
  refine pw_loadk (by rfl) 3 _ rfl _ (0) rfl r1.r (.int .i64 sq) rfl Try.isAgg3 ?_
  simp only [Act.put, pu]
  refine pw_value (by rfl) (.bool true) (exec_geq_i _ _ _ _ rfl sq 1 rfl rfl true (decide_eq_true (by omega))) ?_
  simp only [Act.put, pu]
  refine pw_mv (by rfl) rfl rfl ?_
  simp only [Act.put, pu]
  refine pw_value (by rfl) (.pointer (some ⟨g1, 0, none⟩)) (exec_field 23 _ 0 rfl g1 0 rfl _ Try.underlying23 _ rfl 0 Try.sizeOf3) ?_
  simp only [Act.put, pu]
  refine pw_loadk (by rfl) 3 _ rfl _ (0) rfl r1.r (.int .i64 sq) rfl Try.isAgg3 ?_
  simp only [Act.put, pu]
  refine pw_value (by rfl) (.bool true) (exec_leq_i _ _ _ _ rfl sq 1099511627776 rfl rfl true (decide_eq_true (by omega))) ?_
  simp only [Act.put, pu]
  refine pw_pick (by rfl) true (v := .bool true) rfl rfl rfl ?_
  simp only [Act.put, pu]
  refine pw_mv (by rfl) rfl rfl ?_
  simp only [Act.put, pu]
  refine pw_value (by rfl) (.pointer (some ⟨g1, 1, none⟩)) (exec_field 23 _ 1 rfl g1 0 rfl _ Try.underlying23 _ rfl 0 Try.sizeOf3) ?_
  simp only [Act.put, pu]
  refine pw_loadk (by rfl) 3 _ rfl _ (1) rfl r1.r (.int .i64 cl) rfl Try.isAgg3 ?_
  simp only [Act.put, pu]
  refine pw_value (by rfl) (.bool true) (exec_geq_i _ _ _ _ rfl cl 1 rfl rfl true (decide_eq_true (by omega))) ?_
  simp only [Act.put, pu]
  refine pw_pick (by rfl) true (v := .bool true) rfl rfl rfl ?_
  simp only [Act.put, pu]
  refine pw_mv (by rfl) rfl rfl ?_
  simp only [Act.put, pu]
  refine pw_value (by rfl) (.pointer (some ⟨g1, 1, none⟩)) (exec_field 23 _ 1 rfl g1 0 rfl _ Try.underlying23 _ rfl 0 Try.sizeOf3) ?_
  simp only [Act.put, pu]
  refine pw_loadk (by rfl) 3 _ rfl _ (1) rfl r1.r (.int .i64 cl) rfl Try.isAgg3 ?_
  simp only [Act.put, pu]
  refine pw_value (by rfl) (.bool false) (exec_leq_i _ _ _ _ rfl cl 4 rfl rfl false (decide_eq_false (by omega))) ?_
  simp only [Act.put, pu]
  refine pw_pick (by rfl) true (v := .bool false) rfl rfl rfl ?_
  simp only [Act.put, pu]
  refine pw_as (by rfl) rfl rfl ?_
  simp only [Act.put, pu]
  refine pw_nil ?_
  go_wp2
  go_ret
  exact ⟨rfl, sb⟩
 rw [show stB sq cl = true from decide_eq_true ⟨h0, h1, h2, h3⟩]
 go_enter Try.func12, Try.ntmps12
 (repeat ((fail_if_success with_reducible refine rg ?_); go_step))
 refine wp_region_pw ?_
 refine pw_boxr (by rfl) 23 _ rfl (tsC sq cl) rfl ?_
 intro g1 z0 n0 r1 k
 simp only [Act.put, pu]
 have b1 : w.heap.size ≤ g1 := n0
 clear n0
 have sb := k.below w.heap.size (Nat.le_refl _) (by simp)
 clear k
 refine pw_value (by rfl) (.bool false) (fun _ => rfl) ?_
 simp only [Act.put, pu]
 refine pw_nil ?_
 (repeat ((fail_if_success with_reducible refine rg ?_); go_step))
 refine wp_region_pw ?_
 refine pw_value (by rfl) (.pointer (some ⟨g1, 0, none⟩)) (exec_field 23 _ 0 rfl g1 0 rfl _ Try.underlying23 _ rfl 0 Try.sizeOf3) ?_
 simp only [Act.put, pu]
 refine pw_loadk (by rfl) 3 _ rfl _ (0) rfl r1.r (.int .i64 sq) rfl Try.isAgg3 ?_
 simp only [Act.put, pu]
 refine pw_value (by rfl) (.bool true) (exec_geq_i _ _ _ _ rfl sq 1 rfl rfl true (decide_eq_true (by omega))) ?_
 simp only [Act.put, pu]
 refine pw_mv (by rfl) rfl rfl ?_
 simp only [Act.put, pu]
 refine pw_value (by rfl) (.pointer (some ⟨g1, 0, none⟩)) (exec_field 23 _ 0 rfl g1 0 rfl _ Try.underlying23 _ rfl 0 Try.sizeOf3) ?_
 simp only [Act.put, pu]
 refine pw_loadk (by rfl) 3 _ rfl _ (0) rfl r1.r (.int .i64 sq) rfl Try.isAgg3 ?_
 simp only [Act.put, pu]
 refine pw_value (by rfl) (.bool true) (exec_leq_i _ _ _ _ rfl sq 1099511627776 rfl rfl true (decide_eq_true (by omega))) ?_
 simp only [Act.put, pu]
 refine pw_pick (by rfl) true (v := .bool true) rfl rfl rfl ?_
 simp only [Act.put, pu]
 refine pw_mv (by rfl) rfl rfl ?_
 simp only [Act.put, pu]
 refine pw_value (by rfl) (.pointer (some ⟨g1, 1, none⟩)) (exec_field 23 _ 1 rfl g1 0 rfl _ Try.underlying23 _ rfl 0 Try.sizeOf3) ?_
 simp only [Act.put, pu]
 refine pw_loadk (by rfl) 3 _ rfl _ (1) rfl r1.r (.int .i64 cl) rfl Try.isAgg3 ?_
 simp only [Act.put, pu]
 refine pw_value (by rfl) (.bool true) (exec_geq_i _ _ _ _ rfl cl 1 rfl rfl true (decide_eq_true (by omega))) ?_
 simp only [Act.put, pu]
 refine pw_pick (by rfl) true (v := .bool true) rfl rfl rfl ?_
 simp only [Act.put, pu]
 refine pw_mv (by rfl) rfl rfl ?_
 simp only [Act.put, pu]
 refine pw_value (by rfl) (.pointer (some ⟨g1, 1, none⟩)) (exec_field 23 _ 1 rfl g1 0 rfl _ Try.underlying23 _ rfl 0 Try.sizeOf3) ?_
 simp only [Act.put, pu]
 refine pw_loadk (by rfl) 3 _ rfl _ (1) rfl r1.r (.int .i64 cl) rfl Try.isAgg3 ?_
 simp only [Act.put, pu]
 refine pw_value (by rfl) (.bool true) (exec_leq_i _ _ _ _ rfl cl 4 rfl rfl true (decide_eq_true (by omega))) ?_
 simp only [Act.put, pu]
 refine pw_pick (by rfl) true (v := .bool true) rfl rfl rfl ?_
 simp only [Act.put, pu]
 refine pw_as (by rfl) rfl rfl ?_
 simp only [Act.put, pu]
 refine pw_nil ?_
 go_wp2
 go_ret
 exact ⟨rfl, sb⟩
set_option maxRecDepth 100000 in
set_option maxHeartbeats 2000000 in
theorem rscmp_any (sq cl sq2 cl2 : Int) (w : World) :
  Calls Try.prog 10 #[.agg (tsC sq cl), .agg (tsC sq2 cl2)] w fun e w' => e = .returned (.int .i64 (cpS sq cl sq2 cl2)) ∧ Below w.heap.size w w' := by
 unfold cpS orI cpz
 by_cases h1 : sq < sq2
 ·rw [if_pos h1, if_neg (by decide)]
  go_enter Try.func10, Try.ntmps10
  have sb := sbmk w
  (repeat ((fail_if_success with_reducible refine rg ?_); go_step))
  refine wp_region_pw ?_
  refine pw_boxr (by rfl) 23 _ rfl (tsC sq cl) rfl ?_
  intro g2 z0 n0 r2 k
  simp only [Act.put, pu]
  have b2 := Nat.le_trans sb.size n0
  clear n0
  replace sb := sb.trans (k.below w.heap.size sb.size (by simp <;> omega))
  clear k
  refine pw_boxr (by rfl) 23 _ rfl (tsC sq2 cl2) rfl ?_
  intro g3 z1 n0 r3 k
  simp only [Act.put, pu]
  have d2x3 := Nat.lt_of_lt_of_le r2.lt n0
  have b3 := Nat.le_trans sb.size n0
  clear n0
  replace r2 := k.row r2 (by simp <;> omega)
  replace sb := sb.trans (k.below w.heap.size sb.size (by simp <;> omega))
  clear k
  refine pw_value (by rfl) (.int .i64 0) (fun _ => rfl) ?_
  simp only [Act.put, pu]
  refine pw_nil ?_
  (repeat ((fail_if_success with_reducible refine rg ?_); go_step))
  refine wp_region_pw ?_
  refine pw_value (by rfl) (.pointer (some ⟨g2, 0, none⟩)) (exec_field 23 _ 0 rfl g2 0 rfl _ Try.underlying23 _ rfl 0 Try.sizeOf3) ?_
  simp only [Act.put, pu]
  refine pw_loadk (by rfl) 3 _ rfl _ (0) rfl r2.r (.int .i64 sq) rfl Try.isAgg3 ?_
  simp only [Act.put, pu]
  refine pw_value (by rfl) (.pointer (some ⟨g3, 0, none⟩)) (exec_field 23 _ 0 rfl g3 0 rfl _ Try.underlying23 _ rfl 0 Try.sizeOf3) ?_
  simp only [Act.put, pu]
  refine pw_loadk (by rfl) 3 _ rfl _ (0) rfl r3.r (.int .i64 sq2) rfl Try.isAgg3 ?_
  simp only [Act.put, pu]
  refine pw_value (by rfl) (.bool true) (exec_lt_b _ _ _ _ rfl (sq) (sq2) rfl rfl true (decide_eq_true (by omega))) ?_
  simp only [Act.put, pu]
  refine pw_as (by rfl) rfl rfl ?_
  simp only [Act.put, pu]
  refine pw_nil ?_
  (repeat ((fail_if_success with_reducible refine rg ?_); go_step))
  refine wp_region_pw ?_
  refine pw_move (by rfl) (.inr rfl) rfl ?_
  simp only [Act.put, pu]
  refine pw_nil ?_
  go_wp2
  go_ret
  exact ⟨rfl, sb⟩
 rw [if_neg h1]
 by_cases h2 : sq > sq2
 ·rw [if_pos h2, if_neg (by decide)]
  go_enter Try.func10, Try.ntmps10
  have sb := sbmk w
  (repeat ((fail_if_success with_reducible refine rg ?_); go_step))
  refine wp_region_pw ?_
  refine pw_boxr (by rfl) 23 _ rfl (tsC sq cl) rfl ?_
  intro g2 z0 n0 r2 k
  simp only [Act.put, pu]
  have b2 := Nat.le_trans sb.size n0
  clear n0
  replace sb := sb.trans (k.below w.heap.size sb.size (by simp <;> omega))
  clear k
  refine pw_boxr (by rfl) 23 _ rfl (tsC sq2 cl2) rfl ?_
  intro g3 z1 n0 r3 k
  simp only [Act.put, pu]
  have d2x3 := Nat.lt_of_lt_of_le r2.lt n0
  have b3 := Nat.le_trans sb.size n0
  clear n0
  replace r2 := k.row r2 (by simp <;> omega)
  replace sb := sb.trans (k.below w.heap.size sb.size (by simp <;> omega))
  clear k
  refine pw_value (by rfl) (.int .i64 0) (fun _ => rfl) ?_
  simp only [Act.put, pu]
  refine pw_nil ?_
  (repeat ((fail_if_success with_reducible refine rg ?_); go_step))
  refine wp_region_pw ?_
  refine pw_value (by rfl) (.pointer (some ⟨g2, 0, none⟩)) (exec_field 23 _ 0 rfl g2 0 rfl _ Try.underlying23 _ rfl 0 Try.sizeOf3) ?_
  simp only [Act.put, pu]
  refine pw_loadk (by rfl) 3 _ rfl _ (0) rfl r2.r (.int .i64 sq) rfl Try.isAgg3 ?_
  simp only [Act.put, pu]
  refine pw_value (by rfl) (.pointer (some ⟨g3, 0, none⟩)) (exec_field 23 _ 0 rfl g3 0 rfl _ Try.underlying23 _ rfl 0 Try.sizeOf3) ?_
  simp only [Act.put, pu]
  refine pw_loadk (by rfl) 3 _ rfl _ (0) rfl r3.r (.int .i64 sq2) rfl Try.isAgg3 ?_
  simp only [Act.put, pu]
  refine pw_value (by rfl) (.bool false) (exec_lt_b _ _ _ _ rfl (sq) (sq2) rfl rfl false (decide_eq_false (by omega))) ?_
  simp only [Act.put, pu]
  refine pw_as (by rfl) rfl rfl ?_
  simp only [Act.put, pu]
  refine pw_nil ?_
  (repeat ((fail_if_success with_reducible refine rg ?_); go_step))
  refine wp_region_pw ?_
  refine pw_value (by rfl) (.pointer (some ⟨g2, 0, none⟩)) (exec_field 23 _ 0 rfl g2 0 rfl _ Try.underlying23 _ rfl 0 Try.sizeOf3) ?_
  simp only [Act.put, pu]
  refine pw_loadk (by rfl) 3 _ rfl _ (0) rfl r2.r (.int .i64 sq) rfl Try.isAgg3 ?_
  simp only [Act.put, pu]
  refine pw_value (by rfl) (.pointer (some ⟨g3, 0, none⟩)) (exec_field 23 _ 0 rfl g3 0 rfl _ Try.underlying23 _ rfl 0 Try.sizeOf3) ?_
  simp only [Act.put, pu]
  refine pw_loadk (by rfl) 3 _ rfl _ (0) rfl r3.r (.int .i64 sq2) rfl Try.isAgg3 ?_
  simp only [Act.put, pu]
  refine pw_value (by rfl) (.bool true) (exec_gt_i _ _ _ _ rfl (sq) (sq2) rfl rfl true (decide_eq_true (by omega))) ?_
  simp only [Act.put, pu]
  refine pw_as (by rfl) rfl rfl ?_
  simp only [Act.put, pu]
  refine pw_nil ?_
  (repeat ((fail_if_success with_reducible refine rg ?_); go_step))
  refine wp_region_pw ?_
  refine pw_value (by rfl) (.int .i64 1) (fun _ => rfl) ?_
  simp only [Act.put, pu]
  refine pw_nil ?_
  go_wp2
  go_ret
  exact ⟨rfl, sb⟩
 rw [if_neg h2, if_pos rfl]
 by_cases h3 : cl < cl2
 ·rw [if_pos h3]
  go_enter Try.func10, Try.ntmps10
  have sb := sbmk w
  (repeat ((fail_if_success with_reducible refine rg ?_); go_step))
  refine wp_region_pw ?_
  refine pw_boxr (by rfl) 23 _ rfl (tsC sq cl) rfl ?_
  intro g2 z0 n0 r2 k
  simp only [Act.put, pu]
  have b2 := Nat.le_trans sb.size n0
  clear n0
  replace sb := sb.trans (k.below w.heap.size sb.size (by simp <;> omega))
  clear k
  refine pw_boxr (by rfl) 23 _ rfl (tsC sq2 cl2) rfl ?_
  intro g3 z1 n0 r3 k
  simp only [Act.put, pu]
  have d2x3 := Nat.lt_of_lt_of_le r2.lt n0
  have b3 := Nat.le_trans sb.size n0
  clear n0
  replace r2 := k.row r2 (by simp <;> omega)
  replace sb := sb.trans (k.below w.heap.size sb.size (by simp <;> omega))
  clear k
  refine pw_value (by rfl) (.int .i64 0) (fun _ => rfl) ?_
  simp only [Act.put, pu]
  refine pw_nil ?_
  (repeat ((fail_if_success with_reducible refine rg ?_); go_step))
  refine wp_region_pw ?_
  refine pw_value (by rfl) (.pointer (some ⟨g2, 0, none⟩)) (exec_field 23 _ 0 rfl g2 0 rfl _ Try.underlying23 _ rfl 0 Try.sizeOf3) ?_
  simp only [Act.put, pu]
  refine pw_loadk (by rfl) 3 _ rfl _ (0) rfl r2.r (.int .i64 sq) rfl Try.isAgg3 ?_
  simp only [Act.put, pu]
  refine pw_value (by rfl) (.pointer (some ⟨g3, 0, none⟩)) (exec_field 23 _ 0 rfl g3 0 rfl _ Try.underlying23 _ rfl 0 Try.sizeOf3) ?_
  simp only [Act.put, pu]
  refine pw_loadk (by rfl) 3 _ rfl _ (0) rfl r3.r (.int .i64 sq2) rfl Try.isAgg3 ?_
  simp only [Act.put, pu]
  refine pw_value (by rfl) (.bool false) (exec_lt_b _ _ _ _ rfl (sq) (sq2) rfl rfl false (decide_eq_false (by omega))) ?_
  simp only [Act.put, pu]
  refine pw_as (by rfl) rfl rfl ?_
  simp only [Act.put, pu]
  refine pw_nil ?_
  (repeat ((fail_if_success with_reducible refine rg ?_); go_step))
  refine wp_region_pw ?_
  refine pw_value (by rfl) (.pointer (some ⟨g2, 0, none⟩)) (exec_field 23 _ 0 rfl g2 0 rfl _ Try.underlying23 _ rfl 0 Try.sizeOf3) ?_
  simp only [Act.put, pu]
  refine pw_loadk (by rfl) 3 _ rfl _ (0) rfl r2.r (.int .i64 sq) rfl Try.isAgg3 ?_
  simp only [Act.put, pu]
  refine pw_value (by rfl) (.pointer (some ⟨g3, 0, none⟩)) (exec_field 23 _ 0 rfl g3 0 rfl _ Try.underlying23 _ rfl 0 Try.sizeOf3) ?_
  simp only [Act.put, pu]
  refine pw_loadk (by rfl) 3 _ rfl _ (0) rfl r3.r (.int .i64 sq2) rfl Try.isAgg3 ?_
  simp only [Act.put, pu]
  refine pw_value (by rfl) (.bool false) (exec_gt_i _ _ _ _ rfl (sq) (sq2) rfl rfl false (decide_eq_false (by omega))) ?_
  simp only [Act.put, pu]
  refine pw_as (by rfl) rfl rfl ?_
  simp only [Act.put, pu]
  refine pw_nil ?_
  (repeat ((fail_if_success with_reducible refine rg ?_); go_step))
  refine wp_region_pw ?_
  refine pw_value (by rfl) (.pointer (some ⟨g2, 1, none⟩)) (exec_field 23 _ 1 rfl g2 0 rfl _ Try.underlying23 _ rfl 0 Try.sizeOf3) ?_
  simp only [Act.put, pu]
  refine pw_loadk (by rfl) 3 _ rfl _ (1) rfl r2.r (.int .i64 cl) rfl Try.isAgg3 ?_
  simp only [Act.put, pu]
  refine pw_value (by rfl) (.pointer (some ⟨g3, 1, none⟩)) (exec_field 23 _ 1 rfl g3 0 rfl _ Try.underlying23 _ rfl 0 Try.sizeOf3) ?_
  simp only [Act.put, pu]
  refine pw_loadk (by rfl) 3 _ rfl _ (1) rfl r3.r (.int .i64 cl2) rfl Try.isAgg3 ?_
  simp only [Act.put, pu]
  refine pw_value (by rfl) (.bool true) (exec_lt_b _ _ _ _ rfl (cl) (cl2) rfl rfl true (decide_eq_true (by omega))) ?_
  simp only [Act.put, pu]
  refine pw_as (by rfl) rfl rfl ?_
  simp only [Act.put, pu]
  refine pw_nil ?_
  (repeat ((fail_if_success with_reducible refine rg ?_); go_step))
  refine wp_region_pw ?_
  refine pw_move (by rfl) (.inr rfl) rfl ?_
  simp only [Act.put, pu]
  refine pw_nil ?_
  go_wp2
  go_ret
  exact ⟨rfl, sb⟩
 rw [if_neg h3]
 by_cases h4 : cl > cl2
 ·rw [if_pos h4]
  go_enter Try.func10, Try.ntmps10
  have sb := sbmk w
  (repeat ((fail_if_success with_reducible refine rg ?_); go_step))
  refine wp_region_pw ?_
  refine pw_boxr (by rfl) 23 _ rfl (tsC sq cl) rfl ?_
  intro g2 z0 n0 r2 k
  simp only [Act.put, pu]
  have b2 := Nat.le_trans sb.size n0
  clear n0
  replace sb := sb.trans (k.below w.heap.size sb.size (by simp <;> omega))
  clear k
  refine pw_boxr (by rfl) 23 _ rfl (tsC sq2 cl2) rfl ?_
  intro g3 z1 n0 r3 k
  simp only [Act.put, pu]
  have d2x3 := Nat.lt_of_lt_of_le r2.lt n0
  have b3 := Nat.le_trans sb.size n0
  clear n0
  replace r2 := k.row r2 (by simp <;> omega)
  replace sb := sb.trans (k.below w.heap.size sb.size (by simp <;> omega))
  clear k
  refine pw_value (by rfl) (.int .i64 0) (fun _ => rfl) ?_
  simp only [Act.put, pu]
  refine pw_nil ?_
  (repeat ((fail_if_success with_reducible refine rg ?_); go_step))
  refine wp_region_pw ?_
  refine pw_value (by rfl) (.pointer (some ⟨g2, 0, none⟩)) (exec_field 23 _ 0 rfl g2 0 rfl _ Try.underlying23 _ rfl 0 Try.sizeOf3) ?_
  simp only [Act.put, pu]
  refine pw_loadk (by rfl) 3 _ rfl _ (0) rfl r2.r (.int .i64 sq) rfl Try.isAgg3 ?_
  simp only [Act.put, pu]
  refine pw_value (by rfl) (.pointer (some ⟨g3, 0, none⟩)) (exec_field 23 _ 0 rfl g3 0 rfl _ Try.underlying23 _ rfl 0 Try.sizeOf3) ?_
  simp only [Act.put, pu]
  refine pw_loadk (by rfl) 3 _ rfl _ (0) rfl r3.r (.int .i64 sq2) rfl Try.isAgg3 ?_
  simp only [Act.put, pu]
  refine pw_value (by rfl) (.bool false) (exec_lt_b _ _ _ _ rfl (sq) (sq2) rfl rfl false (decide_eq_false (by omega))) ?_
  simp only [Act.put, pu]
  refine pw_as (by rfl) rfl rfl ?_
  simp only [Act.put, pu]
  refine pw_nil ?_
  (repeat ((fail_if_success with_reducible refine rg ?_); go_step))
  refine wp_region_pw ?_
  refine pw_value (by rfl) (.pointer (some ⟨g2, 0, none⟩)) (exec_field 23 _ 0 rfl g2 0 rfl _ Try.underlying23 _ rfl 0 Try.sizeOf3) ?_
  simp only [Act.put, pu]
  refine pw_loadk (by rfl) 3 _ rfl _ (0) rfl r2.r (.int .i64 sq) rfl Try.isAgg3 ?_
  simp only [Act.put, pu]
  refine pw_value (by rfl) (.pointer (some ⟨g3, 0, none⟩)) (exec_field 23 _ 0 rfl g3 0 rfl _ Try.underlying23 _ rfl 0 Try.sizeOf3) ?_
  simp only [Act.put, pu]
  refine pw_loadk (by rfl) 3 _ rfl _ (0) rfl r3.r (.int .i64 sq2) rfl Try.isAgg3 ?_
  simp only [Act.put, pu]
  refine pw_value (by rfl) (.bool false) (exec_gt_i _ _ _ _ rfl (sq) (sq2) rfl rfl false (decide_eq_false (by omega))) ?_
  simp only [Act.put, pu]
  refine pw_as (by rfl) rfl rfl ?_
  simp only [Act.put, pu]
  refine pw_nil ?_
  (repeat ((fail_if_success with_reducible refine rg ?_); go_step))
  refine wp_region_pw ?_
  refine pw_value (by rfl) (.pointer (some ⟨g2, 1, none⟩)) (exec_field 23 _ 1 rfl g2 0 rfl _ Try.underlying23 _ rfl 0 Try.sizeOf3) ?_
  simp only [Act.put, pu]
  refine pw_loadk (by rfl) 3 _ rfl _ (1) rfl r2.r (.int .i64 cl) rfl Try.isAgg3 ?_
  simp only [Act.put, pu]
  refine pw_value (by rfl) (.pointer (some ⟨g3, 1, none⟩)) (exec_field 23 _ 1 rfl g3 0 rfl _ Try.underlying23 _ rfl 0 Try.sizeOf3) ?_
  simp only [Act.put, pu]
  refine pw_loadk (by rfl) 3 _ rfl _ (1) rfl r3.r (.int .i64 cl2) rfl Try.isAgg3 ?_
  simp only [Act.put, pu]
  refine pw_value (by rfl) (.bool false) (exec_lt_b _ _ _ _ rfl (cl) (cl2) rfl rfl false (decide_eq_false (by omega))) ?_
  simp only [Act.put, pu]
  refine pw_as (by rfl) rfl rfl ?_
  simp only [Act.put, pu]
  refine pw_nil ?_
  (repeat ((fail_if_success with_reducible refine rg ?_); go_step))
  refine wp_region_pw ?_
  refine pw_value (by rfl) (.pointer (some ⟨g2, 1, none⟩)) (exec_field 23 _ 1 rfl g2 0 rfl _ Try.underlying23 _ rfl 0 Try.sizeOf3) ?_
  simp only [Act.put, pu]
  refine pw_loadk (by rfl) 3 _ rfl _ (1) rfl r2.r (.int .i64 cl) rfl Try.isAgg3 ?_
  simp only [Act.put, pu]
  refine pw_value (by rfl) (.pointer (some ⟨g3, 1, none⟩)) (exec_field 23 _ 1 rfl g3 0 rfl _ Try.underlying23 _ rfl 0 Try.sizeOf3) ?_
  simp only [Act.put, pu]
  refine pw_loadk (by rfl) 3 _ rfl _ (1) rfl r3.r (.int .i64 cl2) rfl Try.isAgg3 ?_
  simp only [Act.put, pu]
  refine pw_value (by rfl) (.bool true) (exec_gt_i _ _ _ _ rfl (cl) (cl2) rfl rfl true (decide_eq_true (by omega))) ?_
  simp only [Act.put, pu]
  refine pw_as (by rfl) rfl rfl ?_
  simp only [Act.put, pu]
  refine pw_nil ?_
  (repeat ((fail_if_success with_reducible refine rg ?_); go_step))
  refine wp_region_pw ?_
  refine pw_value (by rfl) (.int .i64 1) (fun _ => rfl) ?_
  simp only [Act.put, pu]
  refine pw_nil ?_
  go_wp2
  go_ret
  exact ⟨rfl, sb⟩
 ·rw [if_neg h4]
  go_enter Try.func10, Try.ntmps10
  have sb := sbmk w
  (repeat ((fail_if_success with_reducible refine rg ?_); go_step))
  refine wp_region_pw ?_
  refine pw_boxr (by rfl) 23 _ rfl (tsC sq cl) rfl ?_
  intro g2 z0 n0 r2 k
  simp only [Act.put, pu]
  have b2 := Nat.le_trans sb.size n0
  clear n0
  replace sb := sb.trans (k.below w.heap.size sb.size (by simp <;> omega))
  clear k
  refine pw_boxr (by rfl) 23 _ rfl (tsC sq2 cl2) rfl ?_
  intro g3 z1 n0 r3 k
  simp only [Act.put, pu]
  have d2x3 := Nat.lt_of_lt_of_le r2.lt n0
  have b3 := Nat.le_trans sb.size n0
  clear n0
  replace r2 := k.row r2 (by simp <;> omega)
  replace sb := sb.trans (k.below w.heap.size sb.size (by simp <;> omega))
  clear k
  refine pw_value (by rfl) (.int .i64 0) (fun _ => rfl) ?_
  simp only [Act.put, pu]
  refine pw_nil ?_
  (repeat ((fail_if_success with_reducible refine rg ?_); go_step))
  refine wp_region_pw ?_
  refine pw_value (by rfl) (.pointer (some ⟨g2, 0, none⟩)) (exec_field 23 _ 0 rfl g2 0 rfl _ Try.underlying23 _ rfl 0 Try.sizeOf3) ?_
  simp only [Act.put, pu]
  refine pw_loadk (by rfl) 3 _ rfl _ (0) rfl r2.r (.int .i64 sq) rfl Try.isAgg3 ?_
  simp only [Act.put, pu]
  refine pw_value (by rfl) (.pointer (some ⟨g3, 0, none⟩)) (exec_field 23 _ 0 rfl g3 0 rfl _ Try.underlying23 _ rfl 0 Try.sizeOf3) ?_
  simp only [Act.put, pu]
  refine pw_loadk (by rfl) 3 _ rfl _ (0) rfl r3.r (.int .i64 sq2) rfl Try.isAgg3 ?_
  simp only [Act.put, pu]
  refine pw_value (by rfl) (.bool false) (exec_lt_b _ _ _ _ rfl (sq) (sq2) rfl rfl false (decide_eq_false (by omega))) ?_
  simp only [Act.put, pu]
  refine pw_as (by rfl) rfl rfl ?_
  simp only [Act.put, pu]
  refine pw_nil ?_
  (repeat ((fail_if_success with_reducible refine rg ?_); go_step))
  refine wp_region_pw ?_
  refine pw_value (by rfl) (.pointer (some ⟨g2, 0, none⟩)) (exec_field 23 _ 0 rfl g2 0 rfl _ Try.underlying23 _ rfl 0 Try.sizeOf3) ?_
  simp only [Act.put, pu]
  refine pw_loadk (by rfl) 3 _ rfl _ (0) rfl r2.r (.int .i64 sq) rfl Try.isAgg3 ?_
  simp only [Act.put, pu]
  refine pw_value (by rfl) (.pointer (some ⟨g3, 0, none⟩)) (exec_field 23 _ 0 rfl g3 0 rfl _ Try.underlying23 _ rfl 0 Try.sizeOf3) ?_
  simp only [Act.put, pu]
  refine pw_loadk (by rfl) 3 _ rfl _ (0) rfl r3.r (.int .i64 sq2) rfl Try.isAgg3 ?_
  simp only [Act.put, pu]
  refine pw_value (by rfl) (.bool false) (exec_gt_i _ _ _ _ rfl (sq) (sq2) rfl rfl false (decide_eq_false (by omega))) ?_
  simp only [Act.put, pu]
  refine pw_as (by rfl) rfl rfl ?_
  simp only [Act.put, pu]
  refine pw_nil ?_
  (repeat ((fail_if_success with_reducible refine rg ?_); go_step))
  refine wp_region_pw ?_
  refine pw_value (by rfl) (.pointer (some ⟨g2, 1, none⟩)) (exec_field 23 _ 1 rfl g2 0 rfl _ Try.underlying23 _ rfl 0 Try.sizeOf3) ?_
  simp only [Act.put, pu]
  refine pw_loadk (by rfl) 3 _ rfl _ (1) rfl r2.r (.int .i64 cl) rfl Try.isAgg3 ?_
  simp only [Act.put, pu]
  refine pw_value (by rfl) (.pointer (some ⟨g3, 1, none⟩)) (exec_field 23 _ 1 rfl g3 0 rfl _ Try.underlying23 _ rfl 0 Try.sizeOf3) ?_
  simp only [Act.put, pu]
  refine pw_loadk (by rfl) 3 _ rfl _ (1) rfl r3.r (.int .i64 cl2) rfl Try.isAgg3 ?_
  simp only [Act.put, pu]
  refine pw_value (by rfl) (.bool false) (exec_lt_b _ _ _ _ rfl (cl) (cl2) rfl rfl false (decide_eq_false (by omega))) ?_
  simp only [Act.put, pu]
  refine pw_as (by rfl) rfl rfl ?_
  simp only [Act.put, pu]
  refine pw_nil ?_
  (repeat ((fail_if_success with_reducible refine rg ?_); go_step))
  refine wp_region_pw ?_
  refine pw_value (by rfl) (.pointer (some ⟨g2, 1, none⟩)) (exec_field 23 _ 1 rfl g2 0 rfl _ Try.underlying23 _ rfl 0 Try.sizeOf3) ?_
  simp only [Act.put, pu]
  refine pw_loadk (by rfl) 3 _ rfl _ (1) rfl r2.r (.int .i64 cl) rfl Try.isAgg3 ?_
  simp only [Act.put, pu]
  refine pw_value (by rfl) (.pointer (some ⟨g3, 1, none⟩)) (exec_field 23 _ 1 rfl g3 0 rfl _ Try.underlying23 _ rfl 0 Try.sizeOf3) ?_
  simp only [Act.put, pu]
  refine pw_loadk (by rfl) 3 _ rfl _ (1) rfl r3.r (.int .i64 cl2) rfl Try.isAgg3 ?_
  simp only [Act.put, pu]
  refine pw_value (by rfl) (.bool false) (exec_gt_i _ _ _ _ rfl (cl) (cl2) rfl rfl false (decide_eq_false (by omega))) ?_
  simp only [Act.put, pu]
  refine pw_as (by rfl) rfl rfl ?_
  simp only [Act.put, pu]
  refine pw_nil ?_
  (repeat ((fail_if_success with_reducible refine rg ?_); go_step))
  refine wp_region_pw ?_
  refine pw_value (by rfl) (.int .i64 0) (fun _ => rfl) ?_
  simp only [Act.put, pu]
  refine pw_nil ?_
  go_wp2
  go_ret
  exact ⟨rfl, sb⟩
set_option maxRecDepth 100000 in
set_option maxHeartbeats 2000000 in
theorem snx_any (n c : Int) (w : World) :
  Calls Try.prog 7 #[.int .i64 n, .int .i64 c] w fun e w' => e = .returned (.tuple #[.agg (tsC (nxS n c) (nxC n c)), .int .i64 (nxE n c)]) ∧ Below w.heap.size w w' := by
 have hC := fun w' => scl_any c w'
 unfold nxS nxC
 by_cases h1 : n < 0
 ·have HE : nxE n c = 1 := if_pos (.inl h1)
  go_enter Try.func7, Try.ntmps7
  have sb := sbmk w
  (repeat ((fail_if_success with_reducible refine rg ?_); go_step))
  refine wp_region_pw ?_
  refine pw_new (by rfl) 23 rfl _ zero_st ?_
  intro g4 z0 n0 r4 k
  simp only [Act.put, pu]
  have b4 := Nat.le_trans sb.size n0
  clear n0
  replace sb := sb.trans (k.below w.heap.size sb.size (by simp <;> omega))
  clear k
  refine pw_value (by rfl) (.int .i64 0) (fun _ => rfl) ?_
  simp only [Act.put, pu]
  refine pw_nil ?_
  (repeat ((fail_if_success with_reducible refine rg ?_); go_step))
  refine wp_region_pw ?_
  refine pw_mv (by rfl) rfl rfl ?_
  simp only [Act.put, pu]
  refine pw_value (by rfl) (.bool true) (exec_lt_b _ _ _ _ rfl (n) (0) rfl rfl true (decide_eq_true (by omega))) ?_
  simp only [Act.put, pu]
  refine pw_mv (by rfl) rfl rfl ?_
  simp only [Act.put, pu]
  refine pw_skip (by rfl) ?_
  simp only [Act.put, pu]
  refine pw_skip (by rfl) ?_
  simp only [Act.put, pu]
  refine pw_skip (by rfl) ?_
  simp only [Act.put, pu]
  refine pw_pick (by rfl) true (v := .bool true) rfl rfl rfl ?_
  simp only [Act.put, pu]
  refine pw_nil ?_
  (repeat ((fail_if_success with_reducible refine rg ?_); go_step))
  refine wp_region_pw ?_
  refine pw_value (by rfl) (.agg (tsC 0 0)) (exec_buildv _ [] rfl [] rfl _ built_st0) ?_
  simp only [Act.put, pu]
  refine pw_put (by rfl) 23 _ _ rfl _ rfl r4 (tsC 0 0) rfl (by exact size_st) (by rfl) (st_one _ _) ?_
  clear r4
  intro z2001 r4 k
  simp only [Act.put]
  replace sb := sb.trans (k.below w.heap.size sb.size (by simp <;> omega))
  clear k
  refine pw_value (by rfl) (.int .i64 1) (fun _ => rfl) ?_
  simp only [Act.put, pu]
  refine pw_nil ?_
  go_wp2
  exact ret_rowE rfl _ rfl r4 _ Try.underlying23 size_st rfl _ rfl ⟨by first | rfl | (rw [HE]; rfl), sb⟩
 by_cases h2 : 1 ≤ c
 rotate_left
 ·have HE : nxE n c = 1 := if_pos (.inr (decide_eq_false (by omega)))
  rw [show clB c = false from decide_eq_false (by omega)] at hC
  go_enter Try.func7, Try.ntmps7
  have sb := sbmk w
  (repeat ((fail_if_success with_reducible refine rg ?_); go_step))
  refine wp_region_pw ?_
  refine pw_new (by rfl) 23 rfl _ zero_st ?_
  intro g4 z0 n0 r4 k
  simp only [Act.put, pu]
  have b4 := Nat.le_trans sb.size n0
  clear n0
  replace sb := sb.trans (k.below w.heap.size sb.size (by simp <;> omega))
  clear k
  refine pw_value (by rfl) (.int .i64 0) (fun _ => rfl) ?_
  simp only [Act.put, pu]
  refine pw_nil ?_
  (repeat ((fail_if_success with_reducible refine rg ?_); go_step))
  refine wp_region_pw ?_
  refine pw_mv (by rfl) rfl rfl ?_
  simp only [Act.put, pu]
  refine pw_value (by rfl) (.bool false) (exec_lt_b _ _ _ _ rfl (n) (0) rfl rfl false (decide_eq_false (by omega))) ?_
  simp only [Act.put, pu]
  refine pw_mv (by rfl) rfl rfl ?_
  simp only [Act.put, pu]
  refine pw_mv (by rfl) rfl rfl ?_
  simp only [Act.put, pu]
  refine pw_callB (by rfl) 17 _ _ rfl Try.func17 (by kernel_rfl) #[.int .i64 c] rfl _ (hC _) ?_
  intro z1004 k
  simp only [Act.put, pu]
  replace r4 := k.row r4 (by simp <;> omega)
  replace sb := sb.trans (k.below w.heap.size sb.size (by simp <;> omega))
  clear k
  refine pw_value (by rfl) (.bool true) (exec_not _ _ rfl false rfl) ?_
  simp only [Act.put, pu]
  refine pw_pick (by rfl) false (v := .bool true) rfl rfl rfl ?_
  simp only [Act.put, pu]
  refine pw_nil ?_
  (repeat ((fail_if_success with_reducible refine rg ?_); go_step))
  refine wp_region_pw ?_
  refine pw_value (by rfl) (.agg (tsC 0 0)) (exec_buildv _ [] rfl [] rfl _ built_st0) ?_
  simp only [Act.put, pu]
  refine pw_put (by rfl) 23 _ _ rfl _ rfl r4 (tsC 0 0) rfl (by exact size_st) (by rfl) (st_one _ _) ?_
  clear r4
  intro z2001 r4 k
  simp only [Act.put]
  replace sb := sb.trans (k.below w.heap.size sb.size (by simp <;> omega))
  clear k
  refine pw_value (by rfl) (.int .i64 1) (fun _ => rfl) ?_
  simp only [Act.put, pu]
  refine pw_nil ?_
  go_wp2
  exact ret_rowE rfl _ rfl r4 _ Try.underlying23 size_st rfl _ rfl ⟨by first | rfl | (rw [HE]; rfl), sb⟩
 by_cases h3 : c ≤ 4
 rotate_left
 ·have HE : nxE n c = 1 := if_pos (.inr (decide_eq_false (by omega)))
  rw [show clB c = false from decide_eq_false (by omega)] at hC
  go_enter Try.func7, Try.ntmps7
  have sb := sbmk w
  (repeat ((fail_if_success with_reducible refine rg ?_); go_step))
  refine wp_region_pw ?_
  refine pw_new (by rfl) 23 rfl _ zero_st ?_
  intro g4 z0 n0 r4 k
  simp only [Act.put, pu]
  have b4 := Nat.le_trans sb.size n0
  clear n0
  replace sb := sb.trans (k.below w.heap.size sb.size (by simp <;> omega))
  clear k
  refine pw_value (by rfl) (.int .i64 0) (fun _ => rfl) ?_
  simp only [Act.put, pu]
  refine pw_nil ?_
  (repeat ((fail_if_success with_reducible refine rg ?_); go_step))
  refine wp_region_pw ?_
  refine pw_mv (by rfl) rfl rfl ?_
  simp only [Act.put, pu]
  refine pw_value (by rfl) (.bool false) (exec_lt_b _ _ _ _ rfl (n) (0) rfl rfl false (decide_eq_false (by omega))) ?_
  simp only [Act.put, pu]
  refine pw_mv (by rfl) rfl rfl ?_
  simp only [Act.put, pu]
  refine pw_mv (by rfl) rfl rfl ?_
  simp only [Act.put, pu]
  refine pw_callB (by rfl) 17 _ _ rfl Try.func17 (by kernel_rfl) #[.int .i64 c] rfl _ (hC _) ?_
  intro z1004 k
  simp only [Act.put, pu]
  replace r4 := k.row r4 (by simp <;> omega)
  replace sb := sb.trans (k.below w.heap.size sb.size (by simp <;> omega))
  clear k
  refine pw_value (by rfl) (.bool true) (exec_not _ _ rfl false rfl) ?_
  simp only [Act.put, pu]
  refine pw_pick (by rfl) false (v := .bool true) rfl rfl rfl ?_
  simp only [Act.put, pu]
  refine pw_nil ?_
  (repeat ((fail_if_success with_reducible refine rg ?_); go_step))
  refine wp_region_pw ?_
  refine pw_value (by rfl) (.agg (tsC 0 0)) (exec_buildv _ [] rfl [] rfl _ built_st0) ?_
  simp only [Act.put, pu]
  refine pw_put (by rfl) 23 _ _ rfl _ rfl r4 (tsC 0 0) rfl (by exact size_st) (by rfl) (st_one _ _) ?_
  clear r4
  intro z2001 r4 k
  simp only [Act.put]
  replace sb := sb.trans (k.below w.heap.size sb.size (by simp <;> omega))
  clear k
  refine pw_value (by rfl) (.int .i64 1) (fun _ => rfl) ?_
  simp only [Act.put, pu]
  refine pw_nil ?_
  go_wp2
  exact ret_rowE rfl _ rfl r4 _ Try.underlying23 size_st rfl _ rfl ⟨by first | rfl | (rw [HE]; rfl), sb⟩
 have h4 : ¬ (n < 0 ∨ clB c = false) := by
  intro h
  rcases h with h | h
  ·exact h1 h
  ·rw [show clB c = true from decide_eq_true (by omega)] at h; cases h
 by_cases h5 : 1099511627776 ≤ n
 ·have HE : nxE n c = 2 := by unfold nxE; rw [if_neg h4, if_pos h5]
  clear h4
  rw [show clB c = true from decide_eq_true (by omega)] at hC
  go_enter Try.func7, Try.ntmps7
  have sb := sbmk w
  (repeat ((fail_if_success with_reducible refine rg ?_); go_step))
  refine wp_region_pw ?_
  refine pw_new (by rfl) 23 rfl _ zero_st ?_
  intro g4 z0 n0 r4 k
  simp only [Act.put, pu]
  have b4 := Nat.le_trans sb.size n0
  clear n0
  replace sb := sb.trans (k.below w.heap.size sb.size (by simp <;> omega))
  clear k
  refine pw_value (by rfl) (.int .i64 0) (fun _ => rfl) ?_
  simp only [Act.put, pu]
  refine pw_nil ?_
  (repeat ((fail_if_success with_reducible refine rg ?_); go_step))
  refine wp_region_pw ?_
  refine pw_mv (by rfl) rfl rfl ?_
  simp only [Act.put, pu]
  refine pw_value (by rfl) (.bool false) (exec_lt_b _ _ _ _ rfl (n) (0) rfl rfl false (decide_eq_false (by omega))) ?_
  simp only [Act.put, pu]
  refine pw_mv (by rfl) rfl rfl ?_
  simp only [Act.put, pu]
  refine pw_mv (by rfl) rfl rfl ?_
  simp only [Act.put, pu]
  refine pw_callB (by rfl) 17 _ _ rfl Try.func17 (by kernel_rfl) #[.int .i64 c] rfl _ (hC _) ?_
  intro z1004 k
  simp only [Act.put, pu]
  replace r4 := k.row r4 (by simp <;> omega)
  replace sb := sb.trans (k.below w.heap.size sb.size (by simp <;> omega))
  clear k
  refine pw_value (by rfl) (.bool false) (exec_not _ _ rfl true rfl) ?_
  simp only [Act.put, pu]
  refine pw_pick (by rfl) false (v := .bool false) rfl rfl rfl ?_
  simp only [Act.put, pu]
  refine pw_nil ?_
  (repeat ((fail_if_success with_reducible refine rg ?_); go_step))
  refine wp_region_pw ?_
  refine pw_mv (by rfl) rfl rfl ?_
  simp only [Act.put, pu]
  refine pw_value (by rfl) (.bool true) (exec_geq_i _ _ _ _ rfl (n) (1099511627776) rfl rfl true (decide_eq_true (by omega))) ?_
  simp only [Act.put, pu]
  refine pw_nil ?_
  (repeat ((fail_if_success with_reducible refine rg ?_); go_step))
  refine wp_region_pw ?_
  refine pw_value (by rfl) (.agg (tsC 0 0)) (exec_buildv _ [] rfl [] rfl _ built_st0) ?_
  simp only [Act.put, pu]
  refine pw_put (by rfl) 23 _ _ rfl _ rfl r4 (tsC 0 0) rfl (by exact size_st) (by rfl) (st_one _ _) ?_
  clear r4
  intro z4001 r4 k
  simp only [Act.put]
  replace sb := sb.trans (k.below w.heap.size sb.size (by simp <;> omega))
  clear k
  refine pw_value (by rfl) (.int .i64 2) (fun _ => rfl) ?_
  simp only [Act.put, pu]
  refine pw_nil ?_
  go_wp2
  exact ret_rowE rfl _ rfl r4 _ Try.underlying23 size_st rfl _ rfl ⟨by first | rfl | (rw [HE]; rfl), sb⟩
 ·have HE : nxE n c = 0 := by unfold nxE; rw [if_neg h4, if_neg h5]
  clear h4
  rw [show clB c = true from decide_eq_true (by omega)] at hC
  go_enter Try.func7, Try.ntmps7
  have sb := sbmk w
  (repeat ((fail_if_success with_reducible refine rg ?_); go_step))
  refine wp_region_pw ?_
  refine pw_new (by rfl) 23 rfl _ zero_st ?_
  intro g4 z0 n0 r4 k
  simp only [Act.put, pu]
  have b4 := Nat.le_trans sb.size n0
  clear n0
  replace sb := sb.trans (k.below w.heap.size sb.size (by simp <;> omega))
  clear k
  refine pw_value (by rfl) (.int .i64 0) (fun _ => rfl) ?_
  simp only [Act.put, pu]
  refine pw_nil ?_
  (repeat ((fail_if_success with_reducible refine rg ?_); go_step))
  refine wp_region_pw ?_
  refine pw_mv (by rfl) rfl rfl ?_
  simp only [Act.put, pu]
  refine pw_value (by rfl) (.bool false) (exec_lt_b _ _ _ _ rfl (n) (0) rfl rfl false (decide_eq_false (by omega))) ?_
  simp only [Act.put, pu]
  refine pw_mv (by rfl) rfl rfl ?_
  simp only [Act.put, pu]
  refine pw_mv (by rfl) rfl rfl ?_
  simp only [Act.put, pu]
  refine pw_callB (by rfl) 17 _ _ rfl Try.func17 (by kernel_rfl) #[.int .i64 c] rfl _ (hC _) ?_
  intro z1004 k
  simp only [Act.put, pu]
  replace r4 := k.row r4 (by simp <;> omega)
  replace sb := sb.trans (k.below w.heap.size sb.size (by simp <;> omega))
  clear k
  refine pw_value (by rfl) (.bool false) (exec_not _ _ rfl true rfl) ?_
  simp only [Act.put, pu]
  refine pw_pick (by rfl) false (v := .bool false) rfl rfl rfl ?_
  simp only [Act.put, pu]
  refine pw_nil ?_
  (repeat ((fail_if_success with_reducible refine rg ?_); go_step))
  refine wp_region_pw ?_
  refine pw_mv (by rfl) rfl rfl ?_
  simp only [Act.put, pu]
  refine pw_value (by rfl) (.bool false) (exec_geq_i _ _ _ _ rfl (n) (1099511627776) rfl rfl false (decide_eq_false (by omega))) ?_
  simp only [Act.put, pu]
  refine pw_nil ?_
  (repeat ((fail_if_success with_reducible refine rg ?_); go_step))
  refine wp_region_pw ?_
  refine pw_mv (by rfl) rfl rfl ?_
  simp only [Act.put, pu]
  refine pw_value (by rfl) (.int .i64 (n + 1)) (x_addz _ _ _ _ rfl (n) (1) (n + 1) rfl rfl (by omega) (by omega) (by omega)) ?_
  simp only [Act.put, pu]
  refine pw_mv (by rfl) rfl rfl ?_
  simp only [Act.put, pu]
  refine pw_value (by rfl) (.agg (tsC (n + 1) c)) (exec_buildv _ [(0, _), (1, _)] rfl [(0, .int .i64 (n + 1)), (1, .int .i64 c)] rfl _ (built_st _ _)) ?_
  simp only [Act.put, pu]
  refine pw_put (by rfl) 23 _ _ rfl _ rfl r4 (tsC (n + 1) c) rfl (by exact size_st) (by rfl) (st_one _ _) ?_
  clear r4
  intro z5004 r4 k
  simp only [Act.put]
  replace sb := sb.trans (k.below w.heap.size sb.size (by simp <;> omega))
  clear k
  refine pw_value (by rfl) (.int .i64 0) (fun _ => rfl) ?_
  simp only [Act.put, pu]
  refine pw_nil ?_
  go_wp2
  exact ret_rowE rfl _ rfl r4 _ Try.underlying23 size_st rfl _ rfl ⟨by first | rfl | (rw [HE]; rfl), sb⟩
set_option maxRecDepth 100000 in
set_option maxHeartbeats 2000000 in
theorem rsnx_any (n c : Int) (w : World) :
  Calls Try.prog 8 #[.int .i64 n, .int .i64 c] w fun e w' => e = .returned (.tuple #[.agg (tsC (nxS n c) (nxC n c)), .int .i64 (nxE n c)]) ∧ Below w.heap.size w w' := by
 unfold nxS nxC
 by_cases h1 : n < 0
 ·have HE : nxE n c = 1 := if_pos (.inl h1)
  go_enter Try.func8, Try.ntmps8
  have sb := sbmk w
  (repeat ((fail_if_success with_reducible refine rg ?_); go_step))
  refine wp_region_pw ?_
  refine pw_new (by rfl) 23 rfl _ zero_st ?_
  intro g4 z0 n0 r4 k
  simp only [Act.put, pu]
  have b4 := Nat.le_trans sb.size n0
  clear n0
  replace sb := sb.trans (k.below w.heap.size sb.size (by simp <;> omega))
  clear k
  refine pw_value (by rfl) (.int .i64 0) (fun _ => rfl) ?_
  simp only [Act.put, pu]
  refine pw_nil ?_
  (repeat ((fail_if_success with_reducible refine rg ?_); go_step))
  refine wp_region_pw ?_
  refine pw_mv (by rfl) rfl rfl ?_
  simp only [Act.put, pu]
  refine pw_value (by rfl) (.bool true) (exec_lt_b _ _ _ _ rfl (n) (0) rfl rfl true (decide_eq_true (by omega))) ?_
  simp only [Act.put, pu]
  refine pw_mv (by rfl) rfl rfl ?_
  simp only [Act.put, pu]
  refine pw_skip (by rfl) ?_
  simp only [Act.put, pu]
  refine pw_skip (by rfl) ?_
  simp only [Act.put, pu]
  refine pw_pick (by rfl) true (v := .bool true) rfl rfl rfl ?_
  simp only [Act.put, pu]
  refine pw_mv (by rfl) rfl rfl ?_
  simp only [Act.put, pu]
  refine pw_skip (by rfl) ?_
  simp only [Act.put, pu]
  refine pw_skip (by rfl) ?_
  simp only [Act.put, pu]
  refine pw_pick (by rfl) true (v := .bool true) rfl rfl rfl ?_
  simp only [Act.put, pu]
  refine pw_nil ?_
  (repeat ((fail_if_success with_reducible refine rg ?_); go_step))
  refine wp_region_pw ?_
  refine pw_value (by rfl) (.agg (tsC 0 0)) (exec_buildv _ [] rfl [] rfl _ built_st0) ?_
  simp only [Act.put, pu]
  refine pw_put (by rfl) 23 _ _ rfl _ rfl r4 (tsC 0 0) rfl (by exact size_st) (by rfl) (st_one _ _) ?_
  clear r4
  intro z2001 r4 k
  simp only [Act.put]
  replace sb := sb.trans (k.below w.heap.size sb.size (by simp <;> omega))
  clear k
  refine pw_value (by rfl) (.int .i64 1) (fun _ => rfl) ?_
  simp only [Act.put, pu]
  refine pw_nil ?_
  go_wp2
  exact ret_rowE rfl _ rfl r4 _ Try.underlying23 size_st rfl _ rfl ⟨by first | rfl | (rw [HE]; rfl), sb⟩
 by_cases h2 : 1 ≤ c
 rotate_left
 ·have HE : nxE n c = 1 := if_pos (.inr (decide_eq_false (by omega)))
  go_enter Try.func8, Try.ntmps8
  have sb := sbmk w
  (repeat ((fail_if_success with_reducible refine rg ?_); go_step))
  refine wp_region_pw ?_
  refine pw_new (by rfl) 23 rfl _ zero_st ?_
  intro g4 z0 n0 r4 k
  simp only [Act.put, pu]
  have b4 := Nat.le_trans sb.size n0
  clear n0
  replace sb := sb.trans (k.below w.heap.size sb.size (by simp <;> omega))
  clear k
  refine pw_value (by rfl) (.int .i64 0) (fun _ => rfl) ?_
  simp only [Act.put, pu]
  refine pw_nil ?_
  (repeat ((fail_if_success with_reducible refine rg ?_); go_step))
  refine wp_region_pw ?_
  refine pw_mv (by rfl) rfl rfl ?_
  simp only [Act.put, pu]
  refine pw_value (by rfl) (.bool false) (exec_lt_b _ _ _ _ rfl (n) (0) rfl rfl false (decide_eq_false (by omega))) ?_
  simp only [Act.put, pu]
  refine pw_mv (by rfl) rfl rfl ?_
  simp only [Act.put, pu]
  refine pw_mv (by rfl) rfl rfl ?_
  simp only [Act.put, pu]
  refine pw_value (by rfl) (.bool true) (exec_lt_b _ _ _ _ rfl (c) (1) rfl rfl true (decide_eq_true (by omega))) ?_
  simp only [Act.put, pu]
  refine pw_pick (by rfl) false (v := .bool true) rfl rfl rfl ?_
  simp only [Act.put, pu]
  refine pw_mv (by rfl) rfl rfl ?_
  simp only [Act.put, pu]
  refine pw_skip (by rfl) ?_
  simp only [Act.put, pu]
  refine pw_skip (by rfl) ?_
  simp only [Act.put, pu]
  refine pw_pick (by rfl) true (v := .bool true) rfl rfl rfl ?_
  simp only [Act.put, pu]
  refine pw_nil ?_
  (repeat ((fail_if_success with_reducible refine rg ?_); go_step))
  refine wp_region_pw ?_
  refine pw_value (by rfl) (.agg (tsC 0 0)) (exec_buildv _ [] rfl [] rfl _ built_st0) ?_
  simp only [Act.put, pu]
  refine pw_put (by rfl) 23 _ _ rfl _ rfl r4 (tsC 0 0) rfl (by exact size_st) (by rfl) (st_one _ _) ?_
  clear r4
  intro z2001 r4 k
  simp only [Act.put]
  replace sb := sb.trans (k.below w.heap.size sb.size (by simp <;> omega))
  clear k
  refine pw_value (by rfl) (.int .i64 1) (fun _ => rfl) ?_
  simp only [Act.put, pu]
  refine pw_nil ?_
  go_wp2
  exact ret_rowE rfl _ rfl r4 _ Try.underlying23 size_st rfl _ rfl ⟨by first | rfl | (rw [HE]; rfl), sb⟩
 by_cases h3 : c ≤ 4
 rotate_left
 ·have HE : nxE n c = 1 := if_pos (.inr (decide_eq_false (by omega)))
  go_enter Try.func8, Try.ntmps8
  have sb := sbmk w
  (repeat ((fail_if_success with_reducible refine rg ?_); go_step))
  refine wp_region_pw ?_
  refine pw_new (by rfl) 23 rfl _ zero_st ?_
  intro g4 z0 n0 r4 k
  simp only [Act.put, pu]
  have b4 := Nat.le_trans sb.size n0
  clear n0
  replace sb := sb.trans (k.below w.heap.size sb.size (by simp <;> omega))
  clear k
  refine pw_value (by rfl) (.int .i64 0) (fun _ => rfl) ?_
  simp only [Act.put, pu]
  refine pw_nil ?_
  (repeat ((fail_if_success with_reducible refine rg ?_); go_step))
  refine wp_region_pw ?_
  refine pw_mv (by rfl) rfl rfl ?_
  simp only [Act.put, pu]
  refine pw_value (by rfl) (.bool false) (exec_lt_b _ _ _ _ rfl (n) (0) rfl rfl false (decide_eq_false (by omega))) ?_
  simp only [Act.put, pu]
  refine pw_mv (by rfl) rfl rfl ?_
  simp only [Act.put, pu]
  refine pw_mv (by rfl) rfl rfl ?_
  simp only [Act.put, pu]
  refine pw_value (by rfl) (.bool false) (exec_lt_b _ _ _ _ rfl (c) (1) rfl rfl false (decide_eq_false (by omega))) ?_
  simp only [Act.put, pu]
  refine pw_pick (by rfl) false (v := .bool false) rfl rfl rfl ?_
  simp only [Act.put, pu]
  refine pw_mv (by rfl) rfl rfl ?_
  simp only [Act.put, pu]
  refine pw_mv (by rfl) rfl rfl ?_
  simp only [Act.put, pu]
  refine pw_value (by rfl) (.bool true) (exec_gt_i _ _ _ _ rfl (c) (4) rfl rfl true (decide_eq_true (by omega))) ?_
  simp only [Act.put, pu]
  refine pw_pick (by rfl) false (v := .bool true) rfl rfl rfl ?_
  simp only [Act.put, pu]
  refine pw_nil ?_
  (repeat ((fail_if_success with_reducible refine rg ?_); go_step))
  refine wp_region_pw ?_
  refine pw_value (by rfl) (.agg (tsC 0 0)) (exec_buildv _ [] rfl [] rfl _ built_st0) ?_
  simp only [Act.put, pu]
  refine pw_put (by rfl) 23 _ _ rfl _ rfl r4 (tsC 0 0) rfl (by exact size_st) (by rfl) (st_one _ _) ?_
  clear r4
  intro z2001 r4 k
  simp only [Act.put]
  replace sb := sb.trans (k.below w.heap.size sb.size (by simp <;> omega))
  clear k
  refine pw_value (by rfl) (.int .i64 1) (fun _ => rfl) ?_
  simp only [Act.put, pu]
  refine pw_nil ?_
  go_wp2
  exact ret_rowE rfl _ rfl r4 _ Try.underlying23 size_st rfl _ rfl ⟨by first | rfl | (rw [HE]; rfl), sb⟩
 have h4 : ¬ (n < 0 ∨ clB c = false) := by
  intro h
  rcases h with h | h
  ·exact h1 h
  ·rw [show clB c = true from decide_eq_true (by omega)] at h; cases h
 by_cases h5 : 1099511627776 ≤ n
 ·have HE : nxE n c = 2 := by unfold nxE; rw [if_neg h4, if_pos h5]
  clear h4
  go_enter Try.func8, Try.ntmps8
  have sb := sbmk w
  (repeat ((fail_if_success with_reducible refine rg ?_); go_step))
  refine wp_region_pw ?_
  refine pw_new (by rfl) 23 rfl _ zero_st ?_
  intro g4 z0 n0 r4 k
  simp only [Act.put, pu]
  have b4 := Nat.le_trans sb.size n0
  clear n0
  replace sb := sb.trans (k.below w.heap.size sb.size (by simp <;> omega))
  clear k
  refine pw_value (by rfl) (.int .i64 0) (fun _ => rfl) ?_
  simp only [Act.put, pu]
  refine pw_nil ?_
  (repeat ((fail_if_success with_reducible refine rg ?_); go_step))
  refine wp_region_pw ?_
  refine pw_mv (by rfl) rfl rfl ?_
  simp only [Act.put, pu]
  refine pw_value (by rfl) (.bool false) (exec_lt_b _ _ _ _ rfl (n) (0) rfl rfl false (decide_eq_false (by omega))) ?_
  simp only [Act.put, pu]
  refine pw_mv (by rfl) rfl rfl ?_
  simp only [Act.put, pu]
  refine pw_mv (by rfl) rfl rfl ?_
  simp only [Act.put, pu]
  refine pw_value (by rfl) (.bool false) (exec_lt_b _ _ _ _ rfl (c) (1) rfl rfl false (decide_eq_false (by omega))) ?_
  simp only [Act.put, pu]
  refine pw_pick (by rfl) false (v := .bool false) rfl rfl rfl ?_
  simp only [Act.put, pu]
  refine pw_mv (by rfl) rfl rfl ?_
  simp only [Act.put, pu]
  refine pw_mv (by rfl) rfl rfl ?_
  simp only [Act.put, pu]
  refine pw_value (by rfl) (.bool false) (exec_gt_i _ _ _ _ rfl (c) (4) rfl rfl false (decide_eq_false (by omega))) ?_
  simp only [Act.put, pu]
  refine pw_pick (by rfl) false (v := .bool false) rfl rfl rfl ?_
  simp only [Act.put, pu]
  refine pw_nil ?_
  (repeat ((fail_if_success with_reducible refine rg ?_); go_step))
  refine wp_region_pw ?_
  refine pw_mv (by rfl) rfl rfl ?_
  simp only [Act.put, pu]
  refine pw_value (by rfl) (.bool true) (exec_geq_i _ _ _ _ rfl (n) (1099511627776) rfl rfl true (decide_eq_true (by omega))) ?_
  simp only [Act.put, pu]
  refine pw_nil ?_
  (repeat ((fail_if_success with_reducible refine rg ?_); go_step))
  refine wp_region_pw ?_
  refine pw_value (by rfl) (.agg (tsC 0 0)) (exec_buildv _ [] rfl [] rfl _ built_st0) ?_
  simp only [Act.put, pu]
  refine pw_put (by rfl) 23 _ _ rfl _ rfl r4 (tsC 0 0) rfl (by exact size_st) (by rfl) (st_one _ _) ?_
  clear r4
  intro z4001 r4 k
  simp only [Act.put]
  replace sb := sb.trans (k.below w.heap.size sb.size (by simp <;> omega))
  clear k
  refine pw_value (by rfl) (.int .i64 2) (fun _ => rfl) ?_
  simp only [Act.put, pu]
  refine pw_nil ?_
  go_wp2
  exact ret_rowE rfl _ rfl r4 _ Try.underlying23 size_st rfl _ rfl ⟨by first | rfl | (rw [HE]; rfl), sb⟩
 ·have HE : nxE n c = 0 := by unfold nxE; rw [if_neg h4, if_neg h5]
  clear h4
  go_enter Try.func8, Try.ntmps8
  have sb := sbmk w
  (repeat ((fail_if_success with_reducible refine rg ?_); go_step))
  refine wp_region_pw ?_
  refine pw_new (by rfl) 23 rfl _ zero_st ?_
  intro g4 z0 n0 r4 k
  simp only [Act.put, pu]
  have b4 := Nat.le_trans sb.size n0
  clear n0
  replace sb := sb.trans (k.below w.heap.size sb.size (by simp <;> omega))
  clear k
  refine pw_value (by rfl) (.int .i64 0) (fun _ => rfl) ?_
  simp only [Act.put, pu]
  refine pw_nil ?_
  (repeat ((fail_if_success with_reducible refine rg ?_); go_step))
  refine wp_region_pw ?_
  refine pw_mv (by rfl) rfl rfl ?_
  simp only [Act.put, pu]
  refine pw_value (by rfl) (.bool false) (exec_lt_b _ _ _ _ rfl (n) (0) rfl rfl false (decide_eq_false (by omega))) ?_
  simp only [Act.put, pu]
  refine pw_mv (by rfl) rfl rfl ?_
  simp only [Act.put, pu]
  refine pw_mv (by rfl) rfl rfl ?_
  simp only [Act.put, pu]
  refine pw_value (by rfl) (.bool false) (exec_lt_b _ _ _ _ rfl (c) (1) rfl rfl false (decide_eq_false (by omega))) ?_
  simp only [Act.put, pu]
  refine pw_pick (by rfl) false (v := .bool false) rfl rfl rfl ?_
  simp only [Act.put, pu]
  refine pw_mv (by rfl) rfl rfl ?_
  simp only [Act.put, pu]
  refine pw_mv (by rfl) rfl rfl ?_
  simp only [Act.put, pu]
  refine pw_value (by rfl) (.bool false) (exec_gt_i _ _ _ _ rfl (c) (4) rfl rfl false (decide_eq_false (by omega))) ?_
  simp only [Act.put, pu]
  refine pw_pick (by rfl) false (v := .bool false) rfl rfl rfl ?_
  simp only [Act.put, pu]
  refine pw_nil ?_
  (repeat ((fail_if_success with_reducible refine rg ?_); go_step))
  refine wp_region_pw ?_
  refine pw_mv (by rfl) rfl rfl ?_
  simp only [Act.put, pu]
  refine pw_value (by rfl) (.bool false) (exec_geq_i _ _ _ _ rfl (n) (1099511627776) rfl rfl false (decide_eq_false (by omega))) ?_
  simp only [Act.put, pu]
  refine pw_nil ?_
  (repeat ((fail_if_success with_reducible refine rg ?_); go_step))
  refine wp_region_pw ?_
  refine pw_mv (by rfl) rfl rfl ?_
  simp only [Act.put, pu]
  refine pw_value (by rfl) (.int .i64 (n + 1)) (x_addz _ _ _ _ rfl (n) (1) (n + 1) rfl rfl (by omega) (by omega) (by omega)) ?_
  simp only [Act.put, pu]
  refine pw_mv (by rfl) rfl rfl ?_
  simp only [Act.put, pu]
  refine pw_value (by rfl) (.agg (tsC (n + 1) c)) (exec_buildv _ [(0, _), (1, _)] rfl [(0, .int .i64 (n + 1)), (1, .int .i64 c)] rfl _ (built_st _ _)) ?_
  simp only [Act.put, pu]
  refine pw_put (by rfl) 23 _ _ rfl _ rfl r4 (tsC (n + 1) c) rfl (by exact size_st) (by rfl) (st_one _ _) ?_
  clear r4
  intro z5004 r4 k
  simp only [Act.put]
  replace sb := sb.trans (k.below w.heap.size sb.size (by simp <;> omega))
  clear k
  refine pw_value (by rfl) (.int .i64 0) (fun _ => rfl) ?_
  simp only [Act.put, pu]
  refine pw_nil ?_
  go_wp2
  exact ret_rowE rfl _ rfl r4 _ Try.underlying23 size_st rfl _ rfl ⟨by first | rfl | (rw [HE]; rfl), sb⟩
end Go.Proofs.Ytdgbjmolinoplaa
