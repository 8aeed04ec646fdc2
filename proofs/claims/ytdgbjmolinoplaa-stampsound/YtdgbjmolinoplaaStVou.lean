/- stamp's Vouched, the document's reach and Vouched. -/
import Derived.Test.YtdgbjmolinoplaaStFun
namespace Go.Proofs.Ytdgbjmolinoplaa
open Go.RowKit
set_option linter.unusedVariables false
set_option linter.unusedSectionVars false
set_option linter.unusedSimpArgs false
set_option maxRecDepth 100000 in
set_option maxHeartbeats 2000000 in
theorem cnt_any {fn : Func} (f : FuncId) (caps : Array Value) (q : Int → Bool) (ab : Option Addr) (n c : Nat) (Z : Nat → Int) (gb ob : Nat) (bcs : Array Value) (tb : TypeId) (g1 : Nat) (w : World) (hf : Try.prog.funcs[f]? = some fn) (hb0 : (fn.name == "runtime.NumGoroutine" || fn.body.isNone) = false) (r1 : Row w g1 #[.slice ab n c] 31) (hz : ZsAt w ab n Z gb ob bcs tb) (hn : n < 4611686018427387904)
  (hc : ∀ (z : Int) w', Below w.heap.size w w' → Calls Try.prog f (#[.int .i64 z] ++ caps) w' fun e w2 => e = .returned (.bool (q z)) ∧ Below w'.heap.size w' w2) :
  Calls Try.prog 20 #[.func (.func f) #[] caps, .pointer (some ⟨g1, 0, none⟩)] w fun e w' => e = .returned (.int .i64 (ct q Z n : Nat)) ∧ Below w.heap.size w w' := by
 have HB : Hid (ZsAt w ab n Z gb ob bcs tb) := hz
 clear hz
 go_enter Try.func20, Try.ntmps20
 have sb := sbmk w
 (repeat ((fail_if_success with_reducible refine rg ?_); go_step))
 refine wp_region_pw ?_
 refine pw_value (by rfl) (.int .i64 0) (fun _ => rfl) ?_
 simp only [Act.put, pu]
 refine pw_nil ?_
 (repeat ((fail_if_success with_reducible refine rg ?_); go_step))
 refine wp_region_pw ?_
 refine pw_value (by rfl) (.int .i64 0) (fun _ => rfl) ?_
 simp only [Act.put, pu]
 refine pw_nil ?_
 (repeat ((fail_if_success with_reducible refine rg ?_); go_step))
 refine wp_region_pw ?_
 refine pw_loadk (by rfl) 31 _ rfl _ (0) rfl r1.r (.slice ab n c) rfl Try.isAgg31 ?_
 simp only [Act.put, pu]
 refine pw_value (by rfl) (.int .i64 (n : Nat)) (exec_len_s 31 _ rfl (ab) (n) (c) rfl sl_intsX) ?_
 simp only [Act.put, pu]
 refine pw_value (by rfl) (.int .i64 0) (fun _ => rfl) ?_
 simp only [Act.put, pu]
 refine pw_nil ?_
 clear r1
 go_wp2_with fail
 go_loopg [4, 6, 9] n (fun x s4 s6 s9 wr => ∃ k : Nat, k + x = n ∧ s4 = .int .i64 (ct q Z k : Nat) ∧ s9 = .int .i64 k ∧ Below w.heap.size w wr)
 case atStart => exact ⟨0, by omega, rfl, rfl, sb⟩
 case round =>
  clear sb
  obtain ⟨k, hk, rfl, rfl, sb⟩ := hrel
  cases gk with
  | zero =>
   obtain rfl : k = n := by omega
   clear hk hc
   (repeat ((fail_if_success with_reducible refine rg ?_); go_step))
   refine wp_region_pw ?_
   refine pw_value (by rfl) (.bool false) (exec_lt_b _ _ _ _ rfl (k) (k) rfl rfl false (decide_eq_false (Int.lt_irrefl _))) ?_
   simp only [Act.put, pu]
   refine pw_nil ?_
   (repeat ((fail_if_success with_reducible refine rg ?_); go_step))
   refine wp_region_pw ?_
   refine pw_mv (by rfl) rfl rfl ?_
   simp only [Act.put, pu]
   refine pw_as (by rfl) rfl rfl ?_
   simp only [Act.put, pu]
   refine pw_nil ?_
   go_wp2
   go_ret
   exact ⟨rfl, sb⟩
  | succ x =>
   have hlt : k < n := by omega
   have hck := hc (Z k)
   clear hc
   obtain h0 | ⟨rfl, rB, hbt⟩ := (HB.out.below sb).at'
   ·exact absurd h0 (by omega)
   have hbt' := hbt k hlt
   clear hbt
   have hle := ct_le q Z k
   by_cases h1 : 0 ≤ Z k
   ·cases h2 : q (Z k) with
    | true =>
     rw [h2] at hck
     have hq := ct_yes h1 h2
     generalize ct q Z k = m at *
     (repeat ((fail_if_success with_reducible refine rg ?_); go_step))
     refine wp_region_pw ?_
     refine pw_value (by rfl) (.bool true) (exec_lt_b _ _ _ _ rfl (k) (n) rfl rfl true (decide_eq_true (by omega))) ?_
     simp only [Act.put, pu]
     refine pw_nil ?_
     (repeat ((fail_if_success with_reducible refine rg ?_); go_step))
     refine wp_region_pw ?_
     refine pw_value (by rfl) (.pointer (some ⟨gb, ob + k * 1, none⟩)) ((exec_index_s 31 _ _ rfl gb ob (n) (c) rfl (k) rfl (hlt) _ Try.underlying31 1 Try.sizeOf3)) ?_
     simp only [Act.put, pu]
     refine pw_loadk (by rfl) 3 _ rfl _ (ob + k * 1) rfl rB (.int .i64 (Z k)) hbt' Try.isAgg3 ?_
     simp only [Act.put, pu]
     refine pw_as (by rfl) rfl rfl ?_
     simp only [Act.put, pu]
     refine pw_nil ?_
     (repeat ((fail_if_success with_reducible refine rg ?_); go_step))
     refine wp_region_pw ?_
     refine pw_mv (by rfl) rfl rfl ?_
     simp only [Act.put, pu]
     refine pw_value (by rfl) (.bool true) (exec_geq_i _ _ _ _ rfl (Z k) (0) rfl rfl true (decide_eq_true (by omega))) ?_
     simp only [Act.put, pu]
     refine pw_mv (by rfl) rfl rfl ?_
     simp only [Act.put, pu]
     refine pw_mv (by rfl) rfl rfl ?_
     simp only [Act.put, pu]
     refine pw_mv (by rfl) rfl rfl ?_
     simp only [Act.put, pu]
     refine pw_callC (by rfl) (f) _ _ _ rfl (caps) rfl (hf) (hb0) #[.int .i64 (Z k)] rfl _ (hck _ sb) ?_
     intro z5005 k
     simp only [Act.put, pu]
     replace sb := sb.trans (k.below w.heap.size sb.size (by simp <;> omega))
     clear k
     refine pw_pick (by rfl) true (v := .bool true) rfl rfl rfl ?_
     simp only [Act.put, pu]
     refine pw_nil ?_
     (repeat ((fail_if_success with_reducible refine rg ?_); go_step))
     refine wp_region_pw ?_
     refine pw_mv (by rfl) rfl rfl ?_
     simp only [Act.put, pu]
     refine pw_value (by rfl) (.int .i64 ((m + 1 : Nat))) (x_addz _ _ _ _ rfl (m) (1) ((m + 1 : Nat)) rfl rfl (by omega) (by omega) (by omega)) ?_
     simp only [Act.put, pu]
     refine pw_as (by rfl) rfl rfl ?_
     simp only [Act.put, pu]
     refine pw_nil ?_
     (repeat ((fail_if_success with_reducible refine rg ?_); go_step))
     refine wp_region_pw ?_
     refine pw_value (by rfl) (.int .i64 ((k + 1 : Nat))) (x_addz _ _ _ _ rfl (k) (1) ((k + 1 : Nat)) rfl rfl (by omega) (by omega) (by omega)) ?_
     simp only [Act.put, pu]
     refine pw_mv (by rfl) rfl rfl ?_
     simp only [Act.put, pu]
     refine pw_nil ?_
     go_wp2
     go_roundg x
     case measure => omega
     case rel => exact ⟨k + 1, by omega, by rw [hq], rfl, sb⟩
    | false =>
     rw [h2] at hck
     have hq := ct_no (k := k) h2
     generalize ct q Z k = m at *
     (repeat ((fail_if_success with_reducible refine rg ?_); go_step))
     refine wp_region_pw ?_
     refine pw_value (by rfl) (.bool true) (exec_lt_b _ _ _ _ rfl (k) (n) rfl rfl true (decide_eq_true (by omega))) ?_
     simp only [Act.put, pu]
     refine pw_nil ?_
     (repeat ((fail_if_success with_reducible refine rg ?_); go_step))
     refine wp_region_pw ?_
     refine pw_value (by rfl) (.pointer (some ⟨gb, ob + k * 1, none⟩)) ((exec_index_s 31 _ _ rfl gb ob (n) (c) rfl (k) rfl (hlt) _ Try.underlying31 1 Try.sizeOf3)) ?_
     simp only [Act.put, pu]
     refine pw_loadk (by rfl) 3 _ rfl _ (ob + k * 1) rfl rB (.int .i64 (Z k)) hbt' Try.isAgg3 ?_
     simp only [Act.put, pu]
     refine pw_as (by rfl) rfl rfl ?_
     simp only [Act.put, pu]
     refine pw_nil ?_
     (repeat ((fail_if_success with_reducible refine rg ?_); go_step))
     refine wp_region_pw ?_
     refine pw_mv (by rfl) rfl rfl ?_
     simp only [Act.put, pu]
     refine pw_value (by rfl) (.bool true) (exec_geq_i _ _ _ _ rfl (Z k) (0) rfl rfl true (decide_eq_true (by omega))) ?_
     simp only [Act.put, pu]
     refine pw_mv (by rfl) rfl rfl ?_
     simp only [Act.put, pu]
     refine pw_mv (by rfl) rfl rfl ?_
     simp only [Act.put, pu]
     refine pw_mv (by rfl) rfl rfl ?_
     simp only [Act.put, pu]
     refine pw_callC (by rfl) (f) _ _ _ rfl (caps) rfl (hf) (hb0) #[.int .i64 (Z k)] rfl _ (hck _ sb) ?_
     intro z5005 k
     simp only [Act.put, pu]
     replace sb := sb.trans (k.below w.heap.size sb.size (by simp <;> omega))
     clear k
     refine pw_pick (by rfl) true (v := .bool false) rfl rfl rfl ?_
     simp only [Act.put, pu]
     refine pw_nil ?_
     (repeat ((fail_if_success with_reducible refine rg ?_); go_step))
     refine wp_region_pw ?_
     refine pw_value (by rfl) (.int .i64 ((k + 1 : Nat))) (x_addz _ _ _ _ rfl (k) (1) ((k + 1 : Nat)) rfl rfl (by omega) (by omega) (by omega)) ?_
     simp only [Act.put, pu]
     refine pw_mv (by rfl) rfl rfl ?_
     simp only [Act.put, pu]
     refine pw_nil ?_
     go_wp2
     go_roundg x
     case measure => omega
     case rel => exact ⟨k + 1, by omega, by rw [hq], rfl, sb⟩
   ·have hq := ct_neg (p := q) h1
    generalize ct q Z k = m at *
    (repeat ((fail_if_success with_reducible refine rg ?_); go_step))
    refine wp_region_pw ?_
    refine pw_value (by rfl) (.bool true) (exec_lt_b _ _ _ _ rfl (k) (n) rfl rfl true (decide_eq_true (by omega))) ?_
    simp only [Act.put, pu]
    refine pw_nil ?_
    (repeat ((fail_if_success with_reducible refine rg ?_); go_step))
    refine wp_region_pw ?_
    refine pw_value (by rfl) (.pointer (some ⟨gb, ob + k * 1, none⟩)) ((exec_index_s 31 _ _ rfl gb ob (n) (c) rfl (k) rfl (hlt) _ Try.underlying31 1 Try.sizeOf3)) ?_
    simp only [Act.put, pu]
    refine pw_loadk (by rfl) 3 _ rfl _ (ob + k * 1) rfl rB (.int .i64 (Z k)) hbt' Try.isAgg3 ?_
    simp only [Act.put, pu]
    refine pw_as (by rfl) rfl rfl ?_
    simp only [Act.put, pu]
    refine pw_nil ?_
    (repeat ((fail_if_success with_reducible refine rg ?_); go_step))
    refine wp_region_pw ?_
    refine pw_mv (by rfl) rfl rfl ?_
    simp only [Act.put, pu]
    refine pw_value (by rfl) (.bool false) (exec_geq_i _ _ _ _ rfl (Z k) (0) rfl rfl false (decide_eq_false (by omega))) ?_
    simp only [Act.put, pu]
    refine pw_mv (by rfl) rfl rfl ?_
    simp only [Act.put, pu]
    refine pw_skip (by rfl) ?_
    simp only [Act.put, pu]
    refine pw_skip (by rfl) ?_
    simp only [Act.put, pu]
    refine pw_skip (by rfl) ?_
    simp only [Act.put, pu]
    refine pw_pick (by rfl) false (v := .bool false) rfl rfl rfl ?_
    simp only [Act.put, pu]
    refine pw_nil ?_
    (repeat ((fail_if_success with_reducible refine rg ?_); go_step))
    refine wp_region_pw ?_
    refine pw_value (by rfl) (.int .i64 ((k + 1 : Nat))) (x_addz _ _ _ _ rfl (k) (1) ((k + 1 : Nat)) rfl rfl (by omega) (by omega) (by omega)) ?_
    simp only [Act.put, pu]
    refine pw_mv (by rfl) rfl rfl ?_
    simp only [Act.put, pu]
    refine pw_nil ?_
    go_wp2
    go_roundg x
    case measure => omega
    case rel => exact ⟨k + 1, by omega, by rw [hq], rfl, sb⟩
set_option maxRecDepth 100000 in
set_option maxHeartbeats 2000000 in
theorem vo2_any (z v : Int) (g1 : Nat) (w : World) (r1 : Row w g1 #[.int .i64 v] 3) :
  Calls Try.prog 21 #[.int .i64 z, .pointer (some ⟨g1, 0, none⟩)] w fun e w' => e = .returned (.bool (upZ v z)) ∧ Below w.heap.size w w' := by
 obtain ⟨b, hb⟩ : ∃ b, upZ v z = b := ⟨_, rfl⟩
 have hb' := hb
 unfold upZ at hb'
 rw [hb]
 go_enter Try.func21, Try.ntmps21
 have sb := sbmk w
 (repeat ((fail_if_success with_reducible refine rg ?_); go_step))
 refine wp_region_pw ?_
 refine pw_value (by rfl) (.bool false) (fun _ => rfl) ?_
 simp only [Act.put, pu]
 refine pw_nil ?_
 (repeat ((fail_if_success with_reducible refine rg ?_); go_step))
 refine wp_region_pw ?_
 refine pw_mv (by rfl) rfl rfl ?_
 simp only [Act.put, pu]
 refine pw_loadk (by rfl) 3 _ rfl _ (0) rfl r1.r (.int .i64 v) rfl Try.isAgg3 ?_
 simp only [Act.put, pu]
 refine pw_value (by rfl) (.bool b) (exec_geq_i _ _ _ _ rfl (z) (v) rfl rfl b (hb')) ?_
 simp only [Act.put, pu]
 refine pw_as (by rfl) rfl rfl ?_
 simp only [Act.put, pu]
 refine pw_nil ?_
 go_wp2
 go_ret
 exact ⟨rfl, sb⟩
set_option maxRecDepth 100000 in
set_option maxHeartbeats 2000000 in
theorem vo3_any (z v : Int) (g1 : Nat) (w : World) (r1 : Row w g1 #[.int .i64 v] 3) :
  Calls Try.prog 22 #[.int .i64 z, .pointer (some ⟨g1, 0, none⟩)] w fun e w' => e = .returned (.bool (dnZ v z)) ∧ Below w.heap.size w w' := by
 obtain ⟨b, hb⟩ : ∃ b, dnZ v z = b := ⟨_, rfl⟩
 have hb' := hb
 unfold dnZ at hb'
 rw [hb]
 go_enter Try.func22, Try.ntmps22
 have sb := sbmk w
 (repeat ((fail_if_success with_reducible refine rg ?_); go_step))
 refine wp_region_pw ?_
 refine pw_value (by rfl) (.bool false) (fun _ => rfl) ?_
 simp only [Act.put, pu]
 refine pw_nil ?_
 (repeat ((fail_if_success with_reducible refine rg ?_); go_step))
 refine wp_region_pw ?_
 refine pw_mv (by rfl) rfl rfl ?_
 simp only [Act.put, pu]
 refine pw_loadk (by rfl) 3 _ rfl _ (0) rfl r1.r (.int .i64 v) rfl Try.isAgg3 ?_
 simp only [Act.put, pu]
 refine pw_value (by rfl) (.bool b) (exec_leq_i _ _ _ _ rfl (z) (v) rfl rfl b (hb')) ?_
 simp only [Act.put, pu]
 refine pw_as (by rfl) rfl rfl ?_
 simp only [Act.put, pu]
 refine pw_nil ?_
 go_wp2
 go_ret
 exact ⟨rfl, sb⟩
set_option maxRecDepth 100000 in
set_option maxHeartbeats 2000000 in
theorem vou_any (t : Int) (ab : Option Addr) (n c : Nat) (Z : Nat → Int) (gb ob : Nat) (bcs : Array Value) (tb : TypeId) (w : World) (hz : ZsAt w ab n Z gb ob bcs tb) (hn : n < 4611686018427387904) :
  Calls Try.prog 14 #[.int .i64 t, .slice ab n c] w fun e w' => e = .returned (.tuple #[.int .i64 (voV t n Z), .bool (voB t n Z)]) ∧ Below w.heap.size w w' := by
 have HB : Hid (ZsAt w ab n Z gb ob bcs tb) := hz
 have HC : ∀ (q : Int → Bool) (v : Int) w' g3 g9 (f : FuncId) (fn : Func), Below w.heap.size w w' → Row w' g3 #[.slice ab n c] 31 → Row w' g9 #[.int .i64 v] 3 → Try.prog.funcs[f]? = some fn → (fn.name == "runtime.NumGoroutine" || fn.body.isNone) = false → (∀ z w2, Row w2 g9 #[.int .i64 v] 3 → Calls Try.prog f #[.int .i64 z, .pointer (some ⟨g9, 0, none⟩)] w2 fun e w3 => e = .returned (.bool (q z)) ∧ Below w2.heap.size w2 w3) →
   Calls Try.prog 20 #[.func (.func f) #[] #[.pointer (some ⟨g9, 0, none⟩)], .pointer (some ⟨g3, 0, none⟩)] w' fun e w2 => e = .returned (.int .i64 (ct q Z n : Nat)) ∧ Below w'.heap.size w' w2 :=
  fun q v w' g3 g9 f fn hb r3 r9 hf hb0 hc => cnt_any f #[.pointer (some ⟨g9, 0, none⟩)] q ab n c Z gb ob bcs tb g3 w' hf hb0 r3 (HB.out.below hb) hn (fun z w2 h2 => hc z w2 (r9.belowAll h2))
 clear hz
 by_cases h1 : 1 ≤ t
 rotate_left
 ·have hv : voB t n Z = false := by unfold voB voOK; rw [decide_eq_false (by omega)]; rfl
  rw [show voV t n Z = 0 by unfold voV; rw [hv]; rfl, hv]
  go_enter Try.func14, Try.ntmps14
  have sb := sbmk w
  (repeat ((fail_if_success with_reducible refine rg ?_); go_step))
  refine wp_region_pw ?_
  refine pw_box1 (by rfl) 31 _ rfl (.slice ab n c) rfl rfl ?_
  intro g3 z0 n0 r3 k
  simp only [Act.put, pu]
  have b3 := Nat.le_trans sb.size n0
  clear n0
  replace sb := sb.trans (k.below w.heap.size sb.size (by simp <;> omega))
  clear k
  refine pw_value (by rfl) (.int .i64 0) (fun _ => rfl) ?_
  simp only [Act.put, pu]
  refine pw_value (by rfl) (.bool false) (fun _ => rfl) ?_
  simp only [Act.put, pu]
  refine pw_nil ?_
  (repeat ((fail_if_success with_reducible refine rg ?_); go_step))
  refine wp_region_pw ?_
  refine pw_mv (by rfl) rfl rfl ?_
  simp only [Act.put, pu]
  refine pw_value (by rfl) (.bool true) (exec_lt_b _ _ _ _ rfl (t) (1) rfl rfl true (decide_eq_true (by omega))) ?_
  simp only [Act.put, pu]
  refine pw_mv (by rfl) rfl rfl ?_
  simp only [Act.put, pu]
  refine pw_skip (by rfl) ?_
  simp only [Act.put, pu]
  refine pw_skip (by rfl) ?_
  simp only [Act.put, pu]
  refine pw_pick (by rfl) true (v := .bool true) rfl rfl rfl ?_
  simp only [Act.put, pu]
  refine pw_mv (by rfl) rfl rfl ?_
  simp only [Act.put, pu]
  refine pw_skip (by rfl) ?_
  simp only [Act.put, pu]
  refine pw_skip (by rfl) ?_
  simp only [Act.put, pu]
  refine pw_skip (by rfl) ?_
  simp only [Act.put, pu]
  refine pw_skip (by rfl) ?_
  simp only [Act.put, pu]
  refine pw_skip (by rfl) ?_
  simp only [Act.put, pu]
  refine pw_skip (by rfl) ?_
  simp only [Act.put, pu]
  refine pw_pick (by rfl) true (v := .bool true) rfl rfl rfl ?_
  simp only [Act.put, pu]
  refine pw_nil ?_
  (repeat ((fail_if_success with_reducible refine rg ?_); go_step))
  refine wp_region_pw ?_
  refine pw_value (by rfl) (.int .i64 0) (fun _ => rfl) ?_
  simp only [Act.put, pu]
  refine pw_value (by rfl) (.bool false) (fun _ => rfl) ?_
  simp only [Act.put, pu]
  refine pw_nil ?_
  go_wp2
  go_ret2
  exact ⟨rfl, sb⟩
 by_cases h2 : t ≤ 2
 rotate_left
 ·have hv : voB t n Z = false := by unfold voB voOK; rw [decide_eq_false (by omega)]; rfl
  rw [show voV t n Z = 0 by unfold voV; rw [hv]; rfl, hv]
  go_enter Try.func14, Try.ntmps14
  have sb := sbmk w
  (repeat ((fail_if_success with_reducible refine rg ?_); go_step))
  refine wp_region_pw ?_
  refine pw_box1 (by rfl) 31 _ rfl (.slice ab n c) rfl rfl ?_
  intro g3 z0 n0 r3 k
  simp only [Act.put, pu]
  have b3 := Nat.le_trans sb.size n0
  clear n0
  replace sb := sb.trans (k.below w.heap.size sb.size (by simp <;> omega))
  clear k
  refine pw_value (by rfl) (.int .i64 0) (fun _ => rfl) ?_
  simp only [Act.put, pu]
  refine pw_value (by rfl) (.bool false) (fun _ => rfl) ?_
  simp only [Act.put, pu]
  refine pw_nil ?_
  (repeat ((fail_if_success with_reducible refine rg ?_); go_step))
  refine wp_region_pw ?_
  refine pw_mv (by rfl) rfl rfl ?_
  simp only [Act.put, pu]
  refine pw_value (by rfl) (.bool false) (exec_lt_b _ _ _ _ rfl (t) (1) rfl rfl false (decide_eq_false (by omega))) ?_
  simp only [Act.put, pu]
  refine pw_mv (by rfl) rfl rfl ?_
  simp only [Act.put, pu]
  refine pw_mv (by rfl) rfl rfl ?_
  simp only [Act.put, pu]
  refine pw_value (by rfl) (.bool true) (exec_gt_i _ _ _ _ rfl (t) (2) rfl rfl true (decide_eq_true (by omega))) ?_
  simp only [Act.put, pu]
  refine pw_pick (by rfl) false (v := .bool true) rfl rfl rfl ?_
  simp only [Act.put, pu]
  refine pw_mv (by rfl) rfl rfl ?_
  simp only [Act.put, pu]
  refine pw_skip (by rfl) ?_
  simp only [Act.put, pu]
  refine pw_skip (by rfl) ?_
  simp only [Act.put, pu]
  refine pw_skip (by rfl) ?_
  simp only [Act.put, pu]
  refine pw_skip (by rfl) ?_
  simp only [Act.put, pu]
  refine pw_skip (by rfl) ?_
  simp only [Act.put, pu]
  refine pw_skip (by rfl) ?_
  simp only [Act.put, pu]
  refine pw_pick (by rfl) true (v := .bool true) rfl rfl rfl ?_
  simp only [Act.put, pu]
  refine pw_nil ?_
  (repeat ((fail_if_success with_reducible refine rg ?_); go_step))
  refine wp_region_pw ?_
  refine pw_value (by rfl) (.int .i64 0) (fun _ => rfl) ?_
  simp only [Act.put, pu]
  refine pw_value (by rfl) (.bool false) (fun _ => rfl) ?_
  simp only [Act.put, pu]
  refine pw_nil ?_
  go_wp2
  go_ret2
  exact ⟨rfl, sb⟩
 by_cases h3 : (n : Int) = 3 * t + 1
 rotate_left
 ·have hv : voB t n Z = false := by unfold voB voOK; rw [decide_eq_false (by omega)]; rfl
  rw [show voV t n Z = 0 by unfold voV; rw [hv]; rfl, hv]
  go_enter Try.func14, Try.ntmps14
  have sb := sbmk w
  (repeat ((fail_if_success with_reducible refine rg ?_); go_step))
  refine wp_region_pw ?_
  refine pw_box1 (by rfl) 31 _ rfl (.slice ab n c) rfl rfl ?_
  intro g3 z0 n0 r3 k
  simp only [Act.put, pu]
  have b3 := Nat.le_trans sb.size n0
  clear n0
  replace sb := sb.trans (k.below w.heap.size sb.size (by simp <;> omega))
  clear k
  refine pw_value (by rfl) (.int .i64 0) (fun _ => rfl) ?_
  simp only [Act.put, pu]
  refine pw_value (by rfl) (.bool false) (fun _ => rfl) ?_
  simp only [Act.put, pu]
  refine pw_nil ?_
  (repeat ((fail_if_success with_reducible refine rg ?_); go_step))
  refine wp_region_pw ?_
  refine pw_mv (by rfl) rfl rfl ?_
  simp only [Act.put, pu]
  refine pw_value (by rfl) (.bool false) (exec_lt_b _ _ _ _ rfl (t) (1) rfl rfl false (decide_eq_false (by omega))) ?_
  simp only [Act.put, pu]
  refine pw_mv (by rfl) rfl rfl ?_
  simp only [Act.put, pu]
  refine pw_mv (by rfl) rfl rfl ?_
  simp only [Act.put, pu]
  refine pw_value (by rfl) (.bool false) (exec_gt_i _ _ _ _ rfl (t) (2) rfl rfl false (decide_eq_false (by omega))) ?_
  simp only [Act.put, pu]
  refine pw_pick (by rfl) false (v := .bool false) rfl rfl rfl ?_
  simp only [Act.put, pu]
  refine pw_mv (by rfl) rfl rfl ?_
  simp only [Act.put, pu]
  refine pw_loadk (by rfl) 31 _ rfl _ (0) rfl r3.r (.slice ab n c) rfl Try.isAgg31 ?_
  simp only [Act.put, pu]
  refine pw_value (by rfl) (.int .i64 (n : Nat)) (exec_len_s 31 _ rfl (ab) (n) (c) rfl sl_intsX) ?_
  simp only [Act.put, pu]
  refine pw_mv (by rfl) rfl rfl ?_
  simp only [Act.put, pu]
  refine pw_value (by rfl) (.int .i64 (3 * t)) (x_mulz _ _ _ _ rfl (3) (t) (3 * t) rfl rfl (by omega) (by omega) (by omega)) ?_
  simp only [Act.put, pu]
  refine pw_value (by rfl) (.int .i64 (3 * t + 1)) (x_addz _ _ _ _ rfl (3 * t) (1) (3 * t + 1) rfl rfl (by omega) (by omega) (by omega)) ?_
  simp only [Act.put, pu]
  refine pw_value (by rfl) (.bool true) (exec_neq_k .i64 _ _ _ _ rfl ((n : Nat)) (3 * t + 1) rfl rfl true (by rw [decide_eq_false (by omega)]; rfl)) ?_
  simp only [Act.put, pu]
  refine pw_pick (by rfl) false (v := .bool true) rfl rfl rfl ?_
  simp only [Act.put, pu]
  refine pw_nil ?_
  (repeat ((fail_if_success with_reducible refine rg ?_); go_step))
  refine wp_region_pw ?_
  refine pw_value (by rfl) (.int .i64 0) (fun _ => rfl) ?_
  simp only [Act.put, pu]
  refine pw_value (by rfl) (.bool false) (fun _ => rfl) ?_
  simp only [Act.put, pu]
  refine pw_nil ?_
  go_wp2
  go_ret2
  exact ⟨rfl, sb⟩
 have hok : voOK t n = true := decide_eq_true ⟨h1, h2, h3⟩
 obtain ⟨rb, hrb⟩ : ∃ b, voB t n Z = b := ⟨_, rfl⟩
 obtain ⟨rv, hrv⟩ : ∃ v, voV t n Z = v := ⟨_, rfl⟩
 have HRB : Hid (decide (2 * t + 1 ≤ (ct (dnZ (gre Z n t n)) Z n : Nat)) = rb) := by rw [← hrb]; unfold voB; rw [hok]; rfl
 have HRV : Hid ((if rb = true then gre Z n t n else 0) = rv) := by rw [← hrv, ← hrb]; rfl
 rw [hrb, hrv]
 clear hrb hrv hok
 go_enter Try.func14, Try.ntmps14
 have sb := sbmk w
 (repeat ((fail_if_success with_reducible refine rg ?_); go_step))
 refine wp_region_pw ?_
 refine pw_box1 (by rfl) 31 _ rfl (.slice ab n c) rfl rfl ?_
 intro g3 z0 n0 r3 k
 simp only [Act.put, pu]
 have b3 := Nat.le_trans sb.size n0
 clear n0
 replace sb := sb.trans (k.below w.heap.size sb.size (by simp <;> omega))
 clear k
 refine pw_value (by rfl) (.int .i64 0) (fun _ => rfl) ?_
 simp only [Act.put, pu]
 refine pw_value (by rfl) (.bool false) (fun _ => rfl) ?_
 simp only [Act.put, pu]
 refine pw_nil ?_
 (repeat ((fail_if_success with_reducible refine rg ?_); go_step))
 refine wp_region_pw ?_
 refine pw_mv (by rfl) rfl rfl ?_
 simp only [Act.put, pu]
 refine pw_value (by rfl) (.bool false) (exec_lt_b _ _ _ _ rfl (t) (1) rfl rfl false (decide_eq_false (by omega))) ?_
 simp only [Act.put, pu]
 refine pw_mv (by rfl) rfl rfl ?_
 simp only [Act.put, pu]
 refine pw_mv (by rfl) rfl rfl ?_
 simp only [Act.put, pu]
 refine pw_value (by rfl) (.bool false) (exec_gt_i _ _ _ _ rfl (t) (2) rfl rfl false (decide_eq_false (by omega))) ?_
 simp only [Act.put, pu]
 refine pw_pick (by rfl) false (v := .bool false) rfl rfl rfl ?_
 simp only [Act.put, pu]
 refine pw_mv (by rfl) rfl rfl ?_
 simp only [Act.put, pu]
 refine pw_loadk (by rfl) 31 _ rfl _ (0) rfl r3.r (.slice ab n c) rfl Try.isAgg31 ?_
 simp only [Act.put, pu]
 refine pw_value (by rfl) (.int .i64 (n : Nat)) (exec_len_s 31 _ rfl (ab) (n) (c) rfl sl_intsX) ?_
 simp only [Act.put, pu]
 refine pw_mv (by rfl) rfl rfl ?_
 simp only [Act.put, pu]
 refine pw_value (by rfl) (.int .i64 (3 * t)) (x_mulz _ _ _ _ rfl (3) (t) (3 * t) rfl rfl (by omega) (by omega) (by omega)) ?_
 simp only [Act.put, pu]
 refine pw_value (by rfl) (.int .i64 (3 * t + 1)) (x_addz _ _ _ _ rfl (3 * t) (1) (3 * t + 1) rfl rfl (by omega) (by omega) (by omega)) ?_
 simp only [Act.put, pu]
 refine pw_value (by rfl) (.bool false) (exec_neq_k .i64 _ _ _ _ rfl ((n : Nat)) (3 * t + 1) rfl rfl false (by rw [decide_eq_true (by omega)]; rfl)) ?_
 simp only [Act.put, pu]
 refine pw_pick (by rfl) false (v := .bool false) rfl rfl rfl ?_
 simp only [Act.put, pu]
 refine pw_nil ?_
 (repeat ((fail_if_success with_reducible refine rg ?_); go_step))
 refine wp_region_pw ?_
 refine pw_value (by rfl) (.func (.func 20) #[] #[.pointer (some ⟨g3, 0, none⟩)]) (exec_func _ _ rfl _ rfl) ?_
 simp only [Act.put, pu]
 refine pw_as (by rfl) rfl rfl ?_
 simp only [Act.put, pu]
 refine pw_nil ?_
 (repeat ((fail_if_success with_reducible refine rg ?_); go_step))
 refine wp_region_pw ?_
 refine pw_newv (by rfl) 3 rfl (.int .i64 0) z_int rfl ?_
 intro g7 z4000 n0 r7 k
 simp only [Act.put, pu]
 have d3x7 := Nat.lt_of_lt_of_le r3.lt n0
 have b7 := Nat.le_trans sb.size n0
 clear n0
 replace r3 := k.row r3 (by simp <;> omega)
 replace sb := sb.trans (k.below w.heap.size sb.size (by simp <;> omega))
 clear k
 refine pw_putv (by rfl) 3 _ _ rfl _ (0) rfl r7 (.int .i64 (-1)) rfl rfl rfl size1tint (by exact Nat.one_pos) (#[.int .i64 (-1)]) rfl ?_
 clear r7
 intro z4001 r7 k
 simp only [Act.put]
 replace r3 := k.row r3 (by simp <;> omega)
 replace sb := sb.trans (k.below w.heap.size sb.size (by simp <;> omega))
 clear k
 refine pw_nil ?_
 (repeat ((fail_if_success with_reducible refine rg ?_); go_step))
 refine wp_region_pw ?_
 refine pw_loadk (by rfl) 31 _ rfl _ (0) rfl r3.r (.slice ab n c) rfl Try.isAgg31 ?_
 simp only [Act.put, pu]
 refine pw_value (by rfl) (.int .i64 (n : Nat)) (exec_len_s 31 _ rfl (ab) (n) (c) rfl sl_intsX) ?_
 simp only [Act.put, pu]
 refine pw_value (by rfl) (.int .i64 0) (fun _ => rfl) ?_
 simp only [Act.put, pu]
 refine pw_nil ?_
 have HN : Hid ((n : Int) = 3 * t + 1) := h3
 clear h3
 go_wp2_with fail
 go_loopg [9, 27] n (fun x s9 s27 wr => ∃ k : Nat, k + x = n ∧ s27 = .int .i64 k ∧ Row wr g7 #[.int .i64 (gre Z n t k)] 3 ∧ Row wr g3 #[.slice ab n c] 31 ∧ Below w.heap.size w wr)
 case atStart => exact ⟨0, by omega, rfl, r7, r3, sb⟩
 case round =>
  clear sb r7 r3
  obtain ⟨k, hk, rfl, r7, r3, sb⟩ := hrel
  cases gk with
  | zero =>
   obtain rfl : k = n := by omega
   clear hk
   have hct := fun w' hb r3 r7 => HC (dnZ (gre Z k t k)) (gre Z k t k) w' g3 g7 22 _ hb r3 r7 Try.func22 (by kernel_rfl) (fun z w2 r => vo3_any z _ g7 w2 r)
   have hle := ct_le (dnZ (gre Z k t k)) Z k
   clear HC
   generalize gre Z k t k = m at *
   generalize ct (dnZ m) Z k = u at *
   (repeat ((fail_if_success with_reducible refine rg ?_); go_step))
   refine wp_region_pw ?_
   refine pw_value (by rfl) (.bool false) (exec_lt_b _ _ _ _ rfl (k) (k) rfl rfl false (decide_eq_false (Int.lt_irrefl _))) ?_
   simp only [Act.put, pu]
   refine pw_nil ?_
   by_cases h4 : 2 * t + 1 ≤ (u : Int)
   ·have e1 : true = rb := by rw [← HRB.out, decide_eq_true h4]
    have e2 : m = rv := by rw [← HRV.out, ← e1, if_pos rfl]
    clear HRB HRV
    (repeat ((fail_if_success with_reducible refine rg ?_); go_step))
    refine wp_region_pw ?_
    refine pw_mv (by rfl) rfl rfl ?_
    simp only [Act.put, pu]
    refine pw_value (by rfl) (.func (.func 22) #[] #[.pointer (some ⟨g7, 0, none⟩)]) (exec_func _ _ rfl _ rfl) ?_
    simp only [Act.put, pu]
    refine pw_callC (by rfl) (20) _ _ _ rfl (#[.pointer (some ⟨g3, 0, none⟩)]) rfl (Try.func20) ((by kernel_rfl)) #[.func (.func 22) #[] #[.pointer (some ⟨g7, 0, none⟩)]] rfl _ (hct _ sb r3 r7) ?_
    intro z11002 k
    simp only [Act.put, pu]
    replace r3 := k.row r3 (by simp <;> omega)
    replace r7 := k.row r7 (by simp <;> omega)
    replace sb := sb.trans (k.below w.heap.size sb.size (by simp <;> omega))
    clear k
    refine pw_mv (by rfl) rfl rfl ?_
    simp only [Act.put, pu]
    refine pw_value (by rfl) (.int .i64 (2 * t)) (x_mulz _ _ _ _ rfl (2) (t) (2 * t) rfl rfl (by omega) (by omega) (by omega)) ?_
    simp only [Act.put, pu]
    refine pw_value (by rfl) (.int .i64 (2 * t + 1)) (x_addz _ _ _ _ rfl (2 * t) (1) (2 * t + 1) rfl rfl (by omega) (by omega) (by omega)) ?_
    simp only [Act.put, pu]
    refine pw_value (by rfl) (.bool false) (exec_lt_b _ _ _ _ rfl ((u : Nat)) (2 * t + 1) rfl rfl false (decide_eq_false (by omega))) ?_
    simp only [Act.put, pu]
    refine pw_nil ?_
    (repeat ((fail_if_success with_reducible refine rg ?_); go_step))
    refine wp_region_pw ?_
    refine pw_loadk (by rfl) 3 _ rfl _ (0) rfl r7.r (.int .i64 m) rfl Try.isAgg3 ?_
    simp only [Act.put, pu]
    refine pw_as (by rfl) rfl rfl ?_
    simp only [Act.put, pu]
    refine pw_value (by rfl) (.bool true) (fun _ => rfl) ?_
    simp only [Act.put, pu]
    refine pw_nil ?_
    go_wp2
    go_ret2
    exact ⟨by rw [← e1, ← e2]; rfl, sb⟩
   ·have e1 : false = rb := by rw [← HRB.out, decide_eq_false h4]
    have e2 : 0 = rv := by rw [← HRV.out, ← e1, if_neg (by decide)]
    clear HRB HRV
    (repeat ((fail_if_success with_reducible refine rg ?_); go_step))
    refine wp_region_pw ?_
    refine pw_mv (by rfl) rfl rfl ?_
    simp only [Act.put, pu]
    refine pw_value (by rfl) (.func (.func 22) #[] #[.pointer (some ⟨g7, 0, none⟩)]) (exec_func _ _ rfl _ rfl) ?_
    simp only [Act.put, pu]
    refine pw_callC (by rfl) (20) _ _ _ rfl (#[.pointer (some ⟨g3, 0, none⟩)]) rfl (Try.func20) ((by kernel_rfl)) #[.func (.func 22) #[] #[.pointer (some ⟨g7, 0, none⟩)]] rfl _ (hct _ sb r3 r7) ?_
    intro z11002 k
    simp only [Act.put, pu]
    replace r3 := k.row r3 (by simp <;> omega)
    replace r7 := k.row r7 (by simp <;> omega)
    replace sb := sb.trans (k.below w.heap.size sb.size (by simp <;> omega))
    clear k
    refine pw_mv (by rfl) rfl rfl ?_
    simp only [Act.put, pu]
    refine pw_value (by rfl) (.int .i64 (2 * t)) (x_mulz _ _ _ _ rfl (2) (t) (2 * t) rfl rfl (by omega) (by omega) (by omega)) ?_
    simp only [Act.put, pu]
    refine pw_value (by rfl) (.int .i64 (2 * t + 1)) (x_addz _ _ _ _ rfl (2 * t) (1) (2 * t + 1) rfl rfl (by omega) (by omega) (by omega)) ?_
    simp only [Act.put, pu]
    refine pw_value (by rfl) (.bool true) (exec_lt_b _ _ _ _ rfl ((u : Nat)) (2 * t + 1) rfl rfl true (decide_eq_true (by omega))) ?_
    simp only [Act.put, pu]
    refine pw_nil ?_
    (repeat ((fail_if_success with_reducible refine rg ?_); go_step))
    refine wp_region_pw ?_
    refine pw_value (by rfl) (.int .i64 0) (fun _ => rfl) ?_
    simp only [Act.put, pu]
    refine pw_value (by rfl) (.bool false) (fun _ => rfl) ?_
    simp only [Act.put, pu]
    refine pw_nil ?_
    go_wp2
    go_ret2
    exact ⟨by rw [← e1, ← e2]; rfl, sb⟩
  | succ x =>
   have hlt : k < n := by omega
   have hct := fun w' g9 hb r3 r9 => HC (upZ (Z k)) (Z k) w' g3 g9 21 _ hb r3 r9 Try.func21 (by kernel_rfl) (fun z w2 r => vo2_any z _ g9 w2 r)
   have hle := ct_le (upZ (Z k)) Z n
   have hg : gre Z n t (k + 1) = if gre Z n t k < Z k ∧ t + 1 ≤ (ct (upZ (Z k)) Z n : Nat) then Z k else gre Z n t k := rfl
   clear HC
   generalize gre Z n t k = m at *
   generalize ct (upZ (Z k)) Z n = u at *
   obtain h0 | ⟨rfl, rB, hbt⟩ := (HB.out.below sb).at'
   ·exact absurd h0 (by omega)
   have hbt' := hbt k hlt
   clear hbt
   by_cases h4 : m < Z k
   rotate_left
   ·rw [if_neg (fun h => h4 h.1)] at hg
    (repeat ((fail_if_success with_reducible refine rg ?_); go_step))
    refine wp_region_pw ?_
    refine pw_value (by rfl) (.bool true) (exec_lt_b _ _ _ _ rfl (k) (n) rfl rfl true (decide_eq_true (by omega))) ?_
    simp only [Act.put, pu]
    refine pw_nil ?_
    (repeat ((fail_if_success with_reducible refine rg ?_); go_step))
    refine wp_region_pw ?_
    refine pw_value (by rfl) (.pointer (some ⟨gb, ob + k * 1, none⟩)) ((exec_index_s 31 _ _ rfl gb ob (n) (c) rfl (k) rfl (hlt) _ Try.underlying31 1 Try.sizeOf3)) ?_
    simp only [Act.put, pu]
    refine pw_loadk (by rfl) 3 _ rfl _ (ob + k * 1) rfl rB (.int .i64 (Z k)) hbt' Try.isAgg3 ?_
    simp only [Act.put, pu]
    refine pw_newv (by rfl) 3 rfl (.int .i64 0) z_int rfl ?_
    intro g9 z7002 n0 r9 k
    simp only [Act.put, pu]
    have d3x9 := Nat.lt_of_lt_of_le r3.lt n0
    have d7x9 := Nat.lt_of_lt_of_le r7.lt n0
    have b9 := Nat.le_trans sb.size n0
    clear n0
    replace r3 := k.row r3 (by simp <;> omega)
    replace r7 := k.row r7 (by simp <;> omega)
    replace sb := sb.trans (k.below w.heap.size sb.size (by simp <;> omega))
    clear k
    refine pw_putv (by rfl) 3 _ _ rfl _ (0) rfl r9 (.int .i64 (Z k)) rfl rfl rfl size1tint (by exact Nat.one_pos) (#[.int .i64 (Z k)]) rfl ?_
    clear r9
    intro z7003 r9 k
    simp only [Act.put]
    replace r3 := k.row r3 (by simp <;> omega)
    replace r7 := k.row r7 (by simp <;> omega)
    replace sb := sb.trans (k.below w.heap.size sb.size (by simp <;> omega))
    clear k
    refine pw_nil ?_
    (repeat ((fail_if_success with_reducible refine rg ?_); go_step))
    refine wp_region_pw ?_
    refine pw_loadk (by rfl) 3 _ rfl _ (0) rfl r9.r (.int .i64 (Z k)) rfl Try.isAgg3 ?_
    simp only [Act.put, pu]
    refine pw_loadk (by rfl) 3 _ rfl _ (0) rfl r7.r (.int .i64 m) rfl Try.isAgg3 ?_
    simp only [Act.put, pu]
    refine pw_value (by rfl) (.bool false) (exec_gt_i _ _ _ _ rfl (Z k) (m) rfl rfl false (decide_eq_false (by omega))) ?_
    simp only [Act.put, pu]
    refine pw_mv (by rfl) rfl rfl ?_
    simp only [Act.put, pu]
    refine pw_skip (by rfl) ?_
    simp only [Act.put, pu]
    refine pw_skip (by rfl) ?_
    simp only [Act.put, pu]
    refine pw_skip (by rfl) ?_
    simp only [Act.put, pu]
    refine pw_skip (by rfl) ?_
    simp only [Act.put, pu]
    refine pw_skip (by rfl) ?_
    simp only [Act.put, pu]
    refine pw_skip (by rfl) ?_
    simp only [Act.put, pu]
    refine pw_pick (by rfl) false (v := .bool false) rfl rfl rfl ?_
    simp only [Act.put, pu]
    refine pw_nil ?_
    (repeat ((fail_if_success with_reducible refine rg ?_); go_step))
    refine wp_region_pw ?_
    refine pw_value (by rfl) (.int .i64 ((k + 1 : Nat))) (x_addz _ _ _ _ rfl (k) (1) ((k + 1 : Nat)) rfl rfl (by omega) (by omega) (by omega)) ?_
    simp only [Act.put, pu]
    refine pw_mv (by rfl) rfl rfl ?_
    simp only [Act.put, pu]
    refine pw_nil ?_
    go_wp2
    go_roundg x
    case measure => omega
    case rel => exact ⟨k + 1, by omega, rfl, by rw [hg]; exact r7, r3, sb⟩
   by_cases h5 : t + 1 ≤ (u : Int)
   ·rw [if_pos ⟨h4, h5⟩] at hg
    (repeat ((fail_if_success with_reducible refine rg ?_); go_step))
    refine wp_region_pw ?_
    refine pw_value (by rfl) (.bool true) (exec_lt_b _ _ _ _ rfl (k) (n) rfl rfl true (decide_eq_true (by omega))) ?_
    simp only [Act.put, pu]
    refine pw_nil ?_
    (repeat ((fail_if_success with_reducible refine rg ?_); go_step))
    refine wp_region_pw ?_
    refine pw_value (by rfl) (.pointer (some ⟨gb, ob + k * 1, none⟩)) ((exec_index_s 31 _ _ rfl gb ob (n) (c) rfl (k) rfl (hlt) _ Try.underlying31 1 Try.sizeOf3)) ?_
    simp only [Act.put, pu]
    refine pw_loadk (by rfl) 3 _ rfl _ (ob + k * 1) rfl rB (.int .i64 (Z k)) hbt' Try.isAgg3 ?_
    simp only [Act.put, pu]
    refine pw_newv (by rfl) 3 rfl (.int .i64 0) z_int rfl ?_
    intro g9 z7002 n0 r9 k
    simp only [Act.put, pu]
    have d3x9 := Nat.lt_of_lt_of_le r3.lt n0
    have d7x9 := Nat.lt_of_lt_of_le r7.lt n0
    have b9 := Nat.le_trans sb.size n0
    clear n0
    replace r3 := k.row r3 (by simp <;> omega)
    replace r7 := k.row r7 (by simp <;> omega)
    replace sb := sb.trans (k.below w.heap.size sb.size (by simp <;> omega))
    clear k
    refine pw_putv (by rfl) 3 _ _ rfl _ (0) rfl r9 (.int .i64 (Z k)) rfl rfl rfl size1tint (by exact Nat.one_pos) (#[.int .i64 (Z k)]) rfl ?_
    clear r9
    intro z7003 r9 k
    simp only [Act.put]
    replace r3 := k.row r3 (by simp <;> omega)
    replace r7 := k.row r7 (by simp <;> omega)
    replace sb := sb.trans (k.below w.heap.size sb.size (by simp <;> omega))
    clear k
    refine pw_nil ?_
    (repeat ((fail_if_success with_reducible refine rg ?_); go_step))
    refine wp_region_pw ?_
    refine pw_loadk (by rfl) 3 _ rfl _ (0) rfl r9.r (.int .i64 (Z k)) rfl Try.isAgg3 ?_
    simp only [Act.put, pu]
    refine pw_loadk (by rfl) 3 _ rfl _ (0) rfl r7.r (.int .i64 m) rfl Try.isAgg3 ?_
    simp only [Act.put, pu]
    refine pw_value (by rfl) (.bool true) (exec_gt_i _ _ _ _ rfl (Z k) (m) rfl rfl true (decide_eq_true (by omega))) ?_
    simp only [Act.put, pu]
    refine pw_mv (by rfl) rfl rfl ?_
    simp only [Act.put, pu]
    refine pw_mv (by rfl) rfl rfl ?_
    simp only [Act.put, pu]
    refine pw_value (by rfl) (.func (.func 21) #[] #[.pointer (some ⟨g9, 0, none⟩)]) (exec_func _ _ rfl _ rfl) ?_
    simp only [Act.put, pu]
    refine pw_callC (by rfl) (20) _ _ _ rfl (#[.pointer (some ⟨g3, 0, none⟩)]) rfl (Try.func20) ((by kernel_rfl)) #[.func (.func 21) #[] #[.pointer (some ⟨g9, 0, none⟩)]] rfl _ (hct _ g9 sb r3 r9) ?_
    intro z8006 k
    simp only [Act.put, pu]
    replace r3 := k.row r3 (by simp <;> omega)
    replace r7 := k.row r7 (by simp <;> omega)
    replace r9 := k.row r9 (by simp <;> omega)
    replace sb := sb.trans (k.below w.heap.size sb.size (by simp <;> omega))
    clear k
    refine pw_mv (by rfl) rfl rfl ?_
    simp only [Act.put, pu]
    refine pw_value (by rfl) (.int .i64 (t + 1)) (x_addz _ _ _ _ rfl (t) (1) (t + 1) rfl rfl (by omega) (by omega) (by omega)) ?_
    simp only [Act.put, pu]
    refine pw_value (by rfl) (.bool true) (exec_geq_i _ _ _ _ rfl ((u : Nat)) (t + 1) rfl rfl true (decide_eq_true (by omega))) ?_
    simp only [Act.put, pu]
    refine pw_pick (by rfl) true (v := .bool true) rfl rfl rfl ?_
    simp only [Act.put, pu]
    refine pw_nil ?_
    (repeat ((fail_if_success with_reducible refine rg ?_); go_step))
    refine wp_region_pw ?_
    refine pw_loadk (by rfl) 3 _ rfl _ (0) rfl r9.r (.int .i64 (Z k)) rfl Try.isAgg3 ?_
    simp only [Act.put, pu]
    refine pw_putv (by rfl) 3 _ _ rfl _ (0) rfl r7 (.int .i64 (Z k)) rfl rfl rfl size1tint (by exact Nat.one_pos) (#[.int .i64 (Z k)]) rfl ?_
    clear r7
    intro z9001 r7 k
    simp only [Act.put]
    replace r3 := k.row r3 (by simp <;> omega)
    replace r9 := k.row r9 (by simp <;> omega)
    replace sb := sb.trans (k.below w.heap.size sb.size (by simp <;> omega))
    clear k
    refine pw_nil ?_
    (repeat ((fail_if_success with_reducible refine rg ?_); go_step))
    refine wp_region_pw ?_
    refine pw_value (by rfl) (.int .i64 ((k + 1 : Nat))) (x_addz _ _ _ _ rfl (k) (1) ((k + 1 : Nat)) rfl rfl (by omega) (by omega) (by omega)) ?_
    simp only [Act.put, pu]
    refine pw_mv (by rfl) rfl rfl ?_
    simp only [Act.put, pu]
    refine pw_nil ?_
    go_wp2
    go_roundg x
    case measure => omega
    case rel => exact ⟨k + 1, by omega, rfl, by rw [hg]; exact r7, r3, sb⟩
   ·rw [if_neg (fun h => h5 h.2)] at hg
    (repeat ((fail_if_success with_reducible refine rg ?_); go_step))
    refine wp_region_pw ?_
    refine pw_value (by rfl) (.bool true) (exec_lt_b _ _ _ _ rfl (k) (n) rfl rfl true (decide_eq_true (by omega))) ?_
    simp only [Act.put, pu]
    refine pw_nil ?_
    (repeat ((fail_if_success with_reducible refine rg ?_); go_step))
    refine wp_region_pw ?_
    refine pw_value (by rfl) (.pointer (some ⟨gb, ob + k * 1, none⟩)) ((exec_index_s 31 _ _ rfl gb ob (n) (c) rfl (k) rfl (hlt) _ Try.underlying31 1 Try.sizeOf3)) ?_
    simp only [Act.put, pu]
    refine pw_loadk (by rfl) 3 _ rfl _ (ob + k * 1) rfl rB (.int .i64 (Z k)) hbt' Try.isAgg3 ?_
    simp only [Act.put, pu]
    refine pw_newv (by rfl) 3 rfl (.int .i64 0) z_int rfl ?_
    intro g9 z7002 n0 r9 k
    simp only [Act.put, pu]
    have d3x9 := Nat.lt_of_lt_of_le r3.lt n0
    have d7x9 := Nat.lt_of_lt_of_le r7.lt n0
    have b9 := Nat.le_trans sb.size n0
    clear n0
    replace r3 := k.row r3 (by simp <;> omega)
    replace r7 := k.row r7 (by simp <;> omega)
    replace sb := sb.trans (k.below w.heap.size sb.size (by simp <;> omega))
    clear k
    refine pw_putv (by rfl) 3 _ _ rfl _ (0) rfl r9 (.int .i64 (Z k)) rfl rfl rfl size1tint (by exact Nat.one_pos) (#[.int .i64 (Z k)]) rfl ?_
    clear r9
    intro z7003 r9 k
    simp only [Act.put]
    replace r3 := k.row r3 (by simp <;> omega)
    replace r7 := k.row r7 (by simp <;> omega)
    replace sb := sb.trans (k.below w.heap.size sb.size (by simp <;> omega))
    clear k
    refine pw_nil ?_
    (repeat ((fail_if_success with_reducible refine rg ?_); go_step))
    refine wp_region_pw ?_
    refine pw_loadk (by rfl) 3 _ rfl _ (0) rfl r9.r (.int .i64 (Z k)) rfl Try.isAgg3 ?_
    simp only [Act.put, pu]
    refine pw_loadk (by rfl) 3 _ rfl _ (0) rfl r7.r (.int .i64 m) rfl Try.isAgg3 ?_
    simp only [Act.put, pu]
    refine pw_value (by rfl) (.bool true) (exec_gt_i _ _ _ _ rfl (Z k) (m) rfl rfl true (decide_eq_true (by omega))) ?_
    simp only [Act.put, pu]
    refine pw_mv (by rfl) rfl rfl ?_
    simp only [Act.put, pu]
    refine pw_mv (by rfl) rfl rfl ?_
    simp only [Act.put, pu]
    refine pw_value (by rfl) (.func (.func 21) #[] #[.pointer (some ⟨g9, 0, none⟩)]) (exec_func _ _ rfl _ rfl) ?_
    simp only [Act.put, pu]
    refine pw_callC (by rfl) (20) _ _ _ rfl (#[.pointer (some ⟨g3, 0, none⟩)]) rfl (Try.func20) ((by kernel_rfl)) #[.func (.func 21) #[] #[.pointer (some ⟨g9, 0, none⟩)]] rfl _ (hct _ g9 sb r3 r9) ?_
    intro z8006 k
    simp only [Act.put, pu]
    replace r3 := k.row r3 (by simp <;> omega)
    replace r7 := k.row r7 (by simp <;> omega)
    replace r9 := k.row r9 (by simp <;> omega)
    replace sb := sb.trans (k.below w.heap.size sb.size (by simp <;> omega))
    clear k
    refine pw_mv (by rfl) rfl rfl ?_
    simp only [Act.put, pu]
    refine pw_value (by rfl) (.int .i64 (t + 1)) (x_addz _ _ _ _ rfl (t) (1) (t + 1) rfl rfl (by omega) (by omega) (by omega)) ?_
    simp only [Act.put, pu]
    refine pw_value (by rfl) (.bool false) (exec_geq_i _ _ _ _ rfl ((u : Nat)) (t + 1) rfl rfl false (decide_eq_false (by omega))) ?_
    simp only [Act.put, pu]
    refine pw_pick (by rfl) true (v := .bool false) rfl rfl rfl ?_
    simp only [Act.put, pu]
    refine pw_nil ?_
    (repeat ((fail_if_success with_reducible refine rg ?_); go_step))
    refine wp_region_pw ?_
    refine pw_value (by rfl) (.int .i64 ((k + 1 : Nat))) (x_addz _ _ _ _ rfl (k) (1) ((k + 1 : Nat)) rfl rfl (by omega) (by omega) (by omega)) ?_
    simp only [Act.put, pu]
    refine pw_mv (by rfl) rfl rfl ?_
    simp only [Act.put, pu]
    refine pw_nil ?_
    go_wp2
    go_roundg x
    case measure => omega
    case rel => exact ⟨k + 1, by omega, rfl, by rw [hg]; exact r7, r3, sb⟩
set_option maxRecDepth 100000 in
set_option maxHeartbeats 2000000 in
theorem rch_any (ab : Option Addr) (n c : Nat) (Z : Nat → Int) (gb ob : Nat) (bcs : Array Value) (tb : TypeId) (v : Int) (w : World) (hz : ZsAt w ab n Z gb ob bcs tb) (hn : n < 4611686018427387904) :
  Calls Try.prog 23 #[.slice ab n c, .int .i64 v] w fun e w' => e = .returned (.tuple #[.int .i64 (ct (upZ v) Z n : Nat), .int .i64 (ct (dnZ v) Z n : Nat)]) ∧ Below w.heap.size w w' := by
 have HB : Hid (ZsAt w ab n Z gb ob bcs tb) := hz
 clear hz
 go_enter Try.func23, Try.ntmps23
 have sb := sbmk w
 (repeat ((fail_if_success with_reducible refine rg ?_); go_step))
 refine wp_region_pw ?_
 refine pw_value (by rfl) (.int .i64 0) (fun _ => rfl) ?_
 simp only [Act.put, pu]
 refine pw_value (by rfl) (.int .i64 0) (fun _ => rfl) ?_
 simp only [Act.put, pu]
 refine pw_nil ?_
 (repeat ((fail_if_success with_reducible refine rg ?_); go_step))
 refine wp_region_pw ?_
 refine pw_value (by rfl) (.int .i64 0) (fun _ => rfl) ?_
 simp only [Act.put, pu]
 refine pw_value (by rfl) (.int .i64 0) (fun _ => rfl) ?_
 simp only [Act.put, pu]
 refine pw_nil ?_
 (repeat ((fail_if_success with_reducible refine rg ?_); go_step))
 refine wp_region_pw ?_
 refine pw_value (by rfl) (.int .i64 0) (fun _ => rfl) ?_
 simp only [Act.put, pu]
 refine pw_nil ?_
 go_wp2_with fail
 go_loopg [6, 7, 8] n (fun x s6 s7 s8 wr => ∃ k : Nat, k + x = n ∧ s6 = .int .i64 (ct (upZ v) Z k : Nat) ∧ s7 = .int .i64 (ct (dnZ v) Z k : Nat) ∧ s8 = .int .i64 k ∧ Below w.heap.size w wr)
 case atStart => exact ⟨0, by omega, rfl, rfl, rfl, sb⟩
 case round =>
  clear sb
  obtain ⟨k, hk, rfl, rfl, rfl, sb⟩ := hrel
  cases gk with
  | zero =>
   obtain rfl : k = n := by omega
   clear hk
   (repeat ((fail_if_success with_reducible refine rg ?_); go_step))
   refine wp_region_pw ?_
   refine pw_mv (by rfl) rfl rfl ?_
   simp only [Act.put, pu]
   refine pw_mv (by rfl) rfl rfl ?_
   simp only [Act.put, pu]
   refine pw_value (by rfl) (.int .i64 (k : Nat)) (exec_len_s 31 _ rfl (ab) (k) (c) rfl sl_intsX) ?_
   simp only [Act.put, pu]
   refine pw_value (by rfl) (.bool false) (exec_lt_b _ _ _ _ rfl (k) (k) rfl rfl false (decide_eq_false (Int.lt_irrefl _))) ?_
   simp only [Act.put, pu]
   refine pw_nil ?_
   (repeat ((fail_if_success with_reducible refine rg ?_); go_step))
   refine wp_region_pw ?_
   refine pw_mv (by rfl) rfl rfl ?_
   simp only [Act.put, pu]
   refine pw_mv (by rfl) rfl rfl ?_
   simp only [Act.put, pu]
   refine pw_as (by rfl) rfl rfl ?_
   simp only [Act.put, pu]
   refine pw_as (by rfl) rfl rfl ?_
   simp only [Act.put, pu]
   refine pw_nil ?_
   go_wp2
   go_ret2
   exact ⟨rfl, sb⟩
  | succ x =>
   have hlt : k < n := by omega
   obtain h0 | ⟨rfl, rB, hbt⟩ := (HB.out.below sb).at'
   ·exact absurd h0 (by omega)
   have hbt' := hbt k hlt
   clear hbt
   have hle1 := ct_le (upZ v) Z k
   have hle2 := ct_le (dnZ v) Z k
   by_cases h1 : 0 ≤ Z k
   rotate_left
   ·have hq1 := ct_neg (p := upZ v) h1
    have hq2 := ct_neg (p := dnZ v) h1
    generalize ct (upZ v) Z k = m at *
    generalize ct (dnZ v) Z k = u at *
    (repeat ((fail_if_success with_reducible refine rg ?_); go_step))
    refine wp_region_pw ?_
    refine pw_mv (by rfl) rfl rfl ?_
    simp only [Act.put, pu]
    refine pw_mv (by rfl) rfl rfl ?_
    simp only [Act.put, pu]
    refine pw_value (by rfl) (.int .i64 (n : Nat)) (exec_len_s 31 _ rfl (some ⟨gb, ob, none⟩) (n) (c) rfl sl_intsX) ?_
    simp only [Act.put, pu]
    refine pw_value (by rfl) (.bool true) (exec_lt_b _ _ _ _ rfl (k) (n) rfl rfl true (decide_eq_true (by omega))) ?_
    simp only [Act.put, pu]
    refine pw_nil ?_
    (repeat ((fail_if_success with_reducible refine rg ?_); go_step))
    refine wp_region_pw ?_
    refine pw_mv (by rfl) rfl rfl ?_
    simp only [Act.put, pu]
    refine pw_mv (by rfl) rfl rfl ?_
    simp only [Act.put, pu]
    refine pw_value (by rfl) (.pointer (some ⟨gb, ob + k * 1, none⟩)) ((exec_index_s 31 _ _ rfl gb ob (n) (c) rfl (k) rfl (hlt) _ Try.underlying31 1 Try.sizeOf3)) ?_
    simp only [Act.put, pu]
    refine pw_loadk (by rfl) 3 _ rfl _ (ob + k * 1) rfl rB (.int .i64 (Z k)) hbt' Try.isAgg3 ?_
    simp only [Act.put, pu]
    refine pw_value (by rfl) (.bool true) (exec_lt_b _ _ _ _ rfl (Z k) (0) rfl rfl true (decide_eq_true (by omega))) ?_
    simp only [Act.put, pu]
    refine pw_nil ?_
    (repeat ((fail_if_success with_reducible refine rg ?_); go_step))
    refine wp_region_pw ?_
    refine pw_mv (by rfl) rfl rfl ?_
    simp only [Act.put, pu]
    refine pw_value (by rfl) (.int .i64 ((k + 1 : Nat))) (x_addz _ _ _ _ rfl (k) (1) ((k + 1 : Nat)) rfl rfl (by omega) (by omega) (by omega)) ?_
    simp only [Act.put, pu]
    refine pw_as (by rfl) rfl rfl ?_
    simp only [Act.put, pu]
    refine pw_nil ?_
    go_wp2
    go_roundg x
    case measure => omega
    case rel => exact ⟨k + 1, by omega, by exact congrArg (fun x : Nat => Value.int .i64 (x : Int)) hq1.symm, by exact congrArg (fun x : Nat => Value.int .i64 (x : Int)) hq2.symm, rfl, sb⟩
   by_cases h2 : v ≤ Z k
   ·have hq1 := ct_yes (p := upZ v) h1 (decide_eq_true h2)
    by_cases h3 : Z k ≤ v
    ·have hq2 := ct_yes (p := dnZ v) h1 (decide_eq_true h3)
     generalize ct (upZ v) Z k = m at *
     generalize ct (dnZ v) Z k = u at *
     (repeat ((fail_if_success with_reducible refine rg ?_); go_step))
     refine wp_region_pw ?_
     refine pw_mv (by rfl) rfl rfl ?_
     simp only [Act.put, pu]
     refine pw_mv (by rfl) rfl rfl ?_
     simp only [Act.put, pu]
     refine pw_value (by rfl) (.int .i64 (n : Nat)) (exec_len_s 31 _ rfl (some ⟨gb, ob, none⟩) (n) (c) rfl sl_intsX) ?_
     simp only [Act.put, pu]
     refine pw_value (by rfl) (.bool true) (exec_lt_b _ _ _ _ rfl (k) (n) rfl rfl true (decide_eq_true (by omega))) ?_
     simp only [Act.put, pu]
     refine pw_nil ?_
     (repeat ((fail_if_success with_reducible refine rg ?_); go_step))
     refine wp_region_pw ?_
     refine pw_mv (by rfl) rfl rfl ?_
     simp only [Act.put, pu]
     refine pw_mv (by rfl) rfl rfl ?_
     simp only [Act.put, pu]
     refine pw_value (by rfl) (.pointer (some ⟨gb, ob + k * 1, none⟩)) ((exec_index_s 31 _ _ rfl gb ob (n) (c) rfl (k) rfl (hlt) _ Try.underlying31 1 Try.sizeOf3)) ?_
     simp only [Act.put, pu]
     refine pw_loadk (by rfl) 3 _ rfl _ (ob + k * 1) rfl rB (.int .i64 (Z k)) hbt' Try.isAgg3 ?_
     simp only [Act.put, pu]
     refine pw_value (by rfl) (.bool false) (exec_lt_b _ _ _ _ rfl (Z k) (0) rfl rfl false (decide_eq_false (by omega))) ?_
     simp only [Act.put, pu]
     refine pw_nil ?_
     (repeat ((fail_if_success with_reducible refine rg ?_); go_step))
     refine wp_region_pw ?_
     refine pw_mv (by rfl) rfl rfl ?_
     simp only [Act.put, pu]
     refine pw_mv (by rfl) rfl rfl ?_
     simp only [Act.put, pu]
     refine pw_value (by rfl) (.pointer (some ⟨gb, ob + k * 1, none⟩)) ((exec_index_s 31 _ _ rfl gb ob (n) (c) rfl (k) rfl (hlt) _ Try.underlying31 1 Try.sizeOf3)) ?_
     simp only [Act.put, pu]
     refine pw_loadk (by rfl) 3 _ rfl _ (ob + k * 1) rfl rB (.int .i64 (Z k)) hbt' Try.isAgg3 ?_
     simp only [Act.put, pu]
     refine pw_mv (by rfl) rfl rfl ?_
     simp only [Act.put, pu]
     refine pw_value (by rfl) (.bool true) (exec_geq_i _ _ _ _ rfl (Z k) (v) rfl rfl true (decide_eq_true (by omega))) ?_
     simp only [Act.put, pu]
     refine pw_nil ?_
     (repeat ((fail_if_success with_reducible refine rg ?_); go_step))
     refine wp_region_pw ?_
     refine pw_mv (by rfl) rfl rfl ?_
     simp only [Act.put, pu]
     refine pw_value (by rfl) (.int .i64 ((m + 1 : Nat))) (x_addz _ _ _ _ rfl (m) (1) ((m + 1 : Nat)) rfl rfl (by omega) (by omega) (by omega)) ?_
     simp only [Act.put, pu]
     refine pw_as (by rfl) rfl rfl ?_
     simp only [Act.put, pu]
     refine pw_nil ?_
     (repeat ((fail_if_success with_reducible refine rg ?_); go_step))
     refine wp_region_pw ?_
     refine pw_mv (by rfl) rfl rfl ?_
     simp only [Act.put, pu]
     refine pw_mv (by rfl) rfl rfl ?_
     simp only [Act.put, pu]
     refine pw_value (by rfl) (.pointer (some ⟨gb, ob + k * 1, none⟩)) ((exec_index_s 31 _ _ rfl gb ob (n) (c) rfl (k) rfl (hlt) _ Try.underlying31 1 Try.sizeOf3)) ?_
     simp only [Act.put, pu]
     refine pw_loadk (by rfl) 3 _ rfl _ (ob + k * 1) rfl rB (.int .i64 (Z k)) hbt' Try.isAgg3 ?_
     simp only [Act.put, pu]
     refine pw_mv (by rfl) rfl rfl ?_
     simp only [Act.put, pu]
     refine pw_value (by rfl) (.bool true) (exec_leq_i _ _ _ _ rfl (Z k) (v) rfl rfl true (decide_eq_true (by omega))) ?_
     simp only [Act.put, pu]
     refine pw_nil ?_
     (repeat ((fail_if_success with_reducible refine rg ?_); go_step))
     refine wp_region_pw ?_
     refine pw_mv (by rfl) rfl rfl ?_
     simp only [Act.put, pu]
     refine pw_value (by rfl) (.int .i64 ((u + 1 : Nat))) (x_addz _ _ _ _ rfl (u) (1) ((u + 1 : Nat)) rfl rfl (by omega) (by omega) (by omega)) ?_
     simp only [Act.put, pu]
     refine pw_as (by rfl) rfl rfl ?_
     simp only [Act.put, pu]
     refine pw_nil ?_
     (repeat ((fail_if_success with_reducible refine rg ?_); go_step))
     refine wp_region_pw ?_
     refine pw_mv (by rfl) rfl rfl ?_
     simp only [Act.put, pu]
     refine pw_value (by rfl) (.int .i64 ((k + 1 : Nat))) (x_addz _ _ _ _ rfl (k) (1) ((k + 1 : Nat)) rfl rfl (by omega) (by omega) (by omega)) ?_
     simp only [Act.put, pu]
     refine pw_as (by rfl) rfl rfl ?_
     simp only [Act.put, pu]
     refine pw_nil ?_
     go_wp2
     go_roundg x
     case measure => omega
     case rel => exact ⟨k + 1, by omega, by exact congrArg (fun x : Nat => Value.int .i64 (x : Int)) hq1.symm, by exact congrArg (fun x : Nat => Value.int .i64 (x : Int)) hq2.symm, rfl, sb⟩
    ·have hq2 := ct_no (p := dnZ v) (k := k) (Z := Z) (decide_eq_false h3)
     generalize ct (upZ v) Z k = m at *
     generalize ct (dnZ v) Z k = u at *
     (repeat ((fail_if_success with_reducible refine rg ?_); go_step))
     refine wp_region_pw ?_
     refine pw_mv (by rfl) rfl rfl ?_
     simp only [Act.put, pu]
     refine pw_mv (by rfl) rfl rfl ?_
     simp only [Act.put, pu]
     refine pw_value (by rfl) (.int .i64 (n : Nat)) (exec_len_s 31 _ rfl (some ⟨gb, ob, none⟩) (n) (c) rfl sl_intsX) ?_
     simp only [Act.put, pu]
     refine pw_value (by rfl) (.bool true) (exec_lt_b _ _ _ _ rfl (k) (n) rfl rfl true (decide_eq_true (by omega))) ?_
     simp only [Act.put, pu]
     refine pw_nil ?_
     (repeat ((fail_if_success with_reducible refine rg ?_); go_step))
     refine wp_region_pw ?_
     refine pw_mv (by rfl) rfl rfl ?_
     simp only [Act.put, pu]
     refine pw_mv (by rfl) rfl rfl ?_
     simp only [Act.put, pu]
     refine pw_value (by rfl) (.pointer (some ⟨gb, ob + k * 1, none⟩)) ((exec_index_s 31 _ _ rfl gb ob (n) (c) rfl (k) rfl (hlt) _ Try.underlying31 1 Try.sizeOf3)) ?_
     simp only [Act.put, pu]
     refine pw_loadk (by rfl) 3 _ rfl _ (ob + k * 1) rfl rB (.int .i64 (Z k)) hbt' Try.isAgg3 ?_
     simp only [Act.put, pu]
     refine pw_value (by rfl) (.bool false) (exec_lt_b _ _ _ _ rfl (Z k) (0) rfl rfl false (decide_eq_false (by omega))) ?_
     simp only [Act.put, pu]
     refine pw_nil ?_
     (repeat ((fail_if_success with_reducible refine rg ?_); go_step))
     refine wp_region_pw ?_
     refine pw_mv (by rfl) rfl rfl ?_
     simp only [Act.put, pu]
     refine pw_mv (by rfl) rfl rfl ?_
     simp only [Act.put, pu]
     refine pw_value (by rfl) (.pointer (some ⟨gb, ob + k * 1, none⟩)) ((exec_index_s 31 _ _ rfl gb ob (n) (c) rfl (k) rfl (hlt) _ Try.underlying31 1 Try.sizeOf3)) ?_
     simp only [Act.put, pu]
     refine pw_loadk (by rfl) 3 _ rfl _ (ob + k * 1) rfl rB (.int .i64 (Z k)) hbt' Try.isAgg3 ?_
     simp only [Act.put, pu]
     refine pw_mv (by rfl) rfl rfl ?_
     simp only [Act.put, pu]
     refine pw_value (by rfl) (.bool true) (exec_geq_i _ _ _ _ rfl (Z k) (v) rfl rfl true (decide_eq_true (by omega))) ?_
     simp only [Act.put, pu]
     refine pw_nil ?_
     (repeat ((fail_if_success with_reducible refine rg ?_); go_step))
     refine wp_region_pw ?_
     refine pw_mv (by rfl) rfl rfl ?_
     simp only [Act.put, pu]
     refine pw_value (by rfl) (.int .i64 ((m + 1 : Nat))) (x_addz _ _ _ _ rfl (m) (1) ((m + 1 : Nat)) rfl rfl (by omega) (by omega) (by omega)) ?_
     simp only [Act.put, pu]
     refine pw_as (by rfl) rfl rfl ?_
     simp only [Act.put, pu]
     refine pw_nil ?_
     (repeat ((fail_if_success with_reducible refine rg ?_); go_step))
     refine wp_region_pw ?_
     refine pw_mv (by rfl) rfl rfl ?_
     simp only [Act.put, pu]
     refine pw_mv (by rfl) rfl rfl ?_
     simp only [Act.put, pu]
     refine pw_value (by rfl) (.pointer (some ⟨gb, ob + k * 1, none⟩)) ((exec_index_s 31 _ _ rfl gb ob (n) (c) rfl (k) rfl (hlt) _ Try.underlying31 1 Try.sizeOf3)) ?_
     simp only [Act.put, pu]
     refine pw_loadk (by rfl) 3 _ rfl _ (ob + k * 1) rfl rB (.int .i64 (Z k)) hbt' Try.isAgg3 ?_
     simp only [Act.put, pu]
     refine pw_mv (by rfl) rfl rfl ?_
     simp only [Act.put, pu]
     refine pw_value (by rfl) (.bool false) (exec_leq_i _ _ _ _ rfl (Z k) (v) rfl rfl false (decide_eq_false (by omega))) ?_
     simp only [Act.put, pu]
     refine pw_nil ?_
     (repeat ((fail_if_success with_reducible refine rg ?_); go_step))
     refine wp_region_pw ?_
     refine pw_mv (by rfl) rfl rfl ?_
     simp only [Act.put, pu]
     refine pw_value (by rfl) (.int .i64 ((k + 1 : Nat))) (x_addz _ _ _ _ rfl (k) (1) ((k + 1 : Nat)) rfl rfl (by omega) (by omega) (by omega)) ?_
     simp only [Act.put, pu]
     refine pw_as (by rfl) rfl rfl ?_
     simp only [Act.put, pu]
     refine pw_nil ?_
     go_wp2
     go_roundg x
     case measure => omega
     case rel => exact ⟨k + 1, by omega, by exact congrArg (fun x : Nat => Value.int .i64 (x : Int)) hq1.symm, by exact congrArg (fun x : Nat => Value.int .i64 (x : Int)) hq2.symm, rfl, sb⟩
   ·have hq1 := ct_no (p := upZ v) (k := k) (Z := Z) (decide_eq_false h2)
    have h3 : Z k ≤ v := by omega
    have hq2 := ct_yes (p := dnZ v) h1 (decide_eq_true h3)
    generalize ct (upZ v) Z k = m at *
    generalize ct (dnZ v) Z k = u at *
    (repeat ((fail_if_success with_reducible refine rg ?_); go_step))
    refine wp_region_pw ?_
    refine pw_mv (by rfl) rfl rfl ?_
    simp only [Act.put, pu]
    refine pw_mv (by rfl) rfl rfl ?_
    simp only [Act.put, pu]
    refine pw_value (by rfl) (.int .i64 (n : Nat)) (exec_len_s 31 _ rfl (some ⟨gb, ob, none⟩) (n) (c) rfl sl_intsX) ?_
    simp only [Act.put, pu]
    refine pw_value (by rfl) (.bool true) (exec_lt_b _ _ _ _ rfl (k) (n) rfl rfl true (decide_eq_true (by omega))) ?_
    simp only [Act.put, pu]
    refine pw_nil ?_
    (repeat ((fail_if_success with_reducible refine rg ?_); go_step))
    refine wp_region_pw ?_
    refine pw_mv (by rfl) rfl rfl ?_
    simp only [Act.put, pu]
    refine pw_mv (by rfl) rfl rfl ?_
    simp only [Act.put, pu]
    refine pw_value (by rfl) (.pointer (some ⟨gb, ob + k * 1, none⟩)) ((exec_index_s 31 _ _ rfl gb ob (n) (c) rfl (k) rfl (hlt) _ Try.underlying31 1 Try.sizeOf3)) ?_
    simp only [Act.put, pu]
    refine pw_loadk (by rfl) 3 _ rfl _ (ob + k * 1) rfl rB (.int .i64 (Z k)) hbt' Try.isAgg3 ?_
    simp only [Act.put, pu]
    refine pw_value (by rfl) (.bool false) (exec_lt_b _ _ _ _ rfl (Z k) (0) rfl rfl false (decide_eq_false (by omega))) ?_
    simp only [Act.put, pu]
    refine pw_nil ?_
    (repeat ((fail_if_success with_reducible refine rg ?_); go_step))
    refine wp_region_pw ?_
    refine pw_mv (by rfl) rfl rfl ?_
    simp only [Act.put, pu]
    refine pw_mv (by rfl) rfl rfl ?_
    simp only [Act.put, pu]
    refine pw_value (by rfl) (.pointer (some ⟨gb, ob + k * 1, none⟩)) ((exec_index_s 31 _ _ rfl gb ob (n) (c) rfl (k) rfl (hlt) _ Try.underlying31 1 Try.sizeOf3)) ?_
    simp only [Act.put, pu]
    refine pw_loadk (by rfl) 3 _ rfl _ (ob + k * 1) rfl rB (.int .i64 (Z k)) hbt' Try.isAgg3 ?_
    simp only [Act.put, pu]
    refine pw_mv (by rfl) rfl rfl ?_
    simp only [Act.put, pu]
    refine pw_value (by rfl) (.bool false) (exec_geq_i _ _ _ _ rfl (Z k) (v) rfl rfl false (decide_eq_false (by omega))) ?_
    simp only [Act.put, pu]
    refine pw_nil ?_
    (repeat ((fail_if_success with_reducible refine rg ?_); go_step))
    refine wp_region_pw ?_
    refine pw_mv (by rfl) rfl rfl ?_
    simp only [Act.put, pu]
    refine pw_mv (by rfl) rfl rfl ?_
    simp only [Act.put, pu]
    refine pw_value (by rfl) (.pointer (some ⟨gb, ob + k * 1, none⟩)) ((exec_index_s 31 _ _ rfl gb ob (n) (c) rfl (k) rfl (hlt) _ Try.underlying31 1 Try.sizeOf3)) ?_
    simp only [Act.put, pu]
    refine pw_loadk (by rfl) 3 _ rfl _ (ob + k * 1) rfl rB (.int .i64 (Z k)) hbt' Try.isAgg3 ?_
    simp only [Act.put, pu]
    refine pw_mv (by rfl) rfl rfl ?_
    simp only [Act.put, pu]
    refine pw_value (by rfl) (.bool true) (exec_leq_i _ _ _ _ rfl (Z k) (v) rfl rfl true (decide_eq_true (by omega))) ?_
    simp only [Act.put, pu]
    refine pw_nil ?_
    (repeat ((fail_if_success with_reducible refine rg ?_); go_step))
    refine wp_region_pw ?_
    refine pw_mv (by rfl) rfl rfl ?_
    simp only [Act.put, pu]
    refine pw_value (by rfl) (.int .i64 ((u + 1 : Nat))) (x_addz _ _ _ _ rfl (u) (1) ((u + 1 : Nat)) rfl rfl (by omega) (by omega) (by omega)) ?_
    simp only [Act.put, pu]
    refine pw_as (by rfl) rfl rfl ?_
    simp only [Act.put, pu]
    refine pw_nil ?_
    (repeat ((fail_if_success with_reducible refine rg ?_); go_step))
    refine wp_region_pw ?_
    refine pw_mv (by rfl) rfl rfl ?_
    simp only [Act.put, pu]
    refine pw_value (by rfl) (.int .i64 ((k + 1 : Nat))) (x_addz _ _ _ _ rfl (k) (1) ((k + 1 : Nat)) rfl rfl (by omega) (by omega) (by omega)) ?_
    simp only [Act.put, pu]
    refine pw_as (by rfl) rfl rfl ?_
    simp only [Act.put, pu]
    refine pw_nil ?_
    go_wp2
    go_roundg x
    case measure => omega
    case rel => exact ⟨k + 1, by omega, by exact congrArg (fun x : Nat => Value.int .i64 (x : Int)) hq1.symm, by exact congrArg (fun x : Nat => Value.int .i64 (x : Int)) hq2.symm, rfl, sb⟩
set_option maxRecDepth 100000 in
set_option maxHeartbeats 2000000 in
theorem rvou_any (t : Int) (ab : Option Addr) (n c : Nat) (Z : Nat → Int) (gb ob : Nat) (bcs : Array Value) (tb : TypeId) (w : World) (hz : ZsAt w ab n Z gb ob bcs tb) (hn : n < 4611686018427387904) :
  Calls Try.prog 15 #[.int .i64 t, .slice ab n c] w fun e w' => e = .returned (.tuple #[.int .i64 (voV t n Z), .bool (voB t n Z)]) ∧ Below w.heap.size w w' := by
 have HB : Hid (ZsAt w ab n Z gb ob bcs tb) := hz
 have HC := fun v w' (hb : Below w.heap.size w w') => rch_any ab n c Z gb ob bcs tb v w' (HB.out.below hb) hn
 clear hz
 by_cases h1 : 1 ≤ t
 rotate_left
 ·have hv : voB t n Z = false := by unfold voB voOK; rw [decide_eq_false (by omega)]; rfl
  rw [show voV t n Z = 0 by unfold voV; rw [hv]; rfl, hv]
  go_enter Try.func15, Try.ntmps15
  have sb := sbmk w
  (repeat ((fail_if_success with_reducible refine rg ?_); go_step))
  refine wp_region_pw ?_
  refine pw_value (by rfl) (.int .i64 0) (fun _ => rfl) ?_
  simp only [Act.put, pu]
  refine pw_value (by rfl) (.bool false) (fun _ => rfl) ?_
  simp only [Act.put, pu]
  refine pw_nil ?_
  (repeat ((fail_if_success with_reducible refine rg ?_); go_step))
  refine wp_region_pw ?_
  refine pw_mv (by rfl) rfl rfl ?_
  simp only [Act.put, pu]
  refine pw_value (by rfl) (.bool true) (exec_lt_b _ _ _ _ rfl (t) (1) rfl rfl true (decide_eq_true (by omega))) ?_
  simp only [Act.put, pu]
  refine pw_mv (by rfl) rfl rfl ?_
  simp only [Act.put, pu]
  refine pw_skip (by rfl) ?_
  simp only [Act.put, pu]
  refine pw_skip (by rfl) ?_
  simp only [Act.put, pu]
  refine pw_pick (by rfl) true (v := .bool true) rfl rfl rfl ?_
  simp only [Act.put, pu]
  refine pw_mv (by rfl) rfl rfl ?_
  simp only [Act.put, pu]
  refine pw_skip (by rfl) ?_
  simp only [Act.put, pu]
  refine pw_skip (by rfl) ?_
  simp only [Act.put, pu]
  refine pw_skip (by rfl) ?_
  simp only [Act.put, pu]
  refine pw_skip (by rfl) ?_
  simp only [Act.put, pu]
  refine pw_skip (by rfl) ?_
  simp only [Act.put, pu]
  refine pw_skip (by rfl) ?_
  simp only [Act.put, pu]
  refine pw_pick (by rfl) true (v := .bool true) rfl rfl rfl ?_
  simp only [Act.put, pu]
  refine pw_nil ?_
  (repeat ((fail_if_success with_reducible refine rg ?_); go_step))
  refine wp_region_pw ?_
  refine pw_value (by rfl) (.int .i64 0) (fun _ => rfl) ?_
  simp only [Act.put, pu]
  refine pw_value (by rfl) (.bool false) (fun _ => rfl) ?_
  simp only [Act.put, pu]
  refine pw_nil ?_
  go_wp2
  go_ret2
  exact ⟨rfl, sb⟩
 by_cases h2 : t ≤ 2
 rotate_left
 ·have hv : voB t n Z = false := by unfold voB voOK; rw [decide_eq_false (by omega)]; rfl
  rw [show voV t n Z = 0 by unfold voV; rw [hv]; rfl, hv]
  go_enter Try.func15, Try.ntmps15
  have sb := sbmk w
  (repeat ((fail_if_success with_reducible refine rg ?_); go_step))
  refine wp_region_pw ?_
  refine pw_value (by rfl) (.int .i64 0) (fun _ => rfl) ?_
  simp only [Act.put, pu]
  refine pw_value (by rfl) (.bool false) (fun _ => rfl) ?_
  simp only [Act.put, pu]
  refine pw_nil ?_
  (repeat ((fail_if_success with_reducible refine rg ?_); go_step))
  refine wp_region_pw ?_
  refine pw_mv (by rfl) rfl rfl ?_
  simp only [Act.put, pu]
  refine pw_value (by rfl) (.bool false) (exec_lt_b _ _ _ _ rfl (t) (1) rfl rfl false (decide_eq_false (by omega))) ?_
  simp only [Act.put, pu]
  refine pw_mv (by rfl) rfl rfl ?_
  simp only [Act.put, pu]
  refine pw_mv (by rfl) rfl rfl ?_
  simp only [Act.put, pu]
  refine pw_value (by rfl) (.bool true) (exec_gt_i _ _ _ _ rfl (t) (2) rfl rfl true (decide_eq_true (by omega))) ?_
  simp only [Act.put, pu]
  refine pw_pick (by rfl) false (v := .bool true) rfl rfl rfl ?_
  simp only [Act.put, pu]
  refine pw_mv (by rfl) rfl rfl ?_
  simp only [Act.put, pu]
  refine pw_skip (by rfl) ?_
  simp only [Act.put, pu]
  refine pw_skip (by rfl) ?_
  simp only [Act.put, pu]
  refine pw_skip (by rfl) ?_
  simp only [Act.put, pu]
  refine pw_skip (by rfl) ?_
  simp only [Act.put, pu]
  refine pw_skip (by rfl) ?_
  simp only [Act.put, pu]
  refine pw_skip (by rfl) ?_
  simp only [Act.put, pu]
  refine pw_pick (by rfl) true (v := .bool true) rfl rfl rfl ?_
  simp only [Act.put, pu]
  refine pw_nil ?_
  (repeat ((fail_if_success with_reducible refine rg ?_); go_step))
  refine wp_region_pw ?_
  refine pw_value (by rfl) (.int .i64 0) (fun _ => rfl) ?_
  simp only [Act.put, pu]
  refine pw_value (by rfl) (.bool false) (fun _ => rfl) ?_
  simp only [Act.put, pu]
  refine pw_nil ?_
  go_wp2
  go_ret2
  exact ⟨rfl, sb⟩
 by_cases h3 : (n : Int) = 3 * t + 1
 rotate_left
 ·have hv : voB t n Z = false := by unfold voB voOK; rw [decide_eq_false (by omega)]; rfl
  rw [show voV t n Z = 0 by unfold voV; rw [hv]; rfl, hv]
  go_enter Try.func15, Try.ntmps15
  have sb := sbmk w
  (repeat ((fail_if_success with_reducible refine rg ?_); go_step))
  refine wp_region_pw ?_
  refine pw_value (by rfl) (.int .i64 0) (fun _ => rfl) ?_
  simp only [Act.put, pu]
  refine pw_value (by rfl) (.bool false) (fun _ => rfl) ?_
  simp only [Act.put, pu]
  refine pw_nil ?_
  (repeat ((fail_if_success with_reducible refine rg ?_); go_step))
  refine wp_region_pw ?_
  refine pw_mv (by rfl) rfl rfl ?_
  simp only [Act.put, pu]
  refine pw_value (by rfl) (.bool false) (exec_lt_b _ _ _ _ rfl (t) (1) rfl rfl false (decide_eq_false (by omega))) ?_
  simp only [Act.put, pu]
  refine pw_mv (by rfl) rfl rfl ?_
  simp only [Act.put, pu]
  refine pw_mv (by rfl) rfl rfl ?_
  simp only [Act.put, pu]
  refine pw_value (by rfl) (.bool false) (exec_gt_i _ _ _ _ rfl (t) (2) rfl rfl false (decide_eq_false (by omega))) ?_
  simp only [Act.put, pu]
  refine pw_pick (by rfl) false (v := .bool false) rfl rfl rfl ?_
  simp only [Act.put, pu]
  refine pw_mv (by rfl) rfl rfl ?_
  simp only [Act.put, pu]
  refine pw_mv (by rfl) rfl rfl ?_
  simp only [Act.put, pu]
  refine pw_value (by rfl) (.int .i64 (n : Nat)) (exec_len_s 31 _ rfl (ab) (n) (c) rfl sl_intsX) ?_
  simp only [Act.put, pu]
  refine pw_mv (by rfl) rfl rfl ?_
  simp only [Act.put, pu]
  refine pw_value (by rfl) (.int .i64 (3 * t)) (x_mulz _ _ _ _ rfl (3) (t) (3 * t) rfl rfl (by omega) (by omega) (by omega)) ?_
  simp only [Act.put, pu]
  refine pw_value (by rfl) (.int .i64 (3 * t + 1)) (x_addz _ _ _ _ rfl (3 * t) (1) (3 * t + 1) rfl rfl (by omega) (by omega) (by omega)) ?_
  simp only [Act.put, pu]
  refine pw_value (by rfl) (.bool true) (exec_neq_k .i64 _ _ _ _ rfl ((n : Nat)) (3 * t + 1) rfl rfl true (by rw [decide_eq_false (by omega)]; rfl)) ?_
  simp only [Act.put, pu]
  refine pw_pick (by rfl) false (v := .bool true) rfl rfl rfl ?_
  simp only [Act.put, pu]
  refine pw_nil ?_
  (repeat ((fail_if_success with_reducible refine rg ?_); go_step))
  refine wp_region_pw ?_
  refine pw_value (by rfl) (.int .i64 0) (fun _ => rfl) ?_
  simp only [Act.put, pu]
  refine pw_value (by rfl) (.bool false) (fun _ => rfl) ?_
  simp only [Act.put, pu]
  refine pw_nil ?_
  go_wp2
  go_ret2
  exact ⟨rfl, sb⟩
 have hok : voOK t n = true := decide_eq_true ⟨h1, h2, h3⟩
 obtain ⟨rb, hrb⟩ : ∃ b, voB t n Z = b := ⟨_, rfl⟩
 obtain ⟨rv, hrv⟩ : ∃ v, voV t n Z = v := ⟨_, rfl⟩
 have HRB : Hid (decide (2 * t + 1 ≤ (ct (dnZ (gre Z n t n)) Z n : Nat)) = rb) := by rw [← hrb]; unfold voB; rw [hok]; rfl
 have HRV : Hid ((if rb = true then gre Z n t n else 0) = rv) := by rw [← hrv, ← hrb]; rfl
 rw [hrb, hrv]
 clear hrb hrv hok
 go_enter Try.func15, Try.ntmps15
 have sb := sbmk w
 (repeat ((fail_if_success with_reducible refine rg ?_); go_step))
 refine wp_region_pw ?_
 refine pw_value (by rfl) (.int .i64 0) (fun _ => rfl) ?_
 simp only [Act.put, pu]
 refine pw_value (by rfl) (.bool false) (fun _ => rfl) ?_
 simp only [Act.put, pu]
 refine pw_nil ?_
 (repeat ((fail_if_success with_reducible refine rg ?_); go_step))
 refine wp_region_pw ?_
 refine pw_mv (by rfl) rfl rfl ?_
 simp only [Act.put, pu]
 refine pw_value (by rfl) (.bool false) (exec_lt_b _ _ _ _ rfl (t) (1) rfl rfl false (decide_eq_false (by omega))) ?_
 simp only [Act.put, pu]
 refine pw_mv (by rfl) rfl rfl ?_
 simp only [Act.put, pu]
 refine pw_mv (by rfl) rfl rfl ?_
 simp only [Act.put, pu]
 refine pw_value (by rfl) (.bool false) (exec_gt_i _ _ _ _ rfl (t) (2) rfl rfl false (decide_eq_false (by omega))) ?_
 simp only [Act.put, pu]
 refine pw_pick (by rfl) false (v := .bool false) rfl rfl rfl ?_
 simp only [Act.put, pu]
 refine pw_mv (by rfl) rfl rfl ?_
 simp only [Act.put, pu]
 refine pw_mv (by rfl) rfl rfl ?_
 simp only [Act.put, pu]
 refine pw_value (by rfl) (.int .i64 (n : Nat)) (exec_len_s 31 _ rfl (ab) (n) (c) rfl sl_intsX) ?_
 simp only [Act.put, pu]
 refine pw_mv (by rfl) rfl rfl ?_
 simp only [Act.put, pu]
 refine pw_value (by rfl) (.int .i64 (3 * t)) (x_mulz _ _ _ _ rfl (3) (t) (3 * t) rfl rfl (by omega) (by omega) (by omega)) ?_
 simp only [Act.put, pu]
 refine pw_value (by rfl) (.int .i64 (3 * t + 1)) (x_addz _ _ _ _ rfl (3 * t) (1) (3 * t + 1) rfl rfl (by omega) (by omega) (by omega)) ?_
 simp only [Act.put, pu]
 refine pw_value (by rfl) (.bool false) (exec_neq_k .i64 _ _ _ _ rfl ((n : Nat)) (3 * t + 1) rfl rfl false (by rw [decide_eq_true (by omega)]; rfl)) ?_
 simp only [Act.put, pu]
 refine pw_pick (by rfl) false (v := .bool false) rfl rfl rfl ?_
 simp only [Act.put, pu]
 refine pw_nil ?_
 (repeat ((fail_if_success with_reducible refine rg ?_); go_step))
 refine wp_region_pw ?_
 refine pw_move (by rfl) (.inr rfl) rfl ?_
 simp only [Act.put, pu]
 refine pw_nil ?_
 (repeat ((fail_if_success with_reducible refine rg ?_); go_step))
 refine wp_region_pw ?_
 refine pw_value (by rfl) (.int .i64 0) (fun _ => rfl) ?_
 simp only [Act.put, pu]
 refine pw_nil ?_
 have HN : Hid ((n : Int) = 3 * t + 1) := h3
 clear h3
 go_wp2_with fail
 go_loopg [6, 7, 8, 9] n (fun x s6 s7 s8 s9 wr => ∃ k : Nat, k + x = n ∧ s6 = .int .i64 (gre Z n t k) ∧ s7 = .int .i64 k ∧ Below w.heap.size w wr)
 case atStart => exact ⟨0, by omega, rfl, rfl, sb⟩
 case round =>
  clear sb
  obtain ⟨k, hk, rfl, rfl, sb⟩ := hrel
  cases gk with
  | zero =>
   obtain rfl : k = n := by omega
   clear hk
   have hct := HC (gre Z k t k)
   have hle := ct_le (dnZ (gre Z k t k)) Z k
   have hge := gre_ge Z k t k
   have h00 : gre Z k t k = -1 → ct (dnZ (gre Z k t k)) Z k = 0 := fun h => by rw [h]; exact ct_dn0 Z k
   clear HC
   generalize gre Z k t k = m at *
   generalize ct (dnZ m) Z k = u at *
   (repeat ((fail_if_success with_reducible refine rg ?_); go_step))
   refine wp_region_pw ?_
   refine pw_mv (by rfl) rfl rfl ?_
   simp only [Act.put, pu]
   refine pw_mv (by rfl) rfl rfl ?_
   simp only [Act.put, pu]
   refine pw_value (by rfl) (.int .i64 (k : Nat)) (exec_len_s 31 _ rfl (ab) (k) (c) rfl sl_intsX) ?_
   simp only [Act.put, pu]
   refine pw_value (by rfl) (.bool false) (exec_lt_b _ _ _ _ rfl (k) (k) rfl rfl false (decide_eq_false (Int.lt_irrefl _))) ?_
   simp only [Act.put, pu]
   refine pw_nil ?_
   (repeat ((fail_if_success with_reducible refine rg ?_); go_step))
   refine wp_region_pw ?_
   refine pw_mv (by rfl) rfl rfl ?_
   simp only [Act.put, pu]
   refine pw_mv (by rfl) rfl rfl ?_
   simp only [Act.put, pu]
   refine pw_callB (by rfl) 23 _ _ rfl Try.func23 (by kernel_rfl) #[.slice ab k c, .int .i64 m] rfl _ (hct _ sb) ?_
   intro z10002 k
   simp only [Act.put, pu]
   replace sb := sb.trans (k.below w.heap.size sb.size (by simp <;> omega))
   clear k
   refine pw_mv (by rfl) rfl rfl ?_
   simp only [Act.put, pu]
   refine pw_ext (by rfl) rfl rfl rfl ?_
   simp only [Act.put, pu]
   refine pw_ext (by rfl) rfl rfl rfl ?_
   simp only [Act.put, pu]
   refine pw_as (by rfl) rfl rfl ?_
   simp only [Act.put, pu]
   refine pw_as (by rfl) rfl rfl ?_
   simp only [Act.put, pu]
   refine pw_nil ?_
   by_cases h5 : 0 ≤ m
   rotate_left
   ·have h6 := h00 (by omega)
    clear h00
    have e1 : false = rb := by rw [← HRB.out, decide_eq_false (show ¬ 2 * t + 1 ≤ (u : Int) by omega)]
    have e2 : 0 = rv := by rw [← HRV.out, ← e1, if_neg (by decide)]
    clear HRB HRV
    (repeat ((fail_if_success with_reducible refine rg ?_); go_step))
    refine wp_region_pw ?_
    refine pw_mv (by rfl) rfl rfl ?_
    simp only [Act.put, pu]
    refine pw_value (by rfl) (.bool false) (exec_geq_i _ _ _ _ rfl (m) (0) rfl rfl false (decide_eq_false (by omega))) ?_
    simp only [Act.put, pu]
    refine pw_mv (by rfl) rfl rfl ?_
    simp only [Act.put, pu]
    refine pw_skip (by rfl) ?_
    simp only [Act.put, pu]
    refine pw_skip (by rfl) ?_
    simp only [Act.put, pu]
    refine pw_skip (by rfl) ?_
    simp only [Act.put, pu]
    refine pw_skip (by rfl) ?_
    simp only [Act.put, pu]
    refine pw_skip (by rfl) ?_
    simp only [Act.put, pu]
    refine pw_pick (by rfl) false (v := .bool false) rfl rfl rfl ?_
    simp only [Act.put, pu]
    refine pw_nil ?_
    (repeat ((fail_if_success with_reducible refine rg ?_); go_step))
    refine wp_region_pw ?_
    refine pw_value (by rfl) (.int .i64 0) (fun _ => rfl) ?_
    simp only [Act.put, pu]
    refine pw_value (by rfl) (.bool false) (fun _ => rfl) ?_
    simp only [Act.put, pu]
    refine pw_nil ?_
    go_wp2
    go_ret2
    exact ⟨by rw [← e1, ← e2]; rfl, sb⟩
   clear h00
   by_cases h4 : 2 * t + 1 ≤ (u : Int)
   ·have e1 : true = rb := by rw [← HRB.out, decide_eq_true h4]
    have e2 : m = rv := by rw [← HRV.out, ← e1, if_pos rfl]
    clear HRB HRV
    (repeat ((fail_if_success with_reducible refine rg ?_); go_step))
    refine wp_region_pw ?_
    refine pw_mv (by rfl) rfl rfl ?_
    simp only [Act.put, pu]
    refine pw_value (by rfl) (.bool true) (exec_geq_i _ _ _ _ rfl (m) (0) rfl rfl true (decide_eq_true (by omega))) ?_
    simp only [Act.put, pu]
    refine pw_mv (by rfl) rfl rfl ?_
    simp only [Act.put, pu]
    refine pw_mv (by rfl) rfl rfl ?_
    simp only [Act.put, pu]
    refine pw_mv (by rfl) rfl rfl ?_
    simp only [Act.put, pu]
    refine pw_value (by rfl) (.int .i64 (2 * t)) (x_mulz _ _ _ _ rfl (2) (t) (2 * t) rfl rfl (by omega) (by omega) (by omega)) ?_
    simp only [Act.put, pu]
    refine pw_value (by rfl) (.int .i64 (2 * t + 1)) (x_addz _ _ _ _ rfl (2 * t) (1) (2 * t + 1) rfl rfl (by omega) (by omega) (by omega)) ?_
    simp only [Act.put, pu]
    refine pw_value (by rfl) (.bool true) (exec_geq_i _ _ _ _ rfl ((u : Nat)) (2 * t + 1) rfl rfl true (decide_eq_true (by omega))) ?_
    simp only [Act.put, pu]
    refine pw_pick (by rfl) true (v := .bool true) rfl rfl rfl ?_
    simp only [Act.put, pu]
    refine pw_nil ?_
    (repeat ((fail_if_success with_reducible refine rg ?_); go_step))
    refine wp_region_pw ?_
    refine pw_mv (by rfl) rfl rfl ?_
    simp only [Act.put, pu]
    refine pw_as (by rfl) rfl rfl ?_
    simp only [Act.put, pu]
    refine pw_value (by rfl) (.bool true) (fun _ => rfl) ?_
    simp only [Act.put, pu]
    refine pw_nil ?_
    go_wp2
    go_ret2
    exact ⟨by rw [← e1, ← e2]; rfl, sb⟩
   ·have e1 : false = rb := by rw [← HRB.out, decide_eq_false h4]
    have e2 : 0 = rv := by rw [← HRV.out, ← e1, if_neg (by decide)]
    clear HRB HRV
    (repeat ((fail_if_success with_reducible refine rg ?_); go_step))
    refine wp_region_pw ?_
    refine pw_mv (by rfl) rfl rfl ?_
    simp only [Act.put, pu]
    refine pw_value (by rfl) (.bool true) (exec_geq_i _ _ _ _ rfl (m) (0) rfl rfl true (decide_eq_true (by omega))) ?_
    simp only [Act.put, pu]
    refine pw_mv (by rfl) rfl rfl ?_
    simp only [Act.put, pu]
    refine pw_mv (by rfl) rfl rfl ?_
    simp only [Act.put, pu]
    refine pw_mv (by rfl) rfl rfl ?_
    simp only [Act.put, pu]
    refine pw_value (by rfl) (.int .i64 (2 * t)) (x_mulz _ _ _ _ rfl (2) (t) (2 * t) rfl rfl (by omega) (by omega) (by omega)) ?_
    simp only [Act.put, pu]
    refine pw_value (by rfl) (.int .i64 (2 * t + 1)) (x_addz _ _ _ _ rfl (2 * t) (1) (2 * t + 1) rfl rfl (by omega) (by omega) (by omega)) ?_
    simp only [Act.put, pu]
    refine pw_value (by rfl) (.bool false) (exec_geq_i _ _ _ _ rfl ((u : Nat)) (2 * t + 1) rfl rfl false (decide_eq_false (by omega))) ?_
    simp only [Act.put, pu]
    refine pw_pick (by rfl) true (v := .bool false) rfl rfl rfl ?_
    simp only [Act.put, pu]
    refine pw_nil ?_
    (repeat ((fail_if_success with_reducible refine rg ?_); go_step))
    refine wp_region_pw ?_
    refine pw_value (by rfl) (.int .i64 0) (fun _ => rfl) ?_
    simp only [Act.put, pu]
    refine pw_value (by rfl) (.bool false) (fun _ => rfl) ?_
    simp only [Act.put, pu]
    refine pw_nil ?_
    go_wp2
    go_ret2
    exact ⟨by rw [← e1, ← e2]; rfl, sb⟩
  | succ x =>
   have hlt : k < n := by omega
   have hct := HC (Z k)
   have hle := ct_le (upZ (Z k)) Z n
   have hg := gre_max Z n t k
   clear HC
   generalize gre Z n t k = m at *
   generalize ct (upZ (Z k)) Z n = u at *
   obtain h0 | ⟨rfl, rB, hbt⟩ := (HB.out.below sb).at'
   ·exact absurd h0 (by omega)
   have hbt' := hbt k hlt
   clear hbt
   by_cases h4 : 0 ≤ Z k
   rotate_left
   ·rw [decide_eq_false h4, Bool.false_and, if_neg (by decide)] at hg
    (repeat ((fail_if_success with_reducible refine rg ?_); go_step))
    refine wp_region_pw ?_
    refine pw_mv (by rfl) rfl rfl ?_
    simp only [Act.put, pu]
    refine pw_mv (by rfl) rfl rfl ?_
    simp only [Act.put, pu]
    refine pw_value (by rfl) (.int .i64 (n : Nat)) (exec_len_s 31 _ rfl (some ⟨gb, ob, none⟩) (n) (c) rfl sl_intsX) ?_
    simp only [Act.put, pu]
    refine pw_value (by rfl) (.bool true) (exec_lt_b _ _ _ _ rfl (k) (n) rfl rfl true (decide_eq_true (by omega))) ?_
    simp only [Act.put, pu]
    refine pw_nil ?_
    (repeat ((fail_if_success with_reducible refine rg ?_); go_step))
    refine wp_region_pw ?_
    refine pw_mv (by rfl) rfl rfl ?_
    simp only [Act.put, pu]
    refine pw_mv (by rfl) rfl rfl ?_
    simp only [Act.put, pu]
    refine pw_mv (by rfl) rfl rfl ?_
    simp only [Act.put, pu]
    refine pw_value (by rfl) (.pointer (some ⟨gb, ob + k * 1, none⟩)) ((exec_index_s 31 _ _ rfl gb ob (n) (c) rfl (k) rfl (hlt) _ Try.underlying31 1 Try.sizeOf3)) ?_
    simp only [Act.put, pu]
    refine pw_loadk (by rfl) 3 _ rfl _ (ob + k * 1) rfl rB (.int .i64 (Z k)) hbt' Try.isAgg3 ?_
    simp only [Act.put, pu]
    refine pw_callB (by rfl) 23 _ _ rfl Try.func23 (by kernel_rfl) #[.slice (some ⟨gb, ob, none⟩) n c, .int .i64 (Z k)] rfl _ (hct _ sb) ?_
    intro z7005 k
    simp only [Act.put, pu]
    replace sb := sb.trans (k.below w.heap.size sb.size (by simp <;> omega))
    clear k
    refine pw_mv (by rfl) rfl rfl ?_
    simp only [Act.put, pu]
    refine pw_ext (by rfl) rfl rfl rfl ?_
    simp only [Act.put, pu]
    refine pw_ext (by rfl) rfl rfl rfl ?_
    simp only [Act.put, pu]
    refine pw_as (by rfl) rfl rfl ?_
    simp only [Act.put, pu]
    refine pw_as (by rfl) rfl rfl ?_
    simp only [Act.put, pu]
    refine pw_nil ?_
    clear rB
    obtain h0 | ⟨_, rB, _⟩ := (HB.out.below sb).at'
    ·exact absurd h0 (by omega)
    (repeat ((fail_if_success with_reducible refine rg ?_); go_step))
    refine wp_region_pw ?_
    refine pw_mv (by rfl) rfl rfl ?_
    simp only [Act.put, pu]
    refine pw_mv (by rfl) rfl rfl ?_
    simp only [Act.put, pu]
    refine pw_value (by rfl) (.pointer (some ⟨gb, ob + k * 1, none⟩)) ((exec_index_s 31 _ _ rfl gb ob (n) (c) rfl (k) rfl (hlt) _ Try.underlying31 1 Try.sizeOf3)) ?_
    simp only [Act.put, pu]
    refine pw_loadk (by rfl) 3 _ rfl _ (ob + k * 1) rfl rB (.int .i64 (Z k)) hbt' Try.isAgg3 ?_
    simp only [Act.put, pu]
    refine pw_value (by rfl) (.bool false) (exec_geq_i _ _ _ _ rfl (Z k) (0) rfl rfl false (decide_eq_false (by omega))) ?_
    simp only [Act.put, pu]
    refine pw_mv (by rfl) rfl rfl ?_
    simp only [Act.put, pu]
    refine pw_skip (by rfl) ?_
    simp only [Act.put, pu]
    refine pw_skip (by rfl) ?_
    simp only [Act.put, pu]
    refine pw_skip (by rfl) ?_
    simp only [Act.put, pu]
    refine pw_skip (by rfl) ?_
    simp only [Act.put, pu]
    refine pw_pick (by rfl) false (v := .bool false) rfl rfl rfl ?_
    simp only [Act.put, pu]
    refine pw_nil ?_
    (repeat ((fail_if_success with_reducible refine rg ?_); go_step))
    refine wp_region_pw ?_
    refine pw_mv (by rfl) rfl rfl ?_
    simp only [Act.put, pu]
    refine pw_value (by rfl) (.int .i64 ((k + 1 : Nat))) (x_addz _ _ _ _ rfl (k) (1) ((k + 1 : Nat)) rfl rfl (by omega) (by omega) (by omega)) ?_
    simp only [Act.put, pu]
    refine pw_as (by rfl) rfl rfl ?_
    simp only [Act.put, pu]
    refine pw_nil ?_
    go_wp2
    go_roundg x
    case measure => omega
    case rel => exact ⟨k + 1, by omega, by rw [hg], rfl, sb⟩
   by_cases h5 : t + 1 ≤ (u : Int)
   ·rw [decide_eq_true h4, decide_eq_true h5, Bool.and_true, if_pos rfl] at hg
    (repeat ((fail_if_success with_reducible refine rg ?_); go_step))
    refine wp_region_pw ?_
    refine pw_mv (by rfl) rfl rfl ?_
    simp only [Act.put, pu]
    refine pw_mv (by rfl) rfl rfl ?_
    simp only [Act.put, pu]
    refine pw_value (by rfl) (.int .i64 (n : Nat)) (exec_len_s 31 _ rfl (some ⟨gb, ob, none⟩) (n) (c) rfl sl_intsX) ?_
    simp only [Act.put, pu]
    refine pw_value (by rfl) (.bool true) (exec_lt_b _ _ _ _ rfl (k) (n) rfl rfl true (decide_eq_true (by omega))) ?_
    simp only [Act.put, pu]
    refine pw_nil ?_
    (repeat ((fail_if_success with_reducible refine rg ?_); go_step))
    refine wp_region_pw ?_
    refine pw_mv (by rfl) rfl rfl ?_
    simp only [Act.put, pu]
    refine pw_mv (by rfl) rfl rfl ?_
    simp only [Act.put, pu]
    refine pw_mv (by rfl) rfl rfl ?_
    simp only [Act.put, pu]
    refine pw_value (by rfl) (.pointer (some ⟨gb, ob + k * 1, none⟩)) ((exec_index_s 31 _ _ rfl gb ob (n) (c) rfl (k) rfl (hlt) _ Try.underlying31 1 Try.sizeOf3)) ?_
    simp only [Act.put, pu]
    refine pw_loadk (by rfl) 3 _ rfl _ (ob + k * 1) rfl rB (.int .i64 (Z k)) hbt' Try.isAgg3 ?_
    simp only [Act.put, pu]
    refine pw_callB (by rfl) 23 _ _ rfl Try.func23 (by kernel_rfl) #[.slice (some ⟨gb, ob, none⟩) n c, .int .i64 (Z k)] rfl _ (hct _ sb) ?_
    intro z7005 k
    simp only [Act.put, pu]
    replace sb := sb.trans (k.below w.heap.size sb.size (by simp <;> omega))
    clear k
    refine pw_mv (by rfl) rfl rfl ?_
    simp only [Act.put, pu]
    refine pw_ext (by rfl) rfl rfl rfl ?_
    simp only [Act.put, pu]
    refine pw_ext (by rfl) rfl rfl rfl ?_
    simp only [Act.put, pu]
    refine pw_as (by rfl) rfl rfl ?_
    simp only [Act.put, pu]
    refine pw_as (by rfl) rfl rfl ?_
    simp only [Act.put, pu]
    refine pw_nil ?_
    clear rB
    obtain h0 | ⟨_, rB, _⟩ := (HB.out.below sb).at'
    ·exact absurd h0 (by omega)
    (repeat ((fail_if_success with_reducible refine rg ?_); go_step))
    refine wp_region_pw ?_
    refine pw_mv (by rfl) rfl rfl ?_
    simp only [Act.put, pu]
    refine pw_mv (by rfl) rfl rfl ?_
    simp only [Act.put, pu]
    refine pw_value (by rfl) (.pointer (some ⟨gb, ob + k * 1, none⟩)) ((exec_index_s 31 _ _ rfl gb ob (n) (c) rfl (k) rfl (hlt) _ Try.underlying31 1 Try.sizeOf3)) ?_
    simp only [Act.put, pu]
    refine pw_loadk (by rfl) 3 _ rfl _ (ob + k * 1) rfl rB (.int .i64 (Z k)) hbt' Try.isAgg3 ?_
    simp only [Act.put, pu]
    refine pw_value (by rfl) (.bool true) (exec_geq_i _ _ _ _ rfl (Z k) (0) rfl rfl true (decide_eq_true (by omega))) ?_
    simp only [Act.put, pu]
    refine pw_mv (by rfl) rfl rfl ?_
    simp only [Act.put, pu]
    refine pw_mv (by rfl) rfl rfl ?_
    simp only [Act.put, pu]
    refine pw_mv (by rfl) rfl rfl ?_
    simp only [Act.put, pu]
    refine pw_value (by rfl) (.int .i64 (t + 1)) (x_addz _ _ _ _ rfl (t) (1) (t + 1) rfl rfl (by omega) (by omega) (by omega)) ?_
    simp only [Act.put, pu]
    refine pw_value (by rfl) (.bool true) (exec_geq_i _ _ _ _ rfl ((u : Nat)) (t + 1) rfl rfl true (decide_eq_true (by omega))) ?_
    simp only [Act.put, pu]
    refine pw_pick (by rfl) true (v := .bool true) rfl rfl rfl ?_
    simp only [Act.put, pu]
    refine pw_nil ?_
    (repeat ((fail_if_success with_reducible refine rg ?_); go_step))
    refine wp_region_pw ?_
    refine pw_mv (by rfl) rfl rfl ?_
    simp only [Act.put, pu]
    refine pw_mv (by rfl) rfl rfl ?_
    simp only [Act.put, pu]
    refine pw_mv (by rfl) rfl rfl ?_
    simp only [Act.put, pu]
    refine pw_value (by rfl) (.pointer (some ⟨gb, ob + k * 1, none⟩)) ((exec_index_s 31 _ _ rfl gb ob (n) (c) rfl (k) rfl (hlt) _ Try.underlying31 1 Try.sizeOf3)) ?_
    simp only [Act.put, pu]
    refine pw_loadk (by rfl) 3 _ rfl _ (ob + k * 1) rfl rB (.int .i64 (Z k)) hbt' Try.isAgg3 ?_
    simp only [Act.put, pu]
    refine pw_value (by rfl) (.int .i64 (max m (Z k))) (x_max2 _ _ _ _ rfl m (Z k) rfl rfl) ?_
    simp only [Act.put, pu]
    refine pw_as (by rfl) rfl rfl ?_
    simp only [Act.put, pu]
    refine pw_nil ?_
    (repeat ((fail_if_success with_reducible refine rg ?_); go_step))
    refine wp_region_pw ?_
    refine pw_mv (by rfl) rfl rfl ?_
    simp only [Act.put, pu]
    refine pw_value (by rfl) (.int .i64 ((k + 1 : Nat))) (x_addz _ _ _ _ rfl (k) (1) ((k + 1 : Nat)) rfl rfl (by omega) (by omega) (by omega)) ?_
    simp only [Act.put, pu]
    refine pw_as (by rfl) rfl rfl ?_
    simp only [Act.put, pu]
    refine pw_nil ?_
    go_wp2
    go_roundg x
    case measure => omega
    case rel => exact ⟨k + 1, by omega, by rw [hg], rfl, sb⟩
   ·rw [decide_eq_true h4, decide_eq_false h5, Bool.and_false, if_neg (by decide)] at hg
    (repeat ((fail_if_success with_reducible refine rg ?_); go_step))
    refine wp_region_pw ?_
    refine pw_mv (by rfl) rfl rfl ?_
    simp only [Act.put, pu]
    refine pw_mv (by rfl) rfl rfl ?_
    simp only [Act.put, pu]
    refine pw_value (by rfl) (.int .i64 (n : Nat)) (exec_len_s 31 _ rfl (some ⟨gb, ob, none⟩) (n) (c) rfl sl_intsX) ?_
    simp only [Act.put, pu]
    refine pw_value (by rfl) (.bool true) (exec_lt_b _ _ _ _ rfl (k) (n) rfl rfl true (decide_eq_true (by omega))) ?_
    simp only [Act.put, pu]
    refine pw_nil ?_
    (repeat ((fail_if_success with_reducible refine rg ?_); go_step))
    refine wp_region_pw ?_
    refine pw_mv (by rfl) rfl rfl ?_
    simp only [Act.put, pu]
    refine pw_mv (by rfl) rfl rfl ?_
    simp only [Act.put, pu]
    refine pw_mv (by rfl) rfl rfl ?_
    simp only [Act.put, pu]
    refine pw_value (by rfl) (.pointer (some ⟨gb, ob + k * 1, none⟩)) ((exec_index_s 31 _ _ rfl gb ob (n) (c) rfl (k) rfl (hlt) _ Try.underlying31 1 Try.sizeOf3)) ?_
    simp only [Act.put, pu]
    refine pw_loadk (by rfl) 3 _ rfl _ (ob + k * 1) rfl rB (.int .i64 (Z k)) hbt' Try.isAgg3 ?_
    simp only [Act.put, pu]
    refine pw_callB (by rfl) 23 _ _ rfl Try.func23 (by kernel_rfl) #[.slice (some ⟨gb, ob, none⟩) n c, .int .i64 (Z k)] rfl _ (hct _ sb) ?_
    intro z7005 k
    simp only [Act.put, pu]
    replace sb := sb.trans (k.below w.heap.size sb.size (by simp <;> omega))
    clear k
    refine pw_mv (by rfl) rfl rfl ?_
    simp only [Act.put, pu]
    refine pw_ext (by rfl) rfl rfl rfl ?_
    simp only [Act.put, pu]
    refine pw_ext (by rfl) rfl rfl rfl ?_
    simp only [Act.put, pu]
    refine pw_as (by rfl) rfl rfl ?_
    simp only [Act.put, pu]
    refine pw_as (by rfl) rfl rfl ?_
    simp only [Act.put, pu]
    refine pw_nil ?_
    clear rB
    obtain h0 | ⟨_, rB, _⟩ := (HB.out.below sb).at'
    ·exact absurd h0 (by omega)
    (repeat ((fail_if_success with_reducible refine rg ?_); go_step))
    refine wp_region_pw ?_
    refine pw_mv (by rfl) rfl rfl ?_
    simp only [Act.put, pu]
    refine pw_mv (by rfl) rfl rfl ?_
    simp only [Act.put, pu]
    refine pw_value (by rfl) (.pointer (some ⟨gb, ob + k * 1, none⟩)) ((exec_index_s 31 _ _ rfl gb ob (n) (c) rfl (k) rfl (hlt) _ Try.underlying31 1 Try.sizeOf3)) ?_
    simp only [Act.put, pu]
    refine pw_loadk (by rfl) 3 _ rfl _ (ob + k * 1) rfl rB (.int .i64 (Z k)) hbt' Try.isAgg3 ?_
    simp only [Act.put, pu]
    refine pw_value (by rfl) (.bool true) (exec_geq_i _ _ _ _ rfl (Z k) (0) rfl rfl true (decide_eq_true (by omega))) ?_
    simp only [Act.put, pu]
    refine pw_mv (by rfl) rfl rfl ?_
    simp only [Act.put, pu]
    refine pw_mv (by rfl) rfl rfl ?_
    simp only [Act.put, pu]
    refine pw_mv (by rfl) rfl rfl ?_
    simp only [Act.put, pu]
    refine pw_value (by rfl) (.int .i64 (t + 1)) (x_addz _ _ _ _ rfl (t) (1) (t + 1) rfl rfl (by omega) (by omega) (by omega)) ?_
    simp only [Act.put, pu]
    refine pw_value (by rfl) (.bool false) (exec_geq_i _ _ _ _ rfl ((u : Nat)) (t + 1) rfl rfl false (decide_eq_false (by omega))) ?_
    simp only [Act.put, pu]
    refine pw_pick (by rfl) true (v := .bool false) rfl rfl rfl ?_
    simp only [Act.put, pu]
    refine pw_nil ?_
    (repeat ((fail_if_success with_reducible refine rg ?_); go_step))
    refine wp_region_pw ?_
    refine pw_mv (by rfl) rfl rfl ?_
    simp only [Act.put, pu]
    refine pw_value (by rfl) (.int .i64 ((k + 1 : Nat))) (x_addz _ _ _ _ rfl (k) (1) ((k + 1 : Nat)) rfl rfl (by omega) (by omega) (by omega)) ?_
    simp only [Act.put, pu]
    refine pw_as (by rfl) rfl rfl ?_
    simp only [Act.put, pu]
    refine pw_nil ?_
    go_wp2
    go_roundg x
    case measure => omega
    case rel => exact ⟨k + 1, by omega, by rw [hg], rfl, sb⟩
end Go.Proofs.Ytdgbjmolinoplaa
