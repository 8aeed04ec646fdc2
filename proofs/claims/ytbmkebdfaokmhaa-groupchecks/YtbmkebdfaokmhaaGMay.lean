/- The document's Light and May. -/
import Derived.Test.YtbmkebdfaokmhaaGRef
import Derived.Test.YtbmkebdfaokmhaaPRStep
namespace Go.Proofs.Ytbmkebdfaokmhaa
open Go.RowKit
set_option linter.unusedVariables false
/-- Naturals of few bits, so many. -/
def liF (N : Nat → Nat) : Nat → Bool
 | 0 => true
 | k + 1 => liF N k && decide (bitLen (N k) ≤ 62)
def liN (n : Nat) (N : Nat → Nat) : Bool := decide (n ≤ 10) && liF N n
theorem liF_all (N : Nat → Nat) : ∀ n, liF N n = true ↔ ∀ k, k < n → bitLen (N k) ≤ 62
 | 0 => ⟨fun _ k hk => absurd hk (Nat.not_lt_zero k), fun _ => rfl⟩
 | n + 1 => by
  unfold liF
  rw [Bool.and_eq_true, liF_all N n, decide_eq_true_iff]
  constructor
  ·intro h k hk
   by_cases e : k = n
   ·subst e; exact h.2
   ·exact h.1 k (by omega)
  ·intro h
   exact ⟨fun k hk => h k (by omega), h n (by omega)⟩
theorem liN_lt {n : Nat} {N : Nat → Nat} (h : liN n N = true) : n ≤ 10 ∧ ∀ k, k < n → N k < 4611686018427387904 := by
 unfold liN at h
 rw [Bool.and_eq_true, decide_eq_true_iff, liF_all] at h
 exact ⟨h.1, fun k hk => lt_bitLen (N k) 62 (h.2 k hk)⟩
set_option maxRecDepth 100000 in
set_option maxHeartbeats 2000000 in
theorem light_long (n c : Nat) (ab : Option Addr) (G : Nat) (w : World) (h : 10 < n) :
  Calls Try.prog 27 #[.agg (paC ab n c G)] w fun e w' => e = .returned (.bool false) ∧ Below w.heap.size w w' := by
 go_enter Try.func27, Try.ntmps27
 (repeat ((fail_if_success with_reducible refine rg ?_); go_step))
 refine wp_region_pw ?_
 refine pw_boxr (by rfl) 27 _ rfl (_) rfl ?_
 intro g1 z0 n0 r1 k
 simp only [Act.put, pu]
 have b1 : w.heap.size ≤ g1 := n0
 clear n0
 have sb := k.below w.heap.size (Nat.le_refl _) (by simp)
 clear k
 refine pw_value (by rfl) (.bool false) (fun _ => rfl) ?_
 simp only [Act.put, pu]
 refine pw_nil ?_
 (repeat ((fail_if_success with_reducible refine rg ?_); go_step))
 refine wp_region_pw ?_
 refine pw_value (by rfl) (.pointer (some ⟨g1, 0, none⟩)) (exec_field 27 _ 0 rfl g1 0 rfl _ Try.underlying27 _ rfl 0 Try.sizeOf22) ?_
 simp only [Act.put, pu]
 refine pw_loadk (by rfl) 22 _ rfl _ (0) rfl r1.r (.slice ab n c) rfl Try.isAgg22 ?_
 simp only [Act.put, pu]
 refine pw_value (by rfl) (.int .i64 n) (exec_len_s 22 _ rfl ab n c rfl sl_link) ?_
 simp only [Act.put, pu]
 refine pw_value (by rfl) (.bool true) (exec_gt_i _ _ _ _ rfl n 10 rfl rfl true (decide_eq_true (by omega))) ?_
 simp only [Act.put, pu]
 refine pw_nil ?_
 go_wp2
 go_ret
 exact ⟨rfl, sb⟩
set_option maxRecDepth 100000 in
set_option maxHeartbeats 2000000 in
theorem light_rest (n c : Nat) (ab : Option Addr) (G : Nat) (N : Nat → Nat) (A : Nat → Int) (gb ob : Nat) (bcs : Array Value) (tb : TypeId) (w : World) (h : n ≤ 10) (hL : LinksAt w ab n N A gb ob bcs tb) :
  Calls Try.prog 27 #[.agg (paC ab n c G)] w fun e w' => e = .returned (.bool (liF N n)) ∧ Below w.heap.size w w' := by
 have HL : Hid (LinksAt w ab n N A gb ob bcs tb) := hL
 clear hL
 go_enter Try.func27, Try.ntmps27
 (repeat ((fail_if_success with_reducible refine rg ?_); go_step))
 refine wp_region_pw ?_
 refine pw_boxr (by rfl) 27 _ rfl (_) rfl ?_
 intro g1 z0 n0 r1 k
 simp only [Act.put, pu]
 have b1 : w.heap.size ≤ g1 := n0
 clear n0
 have sb := k.below w.heap.size (Nat.le_refl _) (by simp)
 clear k
 refine pw_value (by rfl) (.bool false) (fun _ => rfl) ?_
 simp only [Act.put, pu]
 refine pw_nil ?_
 (repeat ((fail_if_success with_reducible refine rg ?_); go_step))
 refine wp_region_pw ?_
 refine pw_value (by rfl) (.pointer (some ⟨g1, 0, none⟩)) (exec_field 27 _ 0 rfl g1 0 rfl _ Try.underlying27 _ rfl 0 Try.sizeOf22) ?_
 simp only [Act.put, pu]
 refine pw_loadk (by rfl) 22 _ rfl _ (0) rfl r1.r (.slice ab n c) rfl Try.isAgg22 ?_
 simp only [Act.put, pu]
 refine pw_value (by rfl) (.int .i64 n) (exec_len_s 22 _ rfl ab n c rfl sl_link) ?_
 simp only [Act.put, pu]
 refine pw_value (by rfl) (.bool false) (exec_gt_i _ _ _ _ rfl n 10 rfl rfl false (decide_eq_false (by omega))) ?_
 simp only [Act.put, pu]
 refine pw_nil ?_
 (repeat ((fail_if_success with_reducible refine rg ?_); go_step))
 refine wp_region_pw ?_
 refine pw_value (by rfl) (.int .i64 0) (fun _ => rfl) ?_
 simp only [Act.put, pu]
 refine pw_nil ?_
 go_wp2_with fail
 go_loopg [3] n (fun g s3 wr => ∃ k : Nat, k + g = n ∧ s3 = .int .i64 k ∧ liF N k = true ∧ Row wr g1 (paC ab n c G) 27 ∧ Below w.heap.size w wr)
 case atStart => exact ⟨0, by omega, rfl, rfl, r1, sb⟩
 case round =>
  clear sb r1
  obtain ⟨k, hk, rfl, hli, r1, sb⟩ := hrel
  cases gk with
  | zero =>
   obtain rfl : k = n := by omega
   have HF : Hid (liF N k = true) := hli
   clear hli
   (repeat ((fail_if_success with_reducible refine rg ?_); go_step))
   refine wp_region_pw ?_
   refine pw_mv (by rfl) rfl rfl ?_
   simp only [Act.put, pu]
   refine pw_value (by rfl) (.pointer (some ⟨g1, 0, none⟩)) (exec_field 27 _ 0 rfl g1 0 rfl _ Try.underlying27 _ rfl 0 Try.sizeOf22) ?_
   simp only [Act.put, pu]
   refine pw_loadk (by rfl) 22 _ rfl _ (0) rfl r1.r (.slice ab k c) rfl Try.isAgg22 ?_
   simp only [Act.put, pu]
   refine pw_value (by rfl) (.int .i64 k) (exec_len_s 22 _ rfl ab k c rfl sl_link) ?_
   simp only [Act.put, pu]
   refine pw_value (by rfl) (.bool false) (exec_lt_b _ _ _ _ rfl k k rfl rfl false (decide_eq_false (Int.lt_irrefl _))) ?_
   simp only [Act.put, pu]
   refine pw_nil ?_
   go_wp2
   go_ret
   exact ⟨by rw [HF.out]; rfl, sb⟩
  | succ g =>
   have hle := fun w' => rlen_any (N k) w' (HL.out.lt k (by omega))
   have HB0 : Hid (bitLen (N k) ≤ 62 → liF N (k + 1) = true) := fun h => by unfold liF; rw [hli, decide_eq_true h]; rfl
   have HF0 : Hid (62 < bitLen (N k) → liF N n = false) := fun h => by
    cases h2 : liF N n with
    | false => rfl
    | true => have := (liF_all N n).1 h2 k (by omega); omega
   clear hli
   generalize bitLen (N k) = BL at *
   by_cases hbl : 62 < BL
   ·have HF : Hid (liF N n = false) := HF0.out hbl
    clear HF0 HB0
    (repeat ((fail_if_success with_reducible refine rg ?_); go_step))
    refine wp_region_pw ?_
    refine pw_mv (by rfl) rfl rfl ?_
    simp only [Act.put, pu]
    refine pw_value (by rfl) (.pointer (some ⟨g1, 0, none⟩)) (exec_field 27 _ 0 rfl g1 0 rfl _ Try.underlying27 _ rfl 0 Try.sizeOf22) ?_
    simp only [Act.put, pu]
    refine pw_loadk (by rfl) 22 _ rfl _ (0) rfl r1.r (.slice ab n c) rfl Try.isAgg22 ?_
    simp only [Act.put, pu]
    refine pw_value (by rfl) (.int .i64 n) (exec_len_s 22 _ rfl ab n c rfl sl_link) ?_
    simp only [Act.put, pu]
    refine pw_value (by rfl) (.bool true) (exec_lt_b _ _ _ _ rfl k n rfl rfl true (decide_eq_true (by omega))) ?_
    simp only [Act.put, pu]
    refine pw_nil ?_
    obtain h0 | ⟨rfl, rB, hat⟩ := (HL.out.below sb).at'
    ·omega
    (repeat ((fail_if_success with_reducible refine rg ?_); go_step))
    refine wp_region_pw ?_
    refine pw_value (by rfl) (.pointer (some ⟨g1, 0, none⟩)) (exec_field 27 _ 0 rfl g1 0 rfl _ Try.underlying27 _ rfl 0 Try.sizeOf22) ?_
    simp only [Act.put, pu]
    refine pw_loadk (by rfl) 22 _ rfl _ (0) rfl r1.r (.slice (some ⟨gb, ob, none⟩) n c) rfl Try.isAgg22 ?_
    simp only [Act.put, pu]
    refine pw_mv (by rfl) rfl rfl ?_
    simp only [Act.put, pu]
    refine pw_value (by rfl) (.pointer (some ⟨gb, ob + k * 5, none⟩)) (exec_index_s 22 _ _ rfl gb ob n c rfl k rfl (by omega) _ Try.underlying22 5 Try.sizeOf58) ?_
    simp only [Act.put, pu]
    refine pw_value (by rfl) (.pointer (some ⟨gb, ob + k * 5, none⟩)) (exec_field 58 _ 0 rfl gb (ob + k * 5) rfl _ Try.underlying58 _ rfl 3 Try.sizeOf25) ?_
    simp only [Act.put, pu]
    refine pw_loadm (by rfl) 25 _ rfl _ (ob + k * 5) rfl rB (natC (N k)) (lk_part (hat k (by omega))) _ Try.underlying25 rfl size_nat ?_
    simp only [Act.put, pu]
    refine pw_callB (by rfl) 41 _ _ rfl Try.func41 (by kernel_rfl) #[.agg (natC (N k))] rfl _ (hle _) ?_
    intro z6006 k
    simp only [Act.put, pu]
    replace r1 := k.row r1 (by simp <;> omega)
    replace sb := sb.trans (k.below w.heap.size sb.size (by simp <;> omega))
    clear k
    refine pw_value (by rfl) (.bool true) (exec_gt_i _ _ _ _ rfl BL 62 rfl rfl true (decide_eq_true (by omega))) ?_
    simp only [Act.put, pu]
    refine pw_nil ?_
    go_wp2
    go_ret
    exact ⟨by rw [HF.out]; rfl, sb⟩
   ·have HB : Hid (liF N (k + 1) = true) := HB0.out (by omega)
    clear HF0 HB0
    (repeat ((fail_if_success with_reducible refine rg ?_); go_step))
    refine wp_region_pw ?_
    refine pw_mv (by rfl) rfl rfl ?_
    simp only [Act.put, pu]
    refine pw_value (by rfl) (.pointer (some ⟨g1, 0, none⟩)) (exec_field 27 _ 0 rfl g1 0 rfl _ Try.underlying27 _ rfl 0 Try.sizeOf22) ?_
    simp only [Act.put, pu]
    refine pw_loadk (by rfl) 22 _ rfl _ (0) rfl r1.r (.slice ab n c) rfl Try.isAgg22 ?_
    simp only [Act.put, pu]
    refine pw_value (by rfl) (.int .i64 n) (exec_len_s 22 _ rfl ab n c rfl sl_link) ?_
    simp only [Act.put, pu]
    refine pw_value (by rfl) (.bool true) (exec_lt_b _ _ _ _ rfl k n rfl rfl true (decide_eq_true (by omega))) ?_
    simp only [Act.put, pu]
    refine pw_nil ?_
    obtain h0 | ⟨rfl, rB, hat⟩ := (HL.out.below sb).at'
    ·omega
    (repeat ((fail_if_success with_reducible refine rg ?_); go_step))
    refine wp_region_pw ?_
    refine pw_value (by rfl) (.pointer (some ⟨g1, 0, none⟩)) (exec_field 27 _ 0 rfl g1 0 rfl _ Try.underlying27 _ rfl 0 Try.sizeOf22) ?_
    simp only [Act.put, pu]
    refine pw_loadk (by rfl) 22 _ rfl _ (0) rfl r1.r (.slice (some ⟨gb, ob, none⟩) n c) rfl Try.isAgg22 ?_
    simp only [Act.put, pu]
    refine pw_mv (by rfl) rfl rfl ?_
    simp only [Act.put, pu]
    refine pw_value (by rfl) (.pointer (some ⟨gb, ob + k * 5, none⟩)) (exec_index_s 22 _ _ rfl gb ob n c rfl k rfl (by omega) _ Try.underlying22 5 Try.sizeOf58) ?_
    simp only [Act.put, pu]
    refine pw_value (by rfl) (.pointer (some ⟨gb, ob + k * 5, none⟩)) (exec_field 58 _ 0 rfl gb (ob + k * 5) rfl _ Try.underlying58 _ rfl 3 Try.sizeOf25) ?_
    simp only [Act.put, pu]
    refine pw_loadm (by rfl) 25 _ rfl _ (ob + k * 5) rfl rB (natC (N k)) (lk_part (hat k (by omega))) _ Try.underlying25 rfl size_nat ?_
    simp only [Act.put, pu]
    refine pw_callB (by rfl) 41 _ _ rfl Try.func41 (by kernel_rfl) #[.agg (natC (N k))] rfl _ (hle _) ?_
    intro z6006 k
    simp only [Act.put, pu]
    replace r1 := k.row r1 (by simp <;> omega)
    replace sb := sb.trans (k.below w.heap.size sb.size (by simp <;> omega))
    clear k
    refine pw_value (by rfl) (.bool false) (exec_gt_i _ _ _ _ rfl BL 62 rfl rfl false (decide_eq_false (by omega))) ?_
    simp only [Act.put, pu]
    refine pw_nil ?_
    (repeat ((fail_if_success with_reducible refine rg ?_); go_step))
    refine wp_region_pw ?_
    refine pw_mv (by rfl) rfl rfl ?_
    simp only [Act.put, pu]
    refine pw_value (by rfl) (.int .i64 ((k + 1 : Nat) : Int)) (exec_add_in _ _ _ _ rfl k 1 rfl rfl (by omega)) ?_
    simp only [Act.put, pu]
    refine pw_as (by rfl) rfl rfl ?_
    simp only [Act.put, pu]
    refine pw_nil ?_
    go_wp2
    go_roundg g
    case measure => omega
    case rel => exact ⟨k + 1, by omega, rfl, HB.out, r1, sb⟩
theorem light_any (n c : Nat) (ab : Option Addr) (G : Nat) (N : Nat → Nat) (A : Nat → Int) (gb ob : Nat) (bcs : Array Value) (tb : TypeId) (w : World) (hL : LinksAt w ab n N A gb ob bcs tb) :
  Calls Try.prog 27 #[.agg (paC ab n c G)] w fun e w' => e = .returned (.bool (liN n N)) ∧ Below w.heap.size w w' := by
 unfold liN
 by_cases h : n ≤ 10
 ·rw [decide_eq_true h, Bool.true_and]
  exact light_rest n c ab G N A gb ob bcs tb w h hL
 ·rw [decide_eq_false h, Bool.false_and]
  exact light_long n c ab G w (by omega)
set_option maxRecDepth 100000 in
set_option maxHeartbeats 2000000 in
theorem may_few (n c : Nat) (ab : Option Addr) (G : Nat) (w : World) (h : n < 2) :
  Calls Try.prog 28 #[.agg (paC ab n c G)] w fun e w' => e = .returned (.bool false) ∧ Below w.heap.size w w' := by
 go_enter Try.func28, Try.ntmps28
 (repeat ((fail_if_success with_reducible refine rg ?_); go_step))
 refine wp_region_pw ?_
 refine pw_boxr (by rfl) 27 _ rfl (_) rfl ?_
 intro g1 z0 n0 r1 k
 simp only [Act.put, pu]
 have b1 : w.heap.size ≤ g1 := n0
 clear n0
 have sb := k.below w.heap.size (Nat.le_refl _) (by simp)
 clear k
 refine pw_value (by rfl) (.bool false) (fun _ => rfl) ?_
 simp only [Act.put, pu]
 refine pw_nil ?_
 (repeat ((fail_if_success with_reducible refine rg ?_); go_step))
 refine wp_region_pw ?_
 refine pw_value (by rfl) (.pointer (some ⟨g1, 0, none⟩)) (exec_field 27 _ 0 rfl g1 0 rfl _ Try.underlying27 _ rfl 0 Try.sizeOf22) ?_
 simp only [Act.put, pu]
 refine pw_loadk (by rfl) 22 _ rfl _ (0) rfl r1.r (.slice ab n c) rfl Try.isAgg22 ?_
 simp only [Act.put, pu]
 refine pw_value (by rfl) (.int .i64 n) (exec_len_s 22 _ rfl ab n c rfl sl_link) ?_
 simp only [Act.put, pu]
 refine pw_value (by rfl) (.bool true) (exec_lt_b _ _ _ _ rfl n 2 rfl rfl true (decide_eq_true (by omega))) ?_
 simp only [Act.put, pu]
 refine pw_mv (by rfl) rfl rfl ?_
 simp only [Act.put, pu]
 refine pw_skip (by rfl) ?_
 simp only [Act.put, pu]
 refine pw_skip (by rfl) ?_
 simp only [Act.put, pu]
 refine pw_skip (by rfl) ?_
 simp only [Act.put, pu]
 refine pw_skip (by rfl) ?_
 simp only [Act.put, pu]
 refine pw_pick (by rfl) true (v := .bool true) rfl rfl rfl ?_
 simp only [Act.put, pu]
 refine pw_mv (by rfl) rfl rfl ?_
 simp only [Act.put, pu]
 refine pw_skip (by rfl) ?_
 simp only [Act.put, pu]
 refine pw_skip (by rfl) ?_
 simp only [Act.put, pu]
 refine pw_skip (by rfl) ?_
 simp only [Act.put, pu]
 refine pw_skip (by rfl) ?_
 simp only [Act.put, pu]
 refine pw_pick (by rfl) true (v := .bool true) rfl rfl rfl ?_
 simp only [Act.put, pu]
 refine pw_nil ?_
 go_wp2
 go_ret
 exact ⟨rfl, sb⟩
set_option maxRecDepth 100000 in
set_option maxHeartbeats 2000000 in
theorem may_chain (n c : Nat) (ab : Option Addr) (G : Nat) (w : World) (h : 2 ≤ n)
  (hch : ∀ w', Below w.heap.size w w' → Calls Try.prog 43 #[.slice ab n c] w' fun e w2 => e = .returned (.bool false) ∧ Below w'.heap.size w' w2) :
  Calls Try.prog 28 #[.agg (paC ab n c G)] w fun e w' => e = .returned (.bool false) ∧ Below w.heap.size w w' := by
 go_enter Try.func28, Try.ntmps28
 (repeat ((fail_if_success with_reducible refine rg ?_); go_step))
 refine wp_region_pw ?_
 refine pw_boxr (by rfl) 27 _ rfl (_) rfl ?_
 intro g1 z0 n0 r1 k
 simp only [Act.put, pu]
 have b1 : w.heap.size ≤ g1 := n0
 clear n0
 have sb := k.below w.heap.size (Nat.le_refl _) (by simp)
 clear k
 refine pw_value (by rfl) (.bool false) (fun _ => rfl) ?_
 simp only [Act.put, pu]
 refine pw_nil ?_
 (repeat ((fail_if_success with_reducible refine rg ?_); go_step))
 refine wp_region_pw ?_
 refine pw_value (by rfl) (.pointer (some ⟨g1, 0, none⟩)) (exec_field 27 _ 0 rfl g1 0 rfl _ Try.underlying27 _ rfl 0 Try.sizeOf22) ?_
 simp only [Act.put, pu]
 refine pw_loadk (by rfl) 22 _ rfl _ (0) rfl r1.r (.slice ab n c) rfl Try.isAgg22 ?_
 simp only [Act.put, pu]
 refine pw_value (by rfl) (.int .i64 n) (exec_len_s 22 _ rfl ab n c rfl sl_link) ?_
 simp only [Act.put, pu]
 refine pw_value (by rfl) (.bool false) (exec_lt_b _ _ _ _ rfl n 2 rfl rfl false (decide_eq_false (by omega))) ?_
 simp only [Act.put, pu]
 refine pw_mv (by rfl) rfl rfl ?_
 simp only [Act.put, pu]
 refine pw_value (by rfl) (.pointer (some ⟨g1, 0, none⟩)) (exec_field 27 _ 0 rfl g1 0 rfl _ Try.underlying27 _ rfl 0 Try.sizeOf22) ?_
 simp only [Act.put, pu]
 refine pw_loadk (by rfl) 22 _ rfl _ (0) rfl r1.r (.slice ab n c) rfl Try.isAgg22 ?_
 simp only [Act.put, pu]
 refine pw_callB (by rfl) 43 _ _ rfl Try.func43 (by kernel_rfl) #[.slice ab n c] rfl _ (hch _ sb) ?_
 intro z1007 k
 simp only [Act.put, pu]
 replace r1 := k.row r1 (by simp <;> omega)
 replace sb := sb.trans (k.below w.heap.size sb.size (by simp <;> omega))
 clear k
 refine pw_value (by rfl) (.bool true) (exec_not _ _ rfl false rfl) ?_
 simp only [Act.put, pu]
 refine pw_pick (by rfl) false (v := .bool true) rfl rfl rfl ?_
 simp only [Act.put, pu]
 refine pw_mv (by rfl) rfl rfl ?_
 simp only [Act.put, pu]
 refine pw_skip (by rfl) ?_
 simp only [Act.put, pu]
 refine pw_skip (by rfl) ?_
 simp only [Act.put, pu]
 refine pw_skip (by rfl) ?_
 simp only [Act.put, pu]
 refine pw_skip (by rfl) ?_
 simp only [Act.put, pu]
 refine pw_pick (by rfl) true (v := .bool true) rfl rfl rfl ?_
 simp only [Act.put, pu]
 refine pw_nil ?_
 go_wp2
 go_ret
 exact ⟨rfl, sb⟩
set_option maxRecDepth 100000 in
set_option maxHeartbeats 2000000 in
theorem may_short (n c : Nat) (ab : Option Addr) (G QQ : Nat) (BL : Int) (w : World) (h : 2 ≤ n) (hb : BL < 10)
  (hch : ∀ w', Below w.heap.size w w' → Calls Try.prog 43 #[.slice ab n c] w' fun e w2 => e = .returned (.bool true) ∧ Below w'.heap.size w' w2)
  (hq : ∀ w', Below w.heap.size w w' → Calls Try.prog 19 #[.agg (paC ab n c G)] w' fun e w2 => e = .returned (.agg (natC QQ)) ∧ Below w'.heap.size w' w2) (hle : ∀ w', Calls Try.prog 41 #[.agg (natC QQ)] w' fun e w2 => e = .returned (.int .i64 BL) ∧ Below w'.heap.size w' w2) :
  Calls Try.prog 28 #[.agg (paC ab n c G)] w fun e w' => e = .returned (.bool false) ∧ Below w.heap.size w w' := by
 go_enter Try.func28, Try.ntmps28
 (repeat ((fail_if_success with_reducible refine rg ?_); go_step))
 refine wp_region_pw ?_
 refine pw_boxr (by rfl) 27 _ rfl (_) rfl ?_
 intro g1 z0 n0 r1 k
 simp only [Act.put, pu]
 have b1 : w.heap.size ≤ g1 := n0
 clear n0
 have sb := k.below w.heap.size (Nat.le_refl _) (by simp)
 clear k
 refine pw_value (by rfl) (.bool false) (fun _ => rfl) ?_
 simp only [Act.put, pu]
 refine pw_nil ?_
 (repeat ((fail_if_success with_reducible refine rg ?_); go_step))
 refine wp_region_pw ?_
 refine pw_value (by rfl) (.pointer (some ⟨g1, 0, none⟩)) (exec_field 27 _ 0 rfl g1 0 rfl _ Try.underlying27 _ rfl 0 Try.sizeOf22) ?_
 simp only [Act.put, pu]
 refine pw_loadk (by rfl) 22 _ rfl _ (0) rfl r1.r (.slice ab n c) rfl Try.isAgg22 ?_
 simp only [Act.put, pu]
 refine pw_value (by rfl) (.int .i64 n) (exec_len_s 22 _ rfl ab n c rfl sl_link) ?_
 simp only [Act.put, pu]
 refine pw_value (by rfl) (.bool false) (exec_lt_b _ _ _ _ rfl n 2 rfl rfl false (decide_eq_false (by omega))) ?_
 simp only [Act.put, pu]
 refine pw_mv (by rfl) rfl rfl ?_
 simp only [Act.put, pu]
 refine pw_value (by rfl) (.pointer (some ⟨g1, 0, none⟩)) (exec_field 27 _ 0 rfl g1 0 rfl _ Try.underlying27 _ rfl 0 Try.sizeOf22) ?_
 simp only [Act.put, pu]
 refine pw_loadk (by rfl) 22 _ rfl _ (0) rfl r1.r (.slice ab n c) rfl Try.isAgg22 ?_
 simp only [Act.put, pu]
 refine pw_callB (by rfl) 43 _ _ rfl Try.func43 (by kernel_rfl) #[.slice ab n c] rfl _ (hch _ sb) ?_
 intro z1007 k
 simp only [Act.put, pu]
 replace r1 := k.row r1 (by simp <;> omega)
 replace sb := sb.trans (k.below w.heap.size sb.size (by simp <;> omega))
 clear k
 refine pw_value (by rfl) (.bool false) (exec_not _ _ rfl true rfl) ?_
 simp only [Act.put, pu]
 refine pw_pick (by rfl) false (v := .bool false) rfl rfl rfl ?_
 simp only [Act.put, pu]
 refine pw_mv (by rfl) rfl rfl ?_
 simp only [Act.put, pu]
 refine pw_loadm (by rfl) 27 _ rfl _ 0 rfl r1.r _ (part_all _) _ Try.underlying27 rfl size_pa ?_
 simp only [Act.put, pu]
 refine pw_callB (by rfl) 19 _ _ rfl Try.func19 (by kernel_rfl) #[.agg (paC ab n c G)] rfl _ (hq _ sb) ?_
 intro z1012 k
 simp only [Act.put, pu]
 replace r1 := k.row r1 (by simp <;> omega)
 replace sb := sb.trans (k.below w.heap.size sb.size (by simp <;> omega))
 clear k
 refine pw_callB (by rfl) 41 _ _ rfl Try.func41 (by kernel_rfl) #[.agg (natC QQ)] rfl _ (hle _) ?_
 intro z1013 k
 simp only [Act.put, pu]
 replace r1 := k.row r1 (by simp <;> omega)
 replace sb := sb.trans (k.below w.heap.size sb.size (by simp <;> omega))
 clear k
 refine pw_value (by rfl) (.bool true) (exec_lt_b _ _ _ _ rfl BL 10 rfl rfl true (decide_eq_true hb)) ?_
 simp only [Act.put, pu]
 refine pw_pick (by rfl) false (v := .bool true) rfl rfl rfl ?_
 simp only [Act.put, pu]
 refine pw_nil ?_
 go_wp2
 go_ret
 exact ⟨rfl, sb⟩
set_option maxRecDepth 100000 in
set_option maxHeartbeats 2000000 in
theorem may_g0 (n c : Nat) (ab : Option Addr) (G QQ PP ZZ : Nat) (BL CC : Int) (w : World) (h : 2 ≤ n) (hb : ¬ BL < 10) (h0 : (!decide (G % 2 ^ 256 = 0 % 2 ^ 256)) = false)
  (hch : ∀ w', Below w.heap.size w w' → Calls Try.prog 43 #[.slice ab n c] w' fun e w2 => e = .returned (.bool true) ∧ Below w'.heap.size w' w2)
  (hq : ∀ w', Below w.heap.size w w' → Calls Try.prog 19 #[.agg (paC ab n c G)] w' fun e w2 => e = .returned (.agg (natC QQ)) ∧ Below w'.heap.size w' w2) (hle : ∀ w', Calls Try.prog 41 #[.agg (natC QQ)] w' fun e w2 => e = .returned (.int .i64 BL) ∧ Below w'.heap.size w' w2)
  (hp : ∀ w', Below w.heap.size w w' → Calls Try.prog 17 #[.agg (paC ab n c G)] w' fun e w2 => e = .returned (.agg (natC PP)) ∧ Below w'.heap.size w' w2) (hcm : ∀ w', Calls Try.prog 44 #[.agg (natC G), .agg (natC PP)] w' fun e w2 => e = .returned (.int .i64 CC) ∧ Below w'.heap.size w' w2) (hex : ∀ w', Calls Try.prog 45 #[.agg (natC G), .agg (natC QQ), .agg (natC PP)] w' fun e w2 => e = .returned (.agg (natC ZZ)) ∧ Below w'.heap.size w' w2) :
  Calls Try.prog 28 #[.agg (paC ab n c G)] w fun e w' => e = .returned (.bool false) ∧ Below w.heap.size w w' := by
 have hi0 := fun w' => rint_any 0 w' (by decide)
 rw [show (0 : Int).toNat = 0 from rfl] at hi0
 have hi1 := fun w' => rint_any 1 w' (by decide)
 rw [show (1 : Int).toNat = 1 from rfl] at hi1
 go_enter Try.func28, Try.ntmps28
 (repeat ((fail_if_success with_reducible refine rg ?_); go_step))
 refine wp_region_pw ?_
 refine pw_boxr (by rfl) 27 _ rfl (_) rfl ?_
 intro g1 z0 n0 r1 k
 simp only [Act.put, pu]
 have b1 : w.heap.size ≤ g1 := n0
 clear n0
 have sb := k.below w.heap.size (Nat.le_refl _) (by simp)
 clear k
 refine pw_value (by rfl) (.bool false) (fun _ => rfl) ?_
 simp only [Act.put, pu]
 refine pw_nil ?_
 (repeat ((fail_if_success with_reducible refine rg ?_); go_step))
 refine wp_region_pw ?_
 refine pw_value (by rfl) (.pointer (some ⟨g1, 0, none⟩)) (exec_field 27 _ 0 rfl g1 0 rfl _ Try.underlying27 _ rfl 0 Try.sizeOf22) ?_
 simp only [Act.put, pu]
 refine pw_loadk (by rfl) 22 _ rfl _ (0) rfl r1.r (.slice ab n c) rfl Try.isAgg22 ?_
 simp only [Act.put, pu]
 refine pw_value (by rfl) (.int .i64 n) (exec_len_s 22 _ rfl ab n c rfl sl_link) ?_
 simp only [Act.put, pu]
 refine pw_value (by rfl) (.bool false) (exec_lt_b _ _ _ _ rfl n 2 rfl rfl false (decide_eq_false (by omega))) ?_
 simp only [Act.put, pu]
 refine pw_mv (by rfl) rfl rfl ?_
 simp only [Act.put, pu]
 refine pw_value (by rfl) (.pointer (some ⟨g1, 0, none⟩)) (exec_field 27 _ 0 rfl g1 0 rfl _ Try.underlying27 _ rfl 0 Try.sizeOf22) ?_
 simp only [Act.put, pu]
 refine pw_loadk (by rfl) 22 _ rfl _ (0) rfl r1.r (.slice ab n c) rfl Try.isAgg22 ?_
 simp only [Act.put, pu]
 refine pw_callB (by rfl) 43 _ _ rfl Try.func43 (by kernel_rfl) #[.slice ab n c] rfl _ (hch _ sb) ?_
 intro z1007 k
 simp only [Act.put, pu]
 replace r1 := k.row r1 (by simp <;> omega)
 replace sb := sb.trans (k.below w.heap.size sb.size (by simp <;> omega))
 clear k
 refine pw_value (by rfl) (.bool false) (exec_not _ _ rfl true rfl) ?_
 simp only [Act.put, pu]
 refine pw_pick (by rfl) false (v := .bool false) rfl rfl rfl ?_
 simp only [Act.put, pu]
 refine pw_mv (by rfl) rfl rfl ?_
 simp only [Act.put, pu]
 refine pw_loadm (by rfl) 27 _ rfl _ 0 rfl r1.r _ (part_all _) _ Try.underlying27 rfl size_pa ?_
 simp only [Act.put, pu]
 refine pw_callB (by rfl) 19 _ _ rfl Try.func19 (by kernel_rfl) #[.agg (paC ab n c G)] rfl _ (hq _ sb) ?_
 intro z1012 k
 simp only [Act.put, pu]
 replace r1 := k.row r1 (by simp <;> omega)
 replace sb := sb.trans (k.below w.heap.size sb.size (by simp <;> omega))
 clear k
 refine pw_callB (by rfl) 41 _ _ rfl Try.func41 (by kernel_rfl) #[.agg (natC QQ)] rfl _ (hle _) ?_
 intro z1013 k
 simp only [Act.put, pu]
 replace r1 := k.row r1 (by simp <;> omega)
 replace sb := sb.trans (k.below w.heap.size sb.size (by simp <;> omega))
 clear k
 refine pw_value (by rfl) (.bool false) (exec_lt_b _ _ _ _ rfl BL 10 rfl rfl false (decide_eq_false hb)) ?_
 simp only [Act.put, pu]
 refine pw_pick (by rfl) false (v := .bool false) rfl rfl rfl ?_
 simp only [Act.put, pu]
 refine pw_nil ?_
 clear hch hle
 (repeat ((fail_if_success with_reducible refine rg ?_); go_step))
 refine wp_region_pw ?_
 refine pw_value (by rfl) (.pointer (some ⟨g1, 1, none⟩)) (exec_field 27 _ 1 rfl g1 0 rfl _ Try.underlying27 _ rfl 3 Try.sizeOf25) ?_
 simp only [Act.put, pu]
 refine pw_loadm (by rfl) 25 _ rfl _ (1) rfl r1.r (natC G) (pa_g _ _ _ _) _ Try.underlying25 rfl size_nat ?_
 simp only [Act.put, pu]
 refine pw_new (by rfl) 25 rfl _ zero_nat ?_
 intro g3 z3002 n0 r3 k
 simp only [Act.put, pu]
 have d1x3 := Nat.lt_of_lt_of_le r1.lt n0
 have b3 := Nat.le_trans sb.size n0
 clear n0
 replace r1 := k.row r1 (by simp <;> omega)
 replace sb := sb.trans (k.below w.heap.size sb.size (by simp <;> omega))
 clear k
 refine pw_put (by rfl) 25 _ _ rfl _ rfl r3 (natC G) rfl (by exact size_nat) (by simp only [natC_size]) (natC_one _) ?_
 clear r3
 intro z3003 r3 k
 simp only [Act.put]
 replace r1 := k.row r1 (by simp <;> omega)
 replace sb := sb.trans (k.below w.heap.size sb.size (by simp <;> omega))
 clear k
 refine pw_nil ?_
 (repeat ((fail_if_success with_reducible refine rg ?_); go_step))
 refine wp_region_qw (by kernel_rfl) (by kernel_rfl) ?_
 refine qw_load (by rfl) 25 _ rfl _ rfl r3 4 _ Try.underlying25 size_nat ?_
 simp only [Act.put, pu]
 refine qw_call (by rfl) 31 _ _ rfl Try.func31 (by kernel_rfl) #[.int .i64 0] rfl _ hi0 ?_
 simp only [Act.put, pu]
 refine qw_value (by rfl) (.bool false) (fun w' => (exec_neq_nat _ _ _ rfl G 0 rfl rfl w').trans (by rw [h0])) ?_
 simp only [Act.put, pu]
 refine qw_move (by rfl) rfl rfl ?_
 simp only [Act.put, pu]
 refine qw_skip (by rfl) ?_
 simp only [Act.put, pu]
 refine qw_skip (by rfl) ?_
 simp only [Act.put, pu]
 refine qw_skip (by rfl) ?_
 simp only [Act.put, pu]
 refine qw_pick false (v := .bool false) (by rfl) rfl rfl rfl ?_
 simp only [Act.put, pu]
 refine qw_move (by rfl) rfl rfl ?_
 simp only [Act.put, pu]
 refine qw_skip (by rfl) ?_
 simp only [Act.put, pu]
 refine qw_skip (by rfl) ?_
 simp only [Act.put, pu]
 refine qw_skip (by rfl) ?_
 simp only [Act.put, pu]
 refine qw_skip (by rfl) ?_
 simp only [Act.put, pu]
 refine qw_skip (by rfl) ?_
 simp only [Act.put, pu]
 refine qw_pick false (v := .bool false) (by rfl) rfl rfl rfl ?_
 simp only [Act.put, pu]
 refine qw_move (by rfl) rfl rfl ?_
 simp only [Act.put, pu]
 refine qw_skip (by rfl) ?_
 simp only [Act.put, pu]
 refine qw_skip (by rfl) ?_
 simp only [Act.put, pu]
 refine qw_skip (by rfl) ?_
 simp only [Act.put, pu]
 refine qw_skip (by rfl) ?_
 simp only [Act.put, pu]
 refine qw_skip (by rfl) ?_
 simp only [Act.put, pu]
 refine qw_skip (by rfl) ?_
 simp only [Act.put, pu]
 refine qw_skip (by rfl) ?_
 simp only [Act.put, pu]
 refine qw_skip (by rfl) ?_
 simp only [Act.put, pu]
 refine qw_pick false (v := .bool false) (by rfl) rfl rfl rfl ?_
 simp only [Act.put, pu]
 refine qw_asg (by rfl) rfl rfl ?_
 simp only [Act.put, pu]
 refine qw_nil ?_
 intro w9 hqb
 replace sb := below_on sb (Nat.le_refl _) hqb
 clear hqb
 go_wp2
 go_ret
 exact ⟨rfl, sb⟩
set_option maxRecDepth 100000 in
set_option maxHeartbeats 2000000 in
theorem may_g1 (n c : Nat) (ab : Option Addr) (G QQ PP ZZ : Nat) (BL CC : Int) (w : World) (h : 2 ≤ n) (hb : ¬ BL < 10) (h0 : (!decide (G % 2 ^ 256 = 0 % 2 ^ 256)) = true) (h1 : (!decide (G % 2 ^ 256 = 1 % 2 ^ 256)) = false)
  (hch : ∀ w', Below w.heap.size w w' → Calls Try.prog 43 #[.slice ab n c] w' fun e w2 => e = .returned (.bool true) ∧ Below w'.heap.size w' w2)
  (hq : ∀ w', Below w.heap.size w w' → Calls Try.prog 19 #[.agg (paC ab n c G)] w' fun e w2 => e = .returned (.agg (natC QQ)) ∧ Below w'.heap.size w' w2) (hle : ∀ w', Calls Try.prog 41 #[.agg (natC QQ)] w' fun e w2 => e = .returned (.int .i64 BL) ∧ Below w'.heap.size w' w2)
  (hp : ∀ w', Below w.heap.size w w' → Calls Try.prog 17 #[.agg (paC ab n c G)] w' fun e w2 => e = .returned (.agg (natC PP)) ∧ Below w'.heap.size w' w2) (hcm : ∀ w', Calls Try.prog 44 #[.agg (natC G), .agg (natC PP)] w' fun e w2 => e = .returned (.int .i64 CC) ∧ Below w'.heap.size w' w2) (hex : ∀ w', Calls Try.prog 45 #[.agg (natC G), .agg (natC QQ), .agg (natC PP)] w' fun e w2 => e = .returned (.agg (natC ZZ)) ∧ Below w'.heap.size w' w2) :
  Calls Try.prog 28 #[.agg (paC ab n c G)] w fun e w' => e = .returned (.bool false) ∧ Below w.heap.size w w' := by
 have hi0 := fun w' => rint_any 0 w' (by decide)
 rw [show (0 : Int).toNat = 0 from rfl] at hi0
 have hi1 := fun w' => rint_any 1 w' (by decide)
 rw [show (1 : Int).toNat = 1 from rfl] at hi1
 go_enter Try.func28, Try.ntmps28
 (repeat ((fail_if_success with_reducible refine rg ?_); go_step))
 refine wp_region_pw ?_
 refine pw_boxr (by rfl) 27 _ rfl (_) rfl ?_
 intro g1 z0 n0 r1 k
 simp only [Act.put, pu]
 have b1 : w.heap.size ≤ g1 := n0
 clear n0
 have sb := k.below w.heap.size (Nat.le_refl _) (by simp)
 clear k
 refine pw_value (by rfl) (.bool false) (fun _ => rfl) ?_
 simp only [Act.put, pu]
 refine pw_nil ?_
 (repeat ((fail_if_success with_reducible refine rg ?_); go_step))
 refine wp_region_pw ?_
 refine pw_value (by rfl) (.pointer (some ⟨g1, 0, none⟩)) (exec_field 27 _ 0 rfl g1 0 rfl _ Try.underlying27 _ rfl 0 Try.sizeOf22) ?_
 simp only [Act.put, pu]
 refine pw_loadk (by rfl) 22 _ rfl _ (0) rfl r1.r (.slice ab n c) rfl Try.isAgg22 ?_
 simp only [Act.put, pu]
 refine pw_value (by rfl) (.int .i64 n) (exec_len_s 22 _ rfl ab n c rfl sl_link) ?_
 simp only [Act.put, pu]
 refine pw_value (by rfl) (.bool false) (exec_lt_b _ _ _ _ rfl n 2 rfl rfl false (decide_eq_false (by omega))) ?_
 simp only [Act.put, pu]
 refine pw_mv (by rfl) rfl rfl ?_
 simp only [Act.put, pu]
 refine pw_value (by rfl) (.pointer (some ⟨g1, 0, none⟩)) (exec_field 27 _ 0 rfl g1 0 rfl _ Try.underlying27 _ rfl 0 Try.sizeOf22) ?_
 simp only [Act.put, pu]
 refine pw_loadk (by rfl) 22 _ rfl _ (0) rfl r1.r (.slice ab n c) rfl Try.isAgg22 ?_
 simp only [Act.put, pu]
 refine pw_callB (by rfl) 43 _ _ rfl Try.func43 (by kernel_rfl) #[.slice ab n c] rfl _ (hch _ sb) ?_
 intro z1007 k
 simp only [Act.put, pu]
 replace r1 := k.row r1 (by simp <;> omega)
 replace sb := sb.trans (k.below w.heap.size sb.size (by simp <;> omega))
 clear k
 refine pw_value (by rfl) (.bool false) (exec_not _ _ rfl true rfl) ?_
 simp only [Act.put, pu]
 refine pw_pick (by rfl) false (v := .bool false) rfl rfl rfl ?_
 simp only [Act.put, pu]
 refine pw_mv (by rfl) rfl rfl ?_
 simp only [Act.put, pu]
 refine pw_loadm (by rfl) 27 _ rfl _ 0 rfl r1.r _ (part_all _) _ Try.underlying27 rfl size_pa ?_
 simp only [Act.put, pu]
 refine pw_callB (by rfl) 19 _ _ rfl Try.func19 (by kernel_rfl) #[.agg (paC ab n c G)] rfl _ (hq _ sb) ?_
 intro z1012 k
 simp only [Act.put, pu]
 replace r1 := k.row r1 (by simp <;> omega)
 replace sb := sb.trans (k.below w.heap.size sb.size (by simp <;> omega))
 clear k
 refine pw_callB (by rfl) 41 _ _ rfl Try.func41 (by kernel_rfl) #[.agg (natC QQ)] rfl _ (hle _) ?_
 intro z1013 k
 simp only [Act.put, pu]
 replace r1 := k.row r1 (by simp <;> omega)
 replace sb := sb.trans (k.below w.heap.size sb.size (by simp <;> omega))
 clear k
 refine pw_value (by rfl) (.bool false) (exec_lt_b _ _ _ _ rfl BL 10 rfl rfl false (decide_eq_false hb)) ?_
 simp only [Act.put, pu]
 refine pw_pick (by rfl) false (v := .bool false) rfl rfl rfl ?_
 simp only [Act.put, pu]
 refine pw_nil ?_
 clear hch hle
 (repeat ((fail_if_success with_reducible refine rg ?_); go_step))
 refine wp_region_pw ?_
 refine pw_value (by rfl) (.pointer (some ⟨g1, 1, none⟩)) (exec_field 27 _ 1 rfl g1 0 rfl _ Try.underlying27 _ rfl 3 Try.sizeOf25) ?_
 simp only [Act.put, pu]
 refine pw_loadm (by rfl) 25 _ rfl _ (1) rfl r1.r (natC G) (pa_g _ _ _ _) _ Try.underlying25 rfl size_nat ?_
 simp only [Act.put, pu]
 refine pw_new (by rfl) 25 rfl _ zero_nat ?_
 intro g3 z3002 n0 r3 k
 simp only [Act.put, pu]
 have d1x3 := Nat.lt_of_lt_of_le r1.lt n0
 have b3 := Nat.le_trans sb.size n0
 clear n0
 replace r1 := k.row r1 (by simp <;> omega)
 replace sb := sb.trans (k.below w.heap.size sb.size (by simp <;> omega))
 clear k
 refine pw_put (by rfl) 25 _ _ rfl _ rfl r3 (natC G) rfl (by exact size_nat) (by simp only [natC_size]) (natC_one _) ?_
 clear r3
 intro z3003 r3 k
 simp only [Act.put]
 replace r1 := k.row r1 (by simp <;> omega)
 replace sb := sb.trans (k.below w.heap.size sb.size (by simp <;> omega))
 clear k
 refine pw_nil ?_
 (repeat ((fail_if_success with_reducible refine rg ?_); go_step))
 refine wp_region_qw (by kernel_rfl) (by kernel_rfl) ?_
 refine qw_load (by rfl) 25 _ rfl _ rfl r3 4 _ Try.underlying25 size_nat ?_
 simp only [Act.put, pu]
 refine qw_call (by rfl) 31 _ _ rfl Try.func31 (by kernel_rfl) #[.int .i64 0] rfl _ hi0 ?_
 simp only [Act.put, pu]
 refine qw_value (by rfl) (.bool true) (fun w' => (exec_neq_nat _ _ _ rfl G 0 rfl rfl w').trans (by rw [h0])) ?_
 simp only [Act.put, pu]
 refine qw_move (by rfl) rfl rfl ?_
 simp only [Act.put, pu]
 refine qw_load (by rfl) 25 _ rfl _ rfl r3 4 _ Try.underlying25 size_nat ?_
 simp only [Act.put, pu]
 refine qw_call (by rfl) 31 _ _ rfl Try.func31 (by kernel_rfl) #[.int .i64 1] rfl _ hi1 ?_
 simp only [Act.put, pu]
 refine qw_value (by rfl) (.bool false) (fun w' => (exec_neq_nat _ _ _ rfl G 1 rfl rfl w').trans (by rw [h1])) ?_
 simp only [Act.put, pu]
 refine qw_pick true (v := .bool false) (by rfl) rfl rfl rfl ?_
 simp only [Act.put, pu]
 refine qw_move (by rfl) rfl rfl ?_
 simp only [Act.put, pu]
 refine qw_skip (by rfl) ?_
 simp only [Act.put, pu]
 refine qw_skip (by rfl) ?_
 simp only [Act.put, pu]
 refine qw_skip (by rfl) ?_
 simp only [Act.put, pu]
 refine qw_skip (by rfl) ?_
 simp only [Act.put, pu]
 refine qw_skip (by rfl) ?_
 simp only [Act.put, pu]
 refine qw_pick false (v := .bool false) (by rfl) rfl rfl rfl ?_
 simp only [Act.put, pu]
 refine qw_move (by rfl) rfl rfl ?_
 simp only [Act.put, pu]
 refine qw_skip (by rfl) ?_
 simp only [Act.put, pu]
 refine qw_skip (by rfl) ?_
 simp only [Act.put, pu]
 refine qw_skip (by rfl) ?_
 simp only [Act.put, pu]
 refine qw_skip (by rfl) ?_
 simp only [Act.put, pu]
 refine qw_skip (by rfl) ?_
 simp only [Act.put, pu]
 refine qw_skip (by rfl) ?_
 simp only [Act.put, pu]
 refine qw_skip (by rfl) ?_
 simp only [Act.put, pu]
 refine qw_skip (by rfl) ?_
 simp only [Act.put, pu]
 refine qw_pick false (v := .bool false) (by rfl) rfl rfl rfl ?_
 simp only [Act.put, pu]
 refine qw_asg (by rfl) rfl rfl ?_
 simp only [Act.put, pu]
 refine qw_nil ?_
 intro w9 hqb
 replace sb := below_on sb (Nat.le_refl _) hqb
 clear hqb
 go_wp2
 go_ret
 exact ⟨rfl, sb⟩
set_option maxRecDepth 100000 in
set_option maxHeartbeats 2000000 in
theorem may_gP (n c : Nat) (ab : Option Addr) (G QQ PP ZZ : Nat) (BL CC : Int) (w : World) (h : 2 ≤ n) (hb : ¬ BL < 10) (h0 : (!decide (G % 2 ^ 256 = 0 % 2 ^ 256)) = true) (h1 : (!decide (G % 2 ^ 256 = 1 % 2 ^ 256)) = true) (h2 : decide (CC < 0) = false)
  (hch : ∀ w', Below w.heap.size w w' → Calls Try.prog 43 #[.slice ab n c] w' fun e w2 => e = .returned (.bool true) ∧ Below w'.heap.size w' w2)
  (hq : ∀ w', Below w.heap.size w w' → Calls Try.prog 19 #[.agg (paC ab n c G)] w' fun e w2 => e = .returned (.agg (natC QQ)) ∧ Below w'.heap.size w' w2) (hle : ∀ w', Calls Try.prog 41 #[.agg (natC QQ)] w' fun e w2 => e = .returned (.int .i64 BL) ∧ Below w'.heap.size w' w2)
  (hp : ∀ w', Below w.heap.size w w' → Calls Try.prog 17 #[.agg (paC ab n c G)] w' fun e w2 => e = .returned (.agg (natC PP)) ∧ Below w'.heap.size w' w2) (hcm : ∀ w', Calls Try.prog 44 #[.agg (natC G), .agg (natC PP)] w' fun e w2 => e = .returned (.int .i64 CC) ∧ Below w'.heap.size w' w2) (hex : ∀ w', Calls Try.prog 45 #[.agg (natC G), .agg (natC QQ), .agg (natC PP)] w' fun e w2 => e = .returned (.agg (natC ZZ)) ∧ Below w'.heap.size w' w2) :
  Calls Try.prog 28 #[.agg (paC ab n c G)] w fun e w' => e = .returned (.bool false) ∧ Below w.heap.size w w' := by
 have hi0 := fun w' => rint_any 0 w' (by decide)
 rw [show (0 : Int).toNat = 0 from rfl] at hi0
 have hi1 := fun w' => rint_any 1 w' (by decide)
 rw [show (1 : Int).toNat = 1 from rfl] at hi1
 go_enter Try.func28, Try.ntmps28
 (repeat ((fail_if_success with_reducible refine rg ?_); go_step))
 refine wp_region_pw ?_
 refine pw_boxr (by rfl) 27 _ rfl (_) rfl ?_
 intro g1 z0 n0 r1 k
 simp only [Act.put, pu]
 have b1 : w.heap.size ≤ g1 := n0
 clear n0
 have sb := k.below w.heap.size (Nat.le_refl _) (by simp)
 clear k
 refine pw_value (by rfl) (.bool false) (fun _ => rfl) ?_
 simp only [Act.put, pu]
 refine pw_nil ?_
 (repeat ((fail_if_success with_reducible refine rg ?_); go_step))
 refine wp_region_pw ?_
 refine pw_value (by rfl) (.pointer (some ⟨g1, 0, none⟩)) (exec_field 27 _ 0 rfl g1 0 rfl _ Try.underlying27 _ rfl 0 Try.sizeOf22) ?_
 simp only [Act.put, pu]
 refine pw_loadk (by rfl) 22 _ rfl _ (0) rfl r1.r (.slice ab n c) rfl Try.isAgg22 ?_
 simp only [Act.put, pu]
 refine pw_value (by rfl) (.int .i64 n) (exec_len_s 22 _ rfl ab n c rfl sl_link) ?_
 simp only [Act.put, pu]
 refine pw_value (by rfl) (.bool false) (exec_lt_b _ _ _ _ rfl n 2 rfl rfl false (decide_eq_false (by omega))) ?_
 simp only [Act.put, pu]
 refine pw_mv (by rfl) rfl rfl ?_
 simp only [Act.put, pu]
 refine pw_value (by rfl) (.pointer (some ⟨g1, 0, none⟩)) (exec_field 27 _ 0 rfl g1 0 rfl _ Try.underlying27 _ rfl 0 Try.sizeOf22) ?_
 simp only [Act.put, pu]
 refine pw_loadk (by rfl) 22 _ rfl _ (0) rfl r1.r (.slice ab n c) rfl Try.isAgg22 ?_
 simp only [Act.put, pu]
 refine pw_callB (by rfl) 43 _ _ rfl Try.func43 (by kernel_rfl) #[.slice ab n c] rfl _ (hch _ sb) ?_
 intro z1007 k
 simp only [Act.put, pu]
 replace r1 := k.row r1 (by simp <;> omega)
 replace sb := sb.trans (k.below w.heap.size sb.size (by simp <;> omega))
 clear k
 refine pw_value (by rfl) (.bool false) (exec_not _ _ rfl true rfl) ?_
 simp only [Act.put, pu]
 refine pw_pick (by rfl) false (v := .bool false) rfl rfl rfl ?_
 simp only [Act.put, pu]
 refine pw_mv (by rfl) rfl rfl ?_
 simp only [Act.put, pu]
 refine pw_loadm (by rfl) 27 _ rfl _ 0 rfl r1.r _ (part_all _) _ Try.underlying27 rfl size_pa ?_
 simp only [Act.put, pu]
 refine pw_callB (by rfl) 19 _ _ rfl Try.func19 (by kernel_rfl) #[.agg (paC ab n c G)] rfl _ (hq _ sb) ?_
 intro z1012 k
 simp only [Act.put, pu]
 replace r1 := k.row r1 (by simp <;> omega)
 replace sb := sb.trans (k.below w.heap.size sb.size (by simp <;> omega))
 clear k
 refine pw_callB (by rfl) 41 _ _ rfl Try.func41 (by kernel_rfl) #[.agg (natC QQ)] rfl _ (hle _) ?_
 intro z1013 k
 simp only [Act.put, pu]
 replace r1 := k.row r1 (by simp <;> omega)
 replace sb := sb.trans (k.below w.heap.size sb.size (by simp <;> omega))
 clear k
 refine pw_value (by rfl) (.bool false) (exec_lt_b _ _ _ _ rfl BL 10 rfl rfl false (decide_eq_false hb)) ?_
 simp only [Act.put, pu]
 refine pw_pick (by rfl) false (v := .bool false) rfl rfl rfl ?_
 simp only [Act.put, pu]
 refine pw_nil ?_
 clear hch hle
 (repeat ((fail_if_success with_reducible refine rg ?_); go_step))
 refine wp_region_pw ?_
 refine pw_value (by rfl) (.pointer (some ⟨g1, 1, none⟩)) (exec_field 27 _ 1 rfl g1 0 rfl _ Try.underlying27 _ rfl 3 Try.sizeOf25) ?_
 simp only [Act.put, pu]
 refine pw_loadm (by rfl) 25 _ rfl _ (1) rfl r1.r (natC G) (pa_g _ _ _ _) _ Try.underlying25 rfl size_nat ?_
 simp only [Act.put, pu]
 refine pw_new (by rfl) 25 rfl _ zero_nat ?_
 intro g3 z3002 n0 r3 k
 simp only [Act.put, pu]
 have d1x3 := Nat.lt_of_lt_of_le r1.lt n0
 have b3 := Nat.le_trans sb.size n0
 clear n0
 replace r1 := k.row r1 (by simp <;> omega)
 replace sb := sb.trans (k.below w.heap.size sb.size (by simp <;> omega))
 clear k
 refine pw_put (by rfl) 25 _ _ rfl _ rfl r3 (natC G) rfl (by exact size_nat) (by simp only [natC_size]) (natC_one _) ?_
 clear r3
 intro z3003 r3 k
 simp only [Act.put]
 replace r1 := k.row r1 (by simp <;> omega)
 replace sb := sb.trans (k.below w.heap.size sb.size (by simp <;> omega))
 clear k
 refine pw_nil ?_
 (repeat ((fail_if_success with_reducible refine rg ?_); go_step))
 refine wp_region_qw (by kernel_rfl) (by kernel_rfl) ?_
 refine qw_load (by rfl) 25 _ rfl _ rfl r3 4 _ Try.underlying25 size_nat ?_
 simp only [Act.put, pu]
 refine qw_call (by rfl) 31 _ _ rfl Try.func31 (by kernel_rfl) #[.int .i64 0] rfl _ hi0 ?_
 simp only [Act.put, pu]
 refine qw_value (by rfl) (.bool true) (fun w' => (exec_neq_nat _ _ _ rfl G 0 rfl rfl w').trans (by rw [h0])) ?_
 simp only [Act.put, pu]
 refine qw_move (by rfl) rfl rfl ?_
 simp only [Act.put, pu]
 refine qw_load (by rfl) 25 _ rfl _ rfl r3 4 _ Try.underlying25 size_nat ?_
 simp only [Act.put, pu]
 refine qw_call (by rfl) 31 _ _ rfl Try.func31 (by kernel_rfl) #[.int .i64 1] rfl _ hi1 ?_
 simp only [Act.put, pu]
 refine qw_value (by rfl) (.bool true) (fun w' => (exec_neq_nat _ _ _ rfl G 1 rfl rfl w').trans (by rw [h1])) ?_
 simp only [Act.put, pu]
 refine qw_pick true (v := .bool true) (by rfl) rfl rfl rfl ?_
 simp only [Act.put, pu]
 refine qw_move (by rfl) rfl rfl ?_
 simp only [Act.put, pu]
 refine qw_load (by rfl) 25 _ rfl _ rfl r3 4 _ Try.underlying25 size_nat ?_
 simp only [Act.put, pu]
 refine qw_loadm (by rfl) 27 _ rfl _ (0) rfl r1 (paC ab n c G) (part_all _) _ Try.underlying27 rfl size_pa ?_
 simp only [Act.put, pu]
 refine qw_callK (by rfl) 17 _ _ rfl Try.func17 (by kernel_rfl) #[.agg (paC ab n c G)] rfl _ (fun w' hb => hp w' (below_on sb (Nat.le_refl _) hb)) ?_
 simp only [Act.put, pu]
 refine qw_call (by rfl) 44 _ _ rfl Try.func44 (by kernel_rfl) #[.agg (natC G), .agg (natC PP)] rfl _ hcm ?_
 simp only [Act.put, pu]
 refine qw_value (by rfl) (.bool false) (exec_lt_b _ _ _ _ rfl CC 0 rfl rfl false h2) ?_
 simp only [Act.put, pu]
 refine qw_pick true (v := .bool false) (by rfl) rfl rfl rfl ?_
 simp only [Act.put, pu]
 refine qw_move (by rfl) rfl rfl ?_
 simp only [Act.put, pu]
 refine qw_skip (by rfl) ?_
 simp only [Act.put, pu]
 refine qw_skip (by rfl) ?_
 simp only [Act.put, pu]
 refine qw_skip (by rfl) ?_
 simp only [Act.put, pu]
 refine qw_skip (by rfl) ?_
 simp only [Act.put, pu]
 refine qw_skip (by rfl) ?_
 simp only [Act.put, pu]
 refine qw_skip (by rfl) ?_
 simp only [Act.put, pu]
 refine qw_skip (by rfl) ?_
 simp only [Act.put, pu]
 refine qw_skip (by rfl) ?_
 simp only [Act.put, pu]
 refine qw_pick false (v := .bool false) (by rfl) rfl rfl rfl ?_
 simp only [Act.put, pu]
 refine qw_asg (by rfl) rfl rfl ?_
 simp only [Act.put, pu]
 refine qw_nil ?_
 intro w9 hqb
 replace sb := below_on sb (Nat.le_refl _) hqb
 clear hqb
 go_wp2
 go_ret
 exact ⟨rfl, sb⟩
set_option maxRecDepth 100000 in
set_option maxHeartbeats 2000000 in
theorem may_pw (n c : Nat) (ab : Option Addr) (G QQ PP ZZ : Nat) (BL CC : Int) (B4 : Bool) (w : World) (h : 2 ≤ n) (hb : ¬ BL < 10) (h0 : (!decide (G % 2 ^ 256 = 0 % 2 ^ 256)) = true) (h1 : (!decide (G % 2 ^ 256 = 1 % 2 ^ 256)) = true) (h2 : decide (CC < 0) = true) (h3 : decide (ZZ % 2 ^ 256 = 1 % 2 ^ 256) = B4)
  (hch : ∀ w', Below w.heap.size w w' → Calls Try.prog 43 #[.slice ab n c] w' fun e w2 => e = .returned (.bool true) ∧ Below w'.heap.size w' w2)
  (hq : ∀ w', Below w.heap.size w w' → Calls Try.prog 19 #[.agg (paC ab n c G)] w' fun e w2 => e = .returned (.agg (natC QQ)) ∧ Below w'.heap.size w' w2) (hle : ∀ w', Calls Try.prog 41 #[.agg (natC QQ)] w' fun e w2 => e = .returned (.int .i64 BL) ∧ Below w'.heap.size w' w2)
  (hp : ∀ w', Below w.heap.size w w' → Calls Try.prog 17 #[.agg (paC ab n c G)] w' fun e w2 => e = .returned (.agg (natC PP)) ∧ Below w'.heap.size w' w2) (hcm : ∀ w', Calls Try.prog 44 #[.agg (natC G), .agg (natC PP)] w' fun e w2 => e = .returned (.int .i64 CC) ∧ Below w'.heap.size w' w2) (hex : ∀ w', Calls Try.prog 45 #[.agg (natC G), .agg (natC QQ), .agg (natC PP)] w' fun e w2 => e = .returned (.agg (natC ZZ)) ∧ Below w'.heap.size w' w2) :
  Calls Try.prog 28 #[.agg (paC ab n c G)] w fun e w' => e = .returned (.bool B4) ∧ Below w.heap.size w w' := by
 have hi0 := fun w' => rint_any 0 w' (by decide)
 rw [show (0 : Int).toNat = 0 from rfl] at hi0
 have hi1 := fun w' => rint_any 1 w' (by decide)
 rw [show (1 : Int).toNat = 1 from rfl] at hi1
 go_enter Try.func28, Try.ntmps28
 (repeat ((fail_if_success with_reducible refine rg ?_); go_step))
 refine wp_region_pw ?_
 refine pw_boxr (by rfl) 27 _ rfl (_) rfl ?_
 intro g1 z0 n0 r1 k
 simp only [Act.put, pu]
 have b1 : w.heap.size ≤ g1 := n0
 clear n0
 have sb := k.below w.heap.size (Nat.le_refl _) (by simp)
 clear k
 refine pw_value (by rfl) (.bool false) (fun _ => rfl) ?_
 simp only [Act.put, pu]
 refine pw_nil ?_
 (repeat ((fail_if_success with_reducible refine rg ?_); go_step))
 refine wp_region_pw ?_
 refine pw_value (by rfl) (.pointer (some ⟨g1, 0, none⟩)) (exec_field 27 _ 0 rfl g1 0 rfl _ Try.underlying27 _ rfl 0 Try.sizeOf22) ?_
 simp only [Act.put, pu]
 refine pw_loadk (by rfl) 22 _ rfl _ (0) rfl r1.r (.slice ab n c) rfl Try.isAgg22 ?_
 simp only [Act.put, pu]
 refine pw_value (by rfl) (.int .i64 n) (exec_len_s 22 _ rfl ab n c rfl sl_link) ?_
 simp only [Act.put, pu]
 refine pw_value (by rfl) (.bool false) (exec_lt_b _ _ _ _ rfl n 2 rfl rfl false (decide_eq_false (by omega))) ?_
 simp only [Act.put, pu]
 refine pw_mv (by rfl) rfl rfl ?_
 simp only [Act.put, pu]
 refine pw_value (by rfl) (.pointer (some ⟨g1, 0, none⟩)) (exec_field 27 _ 0 rfl g1 0 rfl _ Try.underlying27 _ rfl 0 Try.sizeOf22) ?_
 simp only [Act.put, pu]
 refine pw_loadk (by rfl) 22 _ rfl _ (0) rfl r1.r (.slice ab n c) rfl Try.isAgg22 ?_
 simp only [Act.put, pu]
 refine pw_callB (by rfl) 43 _ _ rfl Try.func43 (by kernel_rfl) #[.slice ab n c] rfl _ (hch _ sb) ?_
 intro z1007 k
 simp only [Act.put, pu]
 replace r1 := k.row r1 (by simp <;> omega)
 replace sb := sb.trans (k.below w.heap.size sb.size (by simp <;> omega))
 clear k
 refine pw_value (by rfl) (.bool false) (exec_not _ _ rfl true rfl) ?_
 simp only [Act.put, pu]
 refine pw_pick (by rfl) false (v := .bool false) rfl rfl rfl ?_
 simp only [Act.put, pu]
 refine pw_mv (by rfl) rfl rfl ?_
 simp only [Act.put, pu]
 refine pw_loadm (by rfl) 27 _ rfl _ 0 rfl r1.r _ (part_all _) _ Try.underlying27 rfl size_pa ?_
 simp only [Act.put, pu]
 refine pw_callB (by rfl) 19 _ _ rfl Try.func19 (by kernel_rfl) #[.agg (paC ab n c G)] rfl _ (hq _ sb) ?_
 intro z1012 k
 simp only [Act.put, pu]
 replace r1 := k.row r1 (by simp <;> omega)
 replace sb := sb.trans (k.below w.heap.size sb.size (by simp <;> omega))
 clear k
 refine pw_callB (by rfl) 41 _ _ rfl Try.func41 (by kernel_rfl) #[.agg (natC QQ)] rfl _ (hle _) ?_
 intro z1013 k
 simp only [Act.put, pu]
 replace r1 := k.row r1 (by simp <;> omega)
 replace sb := sb.trans (k.below w.heap.size sb.size (by simp <;> omega))
 clear k
 refine pw_value (by rfl) (.bool false) (exec_lt_b _ _ _ _ rfl BL 10 rfl rfl false (decide_eq_false hb)) ?_
 simp only [Act.put, pu]
 refine pw_pick (by rfl) false (v := .bool false) rfl rfl rfl ?_
 simp only [Act.put, pu]
 refine pw_nil ?_
 clear hch hle
 (repeat ((fail_if_success with_reducible refine rg ?_); go_step))
 refine wp_region_pw ?_
 refine pw_value (by rfl) (.pointer (some ⟨g1, 1, none⟩)) (exec_field 27 _ 1 rfl g1 0 rfl _ Try.underlying27 _ rfl 3 Try.sizeOf25) ?_
 simp only [Act.put, pu]
 refine pw_loadm (by rfl) 25 _ rfl _ (1) rfl r1.r (natC G) (pa_g _ _ _ _) _ Try.underlying25 rfl size_nat ?_
 simp only [Act.put, pu]
 refine pw_new (by rfl) 25 rfl _ zero_nat ?_
 intro g3 z3002 n0 r3 k
 simp only [Act.put, pu]
 have d1x3 := Nat.lt_of_lt_of_le r1.lt n0
 have b3 := Nat.le_trans sb.size n0
 clear n0
 replace r1 := k.row r1 (by simp <;> omega)
 replace sb := sb.trans (k.below w.heap.size sb.size (by simp <;> omega))
 clear k
 refine pw_put (by rfl) 25 _ _ rfl _ rfl r3 (natC G) rfl (by exact size_nat) (by simp only [natC_size]) (natC_one _) ?_
 clear r3
 intro z3003 r3 k
 simp only [Act.put]
 replace r1 := k.row r1 (by simp <;> omega)
 replace sb := sb.trans (k.below w.heap.size sb.size (by simp <;> omega))
 clear k
 refine pw_nil ?_
 (repeat ((fail_if_success with_reducible refine rg ?_); go_step))
 refine wp_region_qw (by kernel_rfl) (by kernel_rfl) ?_
 refine qw_load (by rfl) 25 _ rfl _ rfl r3 4 _ Try.underlying25 size_nat ?_
 simp only [Act.put, pu]
 refine qw_call (by rfl) 31 _ _ rfl Try.func31 (by kernel_rfl) #[.int .i64 0] rfl _ hi0 ?_
 simp only [Act.put, pu]
 refine qw_value (by rfl) (.bool true) (fun w' => (exec_neq_nat _ _ _ rfl G 0 rfl rfl w').trans (by rw [h0])) ?_
 simp only [Act.put, pu]
 refine qw_move (by rfl) rfl rfl ?_
 simp only [Act.put, pu]
 refine qw_load (by rfl) 25 _ rfl _ rfl r3 4 _ Try.underlying25 size_nat ?_
 simp only [Act.put, pu]
 refine qw_call (by rfl) 31 _ _ rfl Try.func31 (by kernel_rfl) #[.int .i64 1] rfl _ hi1 ?_
 simp only [Act.put, pu]
 refine qw_value (by rfl) (.bool true) (fun w' => (exec_neq_nat _ _ _ rfl G 1 rfl rfl w').trans (by rw [h1])) ?_
 simp only [Act.put, pu]
 refine qw_pick true (v := .bool true) (by rfl) rfl rfl rfl ?_
 simp only [Act.put, pu]
 refine qw_move (by rfl) rfl rfl ?_
 simp only [Act.put, pu]
 refine qw_load (by rfl) 25 _ rfl _ rfl r3 4 _ Try.underlying25 size_nat ?_
 simp only [Act.put, pu]
 refine qw_loadm (by rfl) 27 _ rfl _ (0) rfl r1 (paC ab n c G) (part_all _) _ Try.underlying27 rfl size_pa ?_
 simp only [Act.put, pu]
 refine qw_callK (by rfl) 17 _ _ rfl Try.func17 (by kernel_rfl) #[.agg (paC ab n c G)] rfl _ (fun w' hb => hp w' (below_on sb (Nat.le_refl _) hb)) ?_
 simp only [Act.put, pu]
 refine qw_call (by rfl) 44 _ _ rfl Try.func44 (by kernel_rfl) #[.agg (natC G), .agg (natC PP)] rfl _ hcm ?_
 simp only [Act.put, pu]
 refine qw_value (by rfl) (.bool true) (exec_lt_b _ _ _ _ rfl CC 0 rfl rfl true h2) ?_
 simp only [Act.put, pu]
 refine qw_pick true (v := .bool true) (by rfl) rfl rfl rfl ?_
 simp only [Act.put, pu]
 refine qw_move (by rfl) rfl rfl ?_
 simp only [Act.put, pu]
 refine qw_load (by rfl) 25 _ rfl _ rfl r3 4 _ Try.underlying25 size_nat ?_
 simp only [Act.put, pu]
 refine qw_loadm (by rfl) 27 _ rfl _ (0) rfl r1 (paC ab n c G) (part_all _) _ Try.underlying27 rfl size_pa ?_
 simp only [Act.put, pu]
 refine qw_callK (by rfl) 19 _ _ rfl Try.func19 (by kernel_rfl) #[.agg (paC ab n c G)] rfl _ (fun w' hb => hq w' (below_on sb (Nat.le_refl _) hb)) ?_
 simp only [Act.put, pu]
 refine qw_loadm (by rfl) 27 _ rfl _ (0) rfl r1 (paC ab n c G) (part_all _) _ Try.underlying27 rfl size_pa ?_
 simp only [Act.put, pu]
 refine qw_callK (by rfl) 17 _ _ rfl Try.func17 (by kernel_rfl) #[.agg (paC ab n c G)] rfl _ (fun w' hb => hp w' (below_on sb (Nat.le_refl _) hb)) ?_
 simp only [Act.put, pu]
 refine qw_call (by rfl) 45 _ _ rfl Try.func45 (by kernel_rfl) #[.agg (natC G), .agg (natC QQ), .agg (natC PP)] rfl _ hex ?_
 simp only [Act.put, pu]
 refine qw_call (by rfl) 31 _ _ rfl Try.func31 (by kernel_rfl) #[.int .i64 1] rfl _ hi1 ?_
 simp only [Act.put, pu]
 refine qw_value (by rfl) (.bool B4) (fun w' => (exec_eql_nat _ _ _ rfl ZZ 1 rfl rfl w').trans (by rw [h3])) ?_
 simp only [Act.put, pu]
 refine qw_pick true (v := .bool B4) (by rfl) rfl rfl rfl ?_
 simp only [Act.put, pu]
 refine qw_asg (by rfl) rfl rfl ?_
 simp only [Act.put, pu]
 refine qw_nil ?_
 intro w9 hqb
 replace sb := below_on sb (Nat.le_refl _) hqb
 clear hqb
 go_wp2
 go_ret
 exact ⟨rfl, sb⟩
theorem may_any (n c : Nat) (ab : Option Addr) (G : Nat) (N : Nat → Nat) (A : Nat → Int) (gb ob : Nat) (bcs : Array Value) (tb : TypeId) (w : World) (hn : n < 9223372036854775808) (hG : G < 2 ^ 256) (hL : LinksAt w ab n N A gb ob bcs tb) (hl62 : ∀ k, k < n → N k < 4611686018427387904) :
  Calls Try.prog 28 #[.agg (paC ab n c G)] w fun e w' => e = .returned (.bool (grN n N A G)) ∧ Below w.heap.size w w' := by
 by_cases h2 : n < 2
 ·have e : grN n N A G = false := by unfold grN; rw [decide_eq_false (by omega), Bool.false_and]
  rw [e]
  exact may_few n c ab G w h2
 have hch := fun w' (hb : Below w.heap.size w w') => rC_any n c ab N A gb ob bcs tb w' (hL.below hb) hl62
 unfold grN
 rw [decide_eq_true (show 2 ≤ n by omega), Bool.true_and]
 cases hc : chN n N A with
 | false =>
  rw [hc] at hch
  rw [Bool.false_and]
  exact may_chain n c ab G w (by omega) hch
 | true =>
 rw [hc] at hch
 rw [Bool.true_and]
 have hP := hL.lt (n - 1) (by omega)
 have hQ := hL.lt (n - 2) (by omega)
 have tP := (chN_isP hc (n - 1) (by omega)).1
 have hq := fun w' (hb : Below w.heap.size w w') => rQ_any n c ab G N A gb ob bcs tb w' (by omega) hn (hL.below hb)
 have hp := fun w' (hb : Below w.heap.size w w') => rP_any n c ab G N A gb ob bcs tb w' (by omega) hn (hL.below hb)
 have hle := fun w' => rlen_any (N (n - 2)) w' hQ
 have hcm := fun w' => rcmp_any G (N (n - 1)) w' hG hP
 have hex := fun w' => rexp_any G (N (n - 2)) (N (n - 1)) w' hG hQ (by omega) hP
 have hZ : G ^ N (n - 2) % N (n - 1) < 2 ^ 256 := Nat.lt_trans (Nat.mod_lt _ (by omega)) hP
 have h10 := len10 (N (n - 2))
 by_cases hb : (bitLen (N (n - 2)) : Int) < 10
 ·rw [← h10, decide_eq_false (by omega), Bool.false_and]
  exact may_short n c ab G _ _ w (by omega) hb hch hq hle
 rw [← h10, decide_eq_true (by omega), Bool.true_and]
 by_cases g0 : G = 0
 ·rw [decide_eq_false (by simp [g0]), Bool.false_and]
  exact may_g0 n c ab G _ _ _ _ _ w (by omega) hb (by rw [g0]; rfl) hch hq hle hp hcm hex
 by_cases g1 : G = 1
 ·rw [decide_eq_false (show ¬ (G ≠ 1) by simp [g1]), Bool.false_and, Bool.and_false]
  exact may_g1 n c ab G _ _ _ _ _ w (by omega) hb (neq_yes G 0 hG (by decide) g0) (by rw [g1]; rfl) hch hq hle hp hcm hex
 rw [decide_eq_true g0, decide_eq_true g1, Bool.true_and, Bool.true_and]
 by_cases gP : G < N (n - 1)
 ·rw [decide_eq_true gP, Bool.true_and]
  exact may_pw n c ab G _ _ _ _ _ _ w (by omega) hb (neq_yes G 0 hG (by decide) g0) (neq_yes G 1 hG (by decide) g1) (by rw [cmp_neg]; exact decide_eq_true gP) (eql_dec _ 1 hZ (by decide)) hch hq hle hp hcm hex
 ·rw [decide_eq_false gP, Bool.false_and]
  exact may_gP n c ab G _ _ _ _ _ w (by omega) hb (neq_yes G 0 hG (by decide) g0) (neq_yes G 1 hG (by decide) g1) (by rw [cmp_neg]; exact decide_eq_false gP) hch hq hle hp hcm hex
end Go.Proofs.Ytbmkebdfaokmhaa
