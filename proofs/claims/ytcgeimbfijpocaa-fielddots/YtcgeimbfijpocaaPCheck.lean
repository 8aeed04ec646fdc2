/- prime's begins and Check: chains. -/
import Derived.Test.YtcgeimbfijpocaaPStep
import Derived.Test.YtcgeimbfijpocaaGJ
import Derived.Test.YtcgeimbfijpocaaMRExp
namespace Go.Proofs.Ytcgeimbfijpocaa
open Go.RowKit
/-- The cells of a link. -/
def lkC (N : Nat) (z : Int) : Array Value := #[.int .u64 (lm N 0), .int .u64 (lm N 1), .int .u64 (lm N 2), .int .u64 (lm N 3), .int .i64 z]
theorem lk_n (N : Nat) (z : Int) : ∀ j v, (natC N).toList[j]? = some v → (lkC N z)[0 + j]? = some v := part4 rfl rfl rfl rfl
theorem lk_one (N : Nat) (z : Int) : (lkC N z).all (·.oneCell') = true := by simp [lkC, Value.oneCell']
theorem info_lk : (Try.prog.info? 69).map (fun i => (i.zero, i.size)) = some (some (.agg (lkC 0 0)), 5) := by kernel_rfl
theorem zero_lk (w : World) : (zeroValue 69).run Try.prog w = .ok (.agg (lkC 0 0)) w := (zero_of_info info_lk).1 w
theorem size_lk : (Try.prog.info? 69).map (·.size) = some 5 := (zero_of_info info_lk).2
theorem sl_link : Try.prog.underlying 25 = some (.slice (Try.prog.elem 25)) := by kernel_rfl
/-- The links that a slice tells. -/
structure LinksAt (w : World) (ab : Option Addr) (n : Nat) (N : Nat → Nat) (A : Nat → Int) (gb ob : Nat) (bcs : Array Value) (tb : TypeId) : Prop where
 at' : n = 0 ∨ (ab = some ⟨gb, ob, none⟩ ∧ RowR w gb bcs tb ∧ ∀ i, i < n → ∀ j v, (lkC (N i) (A i)).toList[j]? = some v → bcs[ob + i * 5 + j]? = some v)
 lt : ∀ i, i < n → N i < 2 ^ 256
theorem LinksAt.below {w w2 : World} {ab : Option Addr} {n : Nat} {N : Nat → Nat} {A : Nat → Int} {gb ob : Nat} {bcs : Array Value} {tb : TypeId} (h : LinksAt w ab n N A gb ob bcs tb) (hb : Below w.heap.size w w2) : LinksAt w2 ab n N A gb ob bcs tb :=
 ⟨h.at'.imp id fun ⟨h1, h2, h3⟩ => ⟨h1, h2.belowAll hb, h3⟩, h.lt⟩
theorem lk_part {bcs : Array Value} {off N : Nat} {z : Int} (h : ∀ j v, (lkC N z).toList[j]? = some v → bcs[off + j]? = some v) : ∀ j v, (natC N).toList[j]? = some v → bcs[off + j]? = some v := fun j v hv => by
 have := lk_n N z j v hv
 rw [Nat.zero_add, ← Array.getElem?_toList] at this
 exact h j v this
theorem lk_last {bcs : Array Value} {off N : Nat} {z : Int} (h : ∀ j v, (lkC N z).toList[j]? = some v → bcs[off + j]? = some v) : bcs[off + 4]? = some (.int .i64 z) := h 4 _ rfl
set_option maxRecDepth 100000 in
set_option maxHeartbeats 2000000 in
theorem begins_big (N : Nat) (z I : Int)  (w : World) 
  (hin : ∀ w', Calls Try.prog 71 #[.agg (natC N)] w' fun e w2 => e = .returned (.tuple #[.int .i64 I, .bool false]) ∧ Below w'.heap.size w' w2) :
  Calls Try.prog 47 #[.agg (lkC N z)] w fun e w' => e = .returned (.bool false) ∧ Below w.heap.size w w' := by
 go_enter Try.func47, Try.ntmps47
 (repeat ((fail_if_success with_reducible refine rg ?_); go_step))
 apply wp_region_mixp [] [_, _] trivial List.nodup_nil
 ·intro p
  refine mx_box 69 _ rfl _ rfl ?_
  simp only [Act.put, pu]
  refine mx_val (.bool false) (fun _ => rfl) ?_
  simp only [Act.put, pu]
  refine mx_end ?_
  intro w2 hkw hrw hnew hdis
  have n1 := hnew 0 rfl
  have zr1 : Row w2 (p 0) (lkC N z) 69 := hrw 1 (69, lkC N z) rfl
  have sb := hkw.below w.heap.size (Nat.le_refl _) (by simp)
  have b1 : w.heap.size ≤ p 0 := n1
  clear hkw hrw hnew hdis n1
  generalize p 0 = g1 at *
  have r1 := zr1
  clear zr1
  (repeat ((fail_if_success with_reducible refine rg ?_); go_step))
  apply wp_region_mixp [] [_, _, _, _, _, _, _, _] trivial List.nodup_nil
  ·intro p
   refine mx_val (.pointer (some ⟨g1, 0, none⟩)) (exec_field 69 _ 0 rfl g1 0 rfl _ Try.underlying69 _ rfl 3 Try.sizeOf24) ?_
   simp only [Act.put, pu]
   refine mx_loadm 24 _ rfl _ (0) rfl r1 (by simp <;> omega) (natC N) (lk_n N z) _ Try.underlying24 rfl size_nat ?_
   simp only [Act.put, pu]
   refine mx_call 71 _ _ rfl Try.func71 (by kernel_rfl) #[.agg (natC N)] rfl _ hin ?_
   simp only [Act.put, pu]
   refine mx_move rfl rfl ?_
   simp only [Act.put, pu]
   refine mx_ext rfl rfl rfl ?_
   simp only [Act.put, pu]
   refine mx_ext rfl rfl rfl ?_
   simp only [Act.put, pu]
   refine mx_asg rfl rfl ?_
   simp only [Act.put, pu]
   refine mx_asg rfl rfl ?_
   simp only [Act.put, pu]
   refine mx_end ?_
   intro w3 hkw hrw hnew hdis
   replace r1 := hkw.row r1 (by simp <;> omega)
   replace sb := sb.trans (hkw.below w.heap.size sb.size (by simp <;> omega))
   clear hkw hrw hnew hdis
   (repeat ((fail_if_success with_reducible refine rg ?_); go_step))
   refine wp_region_qp ?_
   refine qw_move (by rfl) rfl rfl ?_
   simp only [Act.put, pu]
   refine qw_move (by rfl) rfl rfl ?_
   simp only [Act.put, pu]
   refine qw_skip (by rfl) ?_
   simp only [Act.put, pu]
   refine qw_skip (by rfl) ?_
   simp only [Act.put, pu]
   refine qw_pick false (v := .bool false) (by rfl) rfl rfl rfl ?_
   simp only [Act.put, pu]
   refine qw_move (by rfl) rfl rfl ?_
   simp only [Act.put, pu]
   refine qw_skip (by rfl) ?_
   simp only [Act.put, pu]
   refine qw_skip (by rfl) ?_
   simp only [Act.put, pu]
   refine qw_skip (by rfl) ?_
   simp only [Act.put, pu]
   refine qw_pick false (v := .bool false) (by rfl) rfl rfl rfl ?_
   simp only [Act.put, pu]
   refine qw_asg (by rfl) rfl rfl ?_
   simp only [Act.put, pu]
   refine qw_nil ?_
   intro w4 hqb
   replace sb := below_on sb (Nat.le_refl _) hqb
   clear hqb
   go_wp2
   go_ret
   exact ⟨rfl, sb⟩
  ·rfl
 ·rfl
set_option maxRecDepth 100000 in
set_option maxHeartbeats 2000000 in
theorem begins_not (N : Nat) (z I : Int)  (w : World) 
  (hin : ∀ w', Calls Try.prog 71 #[.agg (natC N)] w' fun e w2 => e = .returned (.tuple #[.int .i64 I, .bool true]) ∧ Below w'.heap.size w' w2)
  (hsm : ∀ w', Calls Try.prog 72 #[.int .i64 I] w' fun e w2 => e = .returned (.bool false) ∧ Below w'.heap.size w' w2) :
  Calls Try.prog 47 #[.agg (lkC N z)] w fun e w' => e = .returned (.bool false) ∧ Below w.heap.size w w' := by
 go_enter Try.func47, Try.ntmps47
 (repeat ((fail_if_success with_reducible refine rg ?_); go_step))
 apply wp_region_mixp [] [_, _] trivial List.nodup_nil
 ·intro p
  refine mx_box 69 _ rfl _ rfl ?_
  simp only [Act.put, pu]
  refine mx_val (.bool false) (fun _ => rfl) ?_
  simp only [Act.put, pu]
  refine mx_end ?_
  intro w2 hkw hrw hnew hdis
  have n1 := hnew 0 rfl
  have zr1 : Row w2 (p 0) (lkC N z) 69 := hrw 1 (69, lkC N z) rfl
  have sb := hkw.below w.heap.size (Nat.le_refl _) (by simp)
  have b1 : w.heap.size ≤ p 0 := n1
  clear hkw hrw hnew hdis n1
  generalize p 0 = g1 at *
  have r1 := zr1
  clear zr1
  (repeat ((fail_if_success with_reducible refine rg ?_); go_step))
  apply wp_region_mixp [] [_, _, _, _, _, _, _, _] trivial List.nodup_nil
  ·intro p
   refine mx_val (.pointer (some ⟨g1, 0, none⟩)) (exec_field 69 _ 0 rfl g1 0 rfl _ Try.underlying69 _ rfl 3 Try.sizeOf24) ?_
   simp only [Act.put, pu]
   refine mx_loadm 24 _ rfl _ (0) rfl r1 (by simp <;> omega) (natC N) (lk_n N z) _ Try.underlying24 rfl size_nat ?_
   simp only [Act.put, pu]
   refine mx_call 71 _ _ rfl Try.func71 (by kernel_rfl) #[.agg (natC N)] rfl _ hin ?_
   simp only [Act.put, pu]
   refine mx_move rfl rfl ?_
   simp only [Act.put, pu]
   refine mx_ext rfl rfl rfl ?_
   simp only [Act.put, pu]
   refine mx_ext rfl rfl rfl ?_
   simp only [Act.put, pu]
   refine mx_asg rfl rfl ?_
   simp only [Act.put, pu]
   refine mx_asg rfl rfl ?_
   simp only [Act.put, pu]
   refine mx_end ?_
   intro w3 hkw hrw hnew hdis
   replace r1 := hkw.row r1 (by simp <;> omega)
   replace sb := sb.trans (hkw.below w.heap.size sb.size (by simp <;> omega))
   clear hkw hrw hnew hdis
   (repeat ((fail_if_success with_reducible refine rg ?_); go_step))
   refine wp_region_qp ?_
   refine qw_move (by rfl) rfl rfl ?_
   simp only [Act.put, pu]
   refine qw_move (by rfl) rfl rfl ?_
   simp only [Act.put, pu]
   refine qw_move (by rfl) rfl rfl ?_
   simp only [Act.put, pu]
   refine qw_call (by rfl) 72 _ _ rfl Try.func72 (by kernel_rfl) #[.int .i64 I] rfl _ hsm ?_
   simp only [Act.put, pu]
   refine qw_pick true (v := .bool false) (by rfl) rfl rfl rfl ?_
   simp only [Act.put, pu]
   refine qw_move (by rfl) rfl rfl ?_
   simp only [Act.put, pu]
   refine qw_skip (by rfl) ?_
   simp only [Act.put, pu]
   refine qw_skip (by rfl) ?_
   simp only [Act.put, pu]
   refine qw_skip (by rfl) ?_
   simp only [Act.put, pu]
   refine qw_pick false (v := .bool false) (by rfl) rfl rfl rfl ?_
   simp only [Act.put, pu]
   refine qw_asg (by rfl) rfl rfl ?_
   simp only [Act.put, pu]
   refine qw_nil ?_
   intro w4 hqb
   replace sb := below_on sb (Nat.le_refl _) hqb
   clear hqb
   go_wp2
   go_ret
   exact ⟨rfl, sb⟩
  ·rfl
 ·rfl
set_option maxRecDepth 100000 in
set_option maxHeartbeats 2000000 in
theorem begins_yes (N : Nat) (z I : Int)  (w : World) 
  (hin : ∀ w', Calls Try.prog 71 #[.agg (natC N)] w' fun e w2 => e = .returned (.tuple #[.int .i64 I, .bool true]) ∧ Below w'.heap.size w' w2)
  (hsm : ∀ w', Calls Try.prog 72 #[.int .i64 I] w' fun e w2 => e = .returned (.bool true) ∧ Below w'.heap.size w' w2) :
  Calls Try.prog 47 #[.agg (lkC N z)] w fun e w' => e = .returned (.bool (decide (z = 0))) ∧ Below w.heap.size w w' := by
 go_enter Try.func47, Try.ntmps47
 (repeat ((fail_if_success with_reducible refine rg ?_); go_step))
 apply wp_region_mixp [] [_, _] trivial List.nodup_nil
 ·intro p
  refine mx_box 69 _ rfl _ rfl ?_
  simp only [Act.put, pu]
  refine mx_val (.bool false) (fun _ => rfl) ?_
  simp only [Act.put, pu]
  refine mx_end ?_
  intro w2 hkw hrw hnew hdis
  have n1 := hnew 0 rfl
  have zr1 : Row w2 (p 0) (lkC N z) 69 := hrw 1 (69, lkC N z) rfl
  have sb := hkw.below w.heap.size (Nat.le_refl _) (by simp)
  have b1 : w.heap.size ≤ p 0 := n1
  clear hkw hrw hnew hdis n1
  generalize p 0 = g1 at *
  have r1 := zr1
  clear zr1
  (repeat ((fail_if_success with_reducible refine rg ?_); go_step))
  apply wp_region_mixp [] [_, _, _, _, _, _, _, _] trivial List.nodup_nil
  ·intro p
   refine mx_val (.pointer (some ⟨g1, 0, none⟩)) (exec_field 69 _ 0 rfl g1 0 rfl _ Try.underlying69 _ rfl 3 Try.sizeOf24) ?_
   simp only [Act.put, pu]
   refine mx_loadm 24 _ rfl _ (0) rfl r1 (by simp <;> omega) (natC N) (lk_n N z) _ Try.underlying24 rfl size_nat ?_
   simp only [Act.put, pu]
   refine mx_call 71 _ _ rfl Try.func71 (by kernel_rfl) #[.agg (natC N)] rfl _ hin ?_
   simp only [Act.put, pu]
   refine mx_move rfl rfl ?_
   simp only [Act.put, pu]
   refine mx_ext rfl rfl rfl ?_
   simp only [Act.put, pu]
   refine mx_ext rfl rfl rfl ?_
   simp only [Act.put, pu]
   refine mx_asg rfl rfl ?_
   simp only [Act.put, pu]
   refine mx_asg rfl rfl ?_
   simp only [Act.put, pu]
   refine mx_end ?_
   intro w3 hkw hrw hnew hdis
   replace r1 := hkw.row r1 (by simp <;> omega)
   replace sb := sb.trans (hkw.below w.heap.size sb.size (by simp <;> omega))
   clear hkw hrw hnew hdis
   (repeat ((fail_if_success with_reducible refine rg ?_); go_step))
   refine wp_region_qp ?_
   refine qw_move (by rfl) rfl rfl ?_
   simp only [Act.put, pu]
   refine qw_move (by rfl) rfl rfl ?_
   simp only [Act.put, pu]
   refine qw_move (by rfl) rfl rfl ?_
   simp only [Act.put, pu]
   refine qw_call (by rfl) 72 _ _ rfl Try.func72 (by kernel_rfl) #[.int .i64 I] rfl _ hsm ?_
   simp only [Act.put, pu]
   refine qw_pick true (v := .bool true) (by rfl) rfl rfl rfl ?_
   simp only [Act.put, pu]
   refine qw_move (by rfl) rfl rfl ?_
   simp only [Act.put, pu]
   refine qw_value (by rfl) (.pointer (some ⟨g1, 4, none⟩)) (exec_field 69 _ 1 rfl g1 0 rfl _ Try.underlying69 _ rfl 0 Try.sizeOf3) ?_
   simp only [Act.put, pu]
   refine qw_loadc (by rfl) 3 _ rfl _ (4) rfl r1 (.int .i64 z) rfl Try.isAgg3 ?_
   simp only [Act.put, pu]
   refine qw_value (by rfl) (.bool (decide (z = 0))) (exec_eql_k .i64 _ _ _ _ rfl z 0 rfl rfl _ rfl) ?_
   simp only [Act.put, pu]
   refine qw_pick true (v := .bool (decide (z = 0))) (by rfl) rfl rfl rfl ?_
   simp only [Act.put, pu]
   refine qw_asg (by rfl) rfl rfl ?_
   simp only [Act.put, pu]
   refine qw_nil ?_
   intro w4 hqb
   replace sb := below_on sb (Nat.le_refl _) hqb
   clear hqb
   go_wp2
   go_ret
   exact ⟨rfl, sb⟩
  ·rfl
 ·rfl
/-- Whether a link may be a chain's first one. -/
theorem begins_any (N : Nat) (z : Int) (w : World) (hN : N < 2 ^ 256) :
  Calls Try.prog 47 #[.agg (lkC N z)] w fun e w' => e = .returned (.bool (smN N && decide (z = 0))) ∧ Below w.heap.size w w' := by
 have hin := fun w' => nint_any N w' hN
 by_cases h : N < 9223372036854775808
 ·rw [(low_small N h).1, (low_small N h).2] at hin
  have hsm := fun w' => small_any (N : Int) w'
  rw [smI_nat] at hsm
  cases hb : smN N with
  | false => rw [hb] at hsm; exact begins_not N z N w hin hsm
  | true => rw [hb] at hsm; exact begins_yes N z N w hin hsm
 ·rw [(low_great N h).1, (low_great N h).2] at hin
  have : smN N = false := by
   unfold smN
   rw [decide_eq_false (show ¬ N < 65536 by omega), Bool.false_and, Bool.and_false]
  rw [this]
  exact begins_big N z 0 w hin
/-- OK, or ErrBad. -/
def errC (b : Bool) : Int := if b = true then 0 else 4
set_option maxRecDepth 100000 in
set_option maxHeartbeats 2000000 in
theorem check_none (n c : Nat) (ab : Option Addr) (w : World) (h : n < 1) :
  Calls Try.prog 28 #[.slice ab n c] w fun e w' => e = .returned (.int .i64 4) ∧ Below w.heap.size w w' := by
 go_enter Try.func28, Try.ntmps28
 (repeat ((fail_if_success with_reducible refine rg ?_); go_step))
 apply wp_region_mixp [] [_] trivial List.nodup_nil
 ·intro p
  refine mx_val (.int .i64 0) (fun _ => rfl) ?_
  simp only [Act.put, pu]
  refine mx_end ?_
  intro w2 hkw hrw hnew hdis
  have sb := hkw.below w.heap.size (Nat.le_refl _) (by simp)
  clear hkw hrw hnew hdis
  (repeat ((fail_if_success with_reducible refine rg ?_); go_step))
  refine wp_region_qp ?_
  refine qw_move (by rfl) rfl rfl ?_
  simp only [Act.put, pu]
  refine qw_value (by rfl) (.int .i64 n) (exec_len_s 25 _ rfl ab n c rfl sl_link) ?_
  simp only [Act.put, pu]
  refine qw_value (by rfl) (.bool true) (exec_lt_b _ _ _ _ rfl n 1 rfl rfl true (decide_eq_true (by omega))) ?_
  simp only [Act.put, pu]
  refine qw_move (by rfl) rfl rfl ?_
  simp only [Act.put, pu]
  refine qw_skip (by rfl) ?_
  simp only [Act.put, pu]
  refine qw_skip (by rfl) ?_
  simp only [Act.put, pu]
  refine qw_skip (by rfl) ?_
  simp only [Act.put, pu]
  refine qw_pick true (v := .bool true) (by rfl) rfl rfl rfl ?_
  simp only [Act.put, pu]
  refine qw_move (by rfl) rfl rfl ?_
  simp only [Act.put, pu]
  refine qw_skip (by rfl) ?_
  simp only [Act.put, pu]
  refine qw_skip (by rfl) ?_
  simp only [Act.put, pu]
  refine qw_skip (by rfl) ?_
  simp only [Act.put, pu]
  refine qw_skip (by rfl) ?_
  simp only [Act.put, pu]
  refine qw_skip (by rfl) ?_
  simp only [Act.put, pu]
  refine qw_pick true (v := .bool true) (by rfl) rfl rfl rfl ?_
  simp only [Act.put, pu]
  refine qw_nil ?_
  intro w3 hqb
  replace sb := below_on sb (Nat.le_refl _) hqb
  clear hqb
  go_wp2
  go_ret
  exact ⟨rfl, sb⟩
 ·rfl
set_option maxRecDepth 100000 in
set_option maxHeartbeats 2000000 in
theorem check_long (n c : Nat) (ab : Option Addr) (w : World) (h : 8 < n) :
  Calls Try.prog 28 #[.slice ab n c] w fun e w' => e = .returned (.int .i64 4) ∧ Below w.heap.size w w' := by
 go_enter Try.func28, Try.ntmps28
 (repeat ((fail_if_success with_reducible refine rg ?_); go_step))
 apply wp_region_mixp [] [_] trivial List.nodup_nil
 ·intro p
  refine mx_val (.int .i64 0) (fun _ => rfl) ?_
  simp only [Act.put, pu]
  refine mx_end ?_
  intro w2 hkw hrw hnew hdis
  have sb := hkw.below w.heap.size (Nat.le_refl _) (by simp)
  clear hkw hrw hnew hdis
  (repeat ((fail_if_success with_reducible refine rg ?_); go_step))
  refine wp_region_qp ?_
  refine qw_move (by rfl) rfl rfl ?_
  simp only [Act.put, pu]
  refine qw_value (by rfl) (.int .i64 n) (exec_len_s 25 _ rfl ab n c rfl sl_link) ?_
  simp only [Act.put, pu]
  refine qw_value (by rfl) (.bool false) (exec_lt_b _ _ _ _ rfl n 1 rfl rfl false (decide_eq_false (by omega))) ?_
  simp only [Act.put, pu]
  refine qw_move (by rfl) rfl rfl ?_
  simp only [Act.put, pu]
  refine qw_move (by rfl) rfl rfl ?_
  simp only [Act.put, pu]
  refine qw_value (by rfl) (.int .i64 n) (exec_len_s 25 _ rfl ab n c rfl sl_link) ?_
  simp only [Act.put, pu]
  refine qw_value (by rfl) (.bool true) (exec_gt_i _ _ _ _ rfl n 8 rfl rfl true (decide_eq_true (by omega))) ?_
  simp only [Act.put, pu]
  refine qw_pick false (v := .bool true) (by rfl) rfl rfl rfl ?_
  simp only [Act.put, pu]
  refine qw_move (by rfl) rfl rfl ?_
  simp only [Act.put, pu]
  refine qw_skip (by rfl) ?_
  simp only [Act.put, pu]
  refine qw_skip (by rfl) ?_
  simp only [Act.put, pu]
  refine qw_skip (by rfl) ?_
  simp only [Act.put, pu]
  refine qw_skip (by rfl) ?_
  simp only [Act.put, pu]
  refine qw_skip (by rfl) ?_
  simp only [Act.put, pu]
  refine qw_pick true (v := .bool true) (by rfl) rfl rfl rfl ?_
  simp only [Act.put, pu]
  refine qw_nil ?_
  intro w3 hqb
  replace sb := below_on sb (Nat.le_refl _) hqb
  clear hqb
  go_wp2
  go_ret
  exact ⟨rfl, sb⟩
 ·rfl
set_option maxRecDepth 100000 in
set_option maxHeartbeats 2000000 in
theorem check_first (n c : Nat) (ab : Option Addr) (N : Nat → Nat) (A : Nat → Int) (gb ob : Nat) (bcs : Array Value) (tb : TypeId) (w : World) (h1 : 1 ≤ n) (h8 : n ≤ 8) (hL : LinksAt w ab n N A gb ob bcs tb)
  (hbe : ∀ w', Calls Try.prog 47 #[.agg (lkC (N 0) (A 0))] w' fun e w2 => e = .returned (.bool false) ∧ Below w'.heap.size w' w2) :
  Calls Try.prog 28 #[.slice ab n c] w fun e w' => e = .returned (.int .i64 4) ∧ Below w.heap.size w w' := by
 have HL : Hid (LinksAt w ab n N A gb ob bcs tb) := hL
 clear hL
 go_enter Try.func28, Try.ntmps28
 (repeat ((fail_if_success with_reducible refine rg ?_); go_step))
 apply wp_region_mixp [] [_] trivial List.nodup_nil
 ·intro p
  refine mx_val (.int .i64 0) (fun _ => rfl) ?_
  simp only [Act.put, pu]
  refine mx_end ?_
  intro w2 hkw hrw hnew hdis
  have sb := hkw.below w.heap.size (Nat.le_refl _) (by simp)
  clear hkw hrw hnew hdis
  obtain h0 | ⟨rfl, rB, hat⟩ := (HL.out.below sb).at'
  ·omega
  (repeat ((fail_if_success with_reducible refine rg ?_); go_step))
  refine wp_region_qp ?_
  refine qw_move (by rfl) rfl rfl ?_
  simp only [Act.put, pu]
  refine qw_value (by rfl) (.int .i64 n) (exec_len_s 25 _ rfl (some ⟨gb, ob, none⟩) n c rfl sl_link) ?_
  simp only [Act.put, pu]
  refine qw_value (by rfl) (.bool false) (exec_lt_b _ _ _ _ rfl n 1 rfl rfl false (decide_eq_false (by omega))) ?_
  simp only [Act.put, pu]
  refine qw_move (by rfl) rfl rfl ?_
  simp only [Act.put, pu]
  refine qw_move (by rfl) rfl rfl ?_
  simp only [Act.put, pu]
  refine qw_value (by rfl) (.int .i64 n) (exec_len_s 25 _ rfl (some ⟨gb, ob, none⟩) n c rfl sl_link) ?_
  simp only [Act.put, pu]
  refine qw_value (by rfl) (.bool false) (exec_gt_i _ _ _ _ rfl n 8 rfl rfl false (decide_eq_false (by omega))) ?_
  simp only [Act.put, pu]
  refine qw_pick false (v := .bool false) (by rfl) rfl rfl rfl ?_
  simp only [Act.put, pu]
  refine qw_move (by rfl) rfl rfl ?_
  simp only [Act.put, pu]
  refine qw_move (by rfl) rfl rfl ?_
  simp only [Act.put, pu]
  refine qw_value (by rfl) (.pointer (some ⟨gb, ob + 0 * 5, none⟩)) (exec_index_s 25 _ _ rfl gb ob n c rfl 0 rfl (by omega) _ Try.underlying25 5 Try.sizeOf69) ?_
  simp only [Act.put, pu]
  refine qw_loadmR (by rfl) 69 _ rfl _ ((ob + 0 * 5)) rfl rB (lkC (N 0) (A 0)) (hat 0 (by omega)) _ Try.underlying69 rfl size_lk ?_
  simp only [Act.put, pu]
  refine qw_call (by rfl) 47 _ _ rfl Try.func47 (by kernel_rfl) #[.agg (lkC (N 0) (A 0))] rfl _ hbe ?_
  simp only [Act.put, pu]
  refine qw_value (by rfl) (.bool true) (exec_not _ _ rfl false rfl) ?_
  simp only [Act.put, pu]
  refine qw_pick false (v := .bool true) (by rfl) rfl rfl rfl ?_
  simp only [Act.put, pu]
  refine qw_nil ?_
  intro w3 hqb
  replace sb := below_on sb (Nat.le_refl _) hqb
  clear hqb
  go_wp2
  go_ret
  exact ⟨rfl, sb⟩
 ·rfl
set_option maxRecDepth 100000 in
set_option maxHeartbeats 2000000 in
theorem check_rest (n c : Nat) (ab : Option Addr) (N : Nat → Nat) (A : Nat → Int) (gb ob : Nat) (bcs : Array Value) (tb : TypeId) (w : World) (h1 : 1 ≤ n) (h8 : n ≤ 8) (hL : LinksAt w ab n N A gb ob bcs tb)
  (hbe : ∀ w', Calls Try.prog 47 #[.agg (lkC (N 0) (A 0))] w' fun e w2 => e = .returned (.bool true) ∧ Below w'.heap.size w' w2) :
  Calls Try.prog 28 #[.slice ab n c] w fun e w' => e = .returned (.int .i64 (errC (lkN N A (n - 1)))) ∧ Below w.heap.size w w' := by
 have HL : Hid (LinksAt w ab n N A gb ob bcs tb) := hL
 clear hL
 go_enter Try.func28, Try.ntmps28
 (repeat ((fail_if_success with_reducible refine rg ?_); go_step))
 apply wp_region_mixp [] [_] trivial List.nodup_nil
 ·intro p
  refine mx_val (.int .i64 0) (fun _ => rfl) ?_
  simp only [Act.put, pu]
  refine mx_end ?_
  intro w2 hkw hrw hnew hdis
  have sb := hkw.below w.heap.size (Nat.le_refl _) (by simp)
  clear hkw hrw hnew hdis
  obtain h0 | ⟨rfl, rB, hat⟩ := (HL.out.below sb).at'
  ·omega
  (repeat ((fail_if_success with_reducible refine rg ?_); go_step))
  refine wp_region_qp ?_
  refine qw_move (by rfl) rfl rfl ?_
  simp only [Act.put, pu]
  refine qw_value (by rfl) (.int .i64 n) (exec_len_s 25 _ rfl (some ⟨gb, ob, none⟩) n c rfl sl_link) ?_
  simp only [Act.put, pu]
  refine qw_value (by rfl) (.bool false) (exec_lt_b _ _ _ _ rfl n 1 rfl rfl false (decide_eq_false (by omega))) ?_
  simp only [Act.put, pu]
  refine qw_move (by rfl) rfl rfl ?_
  simp only [Act.put, pu]
  refine qw_move (by rfl) rfl rfl ?_
  simp only [Act.put, pu]
  refine qw_value (by rfl) (.int .i64 n) (exec_len_s 25 _ rfl (some ⟨gb, ob, none⟩) n c rfl sl_link) ?_
  simp only [Act.put, pu]
  refine qw_value (by rfl) (.bool false) (exec_gt_i _ _ _ _ rfl n 8 rfl rfl false (decide_eq_false (by omega))) ?_
  simp only [Act.put, pu]
  refine qw_pick false (v := .bool false) (by rfl) rfl rfl rfl ?_
  simp only [Act.put, pu]
  refine qw_move (by rfl) rfl rfl ?_
  simp only [Act.put, pu]
  refine qw_move (by rfl) rfl rfl ?_
  simp only [Act.put, pu]
  refine qw_value (by rfl) (.pointer (some ⟨gb, ob + 0 * 5, none⟩)) (exec_index_s 25 _ _ rfl gb ob n c rfl 0 rfl (by omega) _ Try.underlying25 5 Try.sizeOf69) ?_
  simp only [Act.put, pu]
  refine qw_loadmR (by rfl) 69 _ rfl _ ((ob + 0 * 5)) rfl rB (lkC (N 0) (A 0)) (hat 0 (by omega)) _ Try.underlying69 rfl size_lk ?_
  simp only [Act.put, pu]
  refine qw_call (by rfl) 47 _ _ rfl Try.func47 (by kernel_rfl) #[.agg (lkC (N 0) (A 0))] rfl _ hbe ?_
  simp only [Act.put, pu]
  refine qw_value (by rfl) (.bool false) (exec_not _ _ rfl true rfl) ?_
  simp only [Act.put, pu]
  refine qw_pick false (v := .bool false) (by rfl) rfl rfl rfl ?_
  simp only [Act.put, pu]
  refine qw_nil ?_
  intro w3 hqb
  replace sb := below_on sb (Nat.le_refl _) hqb
  clear hqb
  clear rB hat hbe
  (repeat ((fail_if_success with_reducible refine rg ?_); go_step))
  apply wp_region_mixp [] [_, _, _, _] trivial List.nodup_nil
  ·intro p
   refine mx_move rfl rfl ?_
   simp only [Act.put, pu]
   refine mx_val (.int .i64 n) (exec_len_s 25 _ rfl (some ⟨gb, ob, none⟩) n c rfl sl_link) ?_
   simp only [Act.put, pu]
   refine mx_val (.int .i64 (n - 1 : Nat)) (exec_sub_in _ _ _ _ rfl n 1 rfl rfl (by omega) (by omega)) ?_
   simp only [Act.put, pu]
   refine mx_val (.int .i64 0) (fun _ => rfl) ?_
   simp only [Act.put, pu]
   refine mx_end ?_
   intro w3b hkw hrw hnew hdis
   replace sb := sb.trans (hkw.below w.heap.size sb.size (by simp <;> omega))
   clear hkw hrw hnew hdis
   go_wp2_with fail
   go_loopg [22] (n - 1) (fun g s22 wr => ∃ k : Nat, k + g = n - 1 ∧ s22 = .int .i64 k ∧ lkN N A k = true ∧ Below w.heap.size w wr)
   case atStart => exact ⟨0, by omega, rfl, rfl, sb⟩
   case round =>
    clear sb
    obtain ⟨k, hk, rfl, hlk, sb⟩ := hrel
    cases gk with
    | zero =>
     have hk' : k = n - 1 := by omega
     have HF : Hid (errC (lkN N A (n - 1)) = 0) := by show errC (lkN N A (n - 1)) = 0; rw [← hk', hlk]; rfl
     (repeat ((fail_if_success with_reducible refine rg ?_); go_step))
     apply wp_region_mixp [] [_] trivial List.nodup_nil
     ·intro p
      refine mx_val (.bool false) (exec_lt_b _ _ _ _ rfl k (n - 1 : Nat) rfl rfl false (decide_eq_false (by omega))) ?_
      simp only [Act.put, pu]
      refine mx_end ?_
      intro w4 hkw hrw hnew hdis
      replace sb := sb.trans (hkw.below w.heap.size sb.size (by simp <;> omega))
      clear hkw hrw hnew hdis
      go_wp2
      go_ret
      exact ⟨by rw [HF.out]; rfl, sb⟩
     ·rfl
    | succ g =>
     have hst := fun w' => step_any (N (k + 1)) (N k) (A (k + 1)) w' (HL.out.lt _ (by omega)) (HL.out.lt _ (by omega))
     cases hb : stN (N (k + 1)) (N k) (A (k + 1)) with
     | true =>
      rw [hb] at hst
      replace hlk : lkN N A (k + 1) = true := by unfold lkN; rw [hlk, hb]; rfl
      clear hb
      (repeat ((fail_if_success with_reducible refine rg ?_); go_step))
      apply wp_region_mixp [] [_] trivial List.nodup_nil
      ·intro p
       refine mx_val (.bool true) (exec_lt_b _ _ _ _ rfl k (n - 1 : Nat) rfl rfl true (decide_eq_true (by omega))) ?_
       simp only [Act.put, pu]
       refine mx_end ?_
       intro w4 hkw hrw hnew hdis
       replace sb := sb.trans (hkw.below w.heap.size sb.size (by simp <;> omega))
       clear hkw hrw hnew hdis
       (repeat ((fail_if_success with_reducible refine rg ?_); go_step))
       apply wp_region_mixp [] [_, _] trivial List.nodup_nil
       ·intro p
        refine mx_move rfl rfl ?_
        simp only [Act.put, pu]
        refine mx_asg rfl rfl ?_
        simp only [Act.put, pu]
        refine mx_end ?_
        intro w5 hkw hrw hnew hdis
        replace sb := sb.trans (hkw.below w.heap.size sb.size (by simp <;> omega))
        clear hkw hrw hnew hdis
        obtain h0 | ⟨_, rB, hat⟩ := (HL.out.below sb).at'
        ·omega
        (repeat ((fail_if_success with_reducible refine rg ?_); go_step))
        refine wp_region_qw (by kernel_rfl) (by kernel_rfl) ?_
        refine qw_move (by rfl) rfl rfl ?_
        simp only [Act.put, pu]
        refine qw_move (by rfl) rfl rfl ?_
        simp only [Act.put, pu]
        refine qw_value (by rfl) (.int .i64 ((k + 1 : Nat) : Int)) (exec_add_in _ _ _ _ rfl k 1 rfl rfl (by omega)) ?_
        simp only [Act.put, pu]
        refine qw_value (by rfl) (.pointer (some ⟨gb, ob + (k + 1) * 5, none⟩)) (exec_index_s 25 _ _ rfl gb ob n c rfl (k + 1) rfl (by omega) _ Try.underlying25 5 Try.sizeOf69) ?_
        simp only [Act.put, pu]
        refine qw_value (by rfl) (.pointer (some ⟨gb, ob + (k + 1) * 5, none⟩)) (exec_field 69 _ 0 rfl gb (ob + (k + 1) * 5) rfl _ Try.underlying69 _ rfl 3 Try.sizeOf24) ?_
        simp only [Act.put, pu]
        refine qw_loadmR (by rfl) 24 _ rfl _ ((ob + (k + 1) * 5)) rfl rB (natC (N (k + 1))) (lk_part (hat (k + 1) (by omega))) _ Try.underlying24 rfl size_nat ?_
        simp only [Act.put, pu]
        refine qw_move (by rfl) rfl rfl ?_
        simp only [Act.put, pu]
        refine qw_move (by rfl) rfl rfl ?_
        simp only [Act.put, pu]
        refine qw_value (by rfl) (.pointer (some ⟨gb, ob + (k) * 5, none⟩)) (exec_index_s 25 _ _ rfl gb ob n c rfl (k) rfl (by omega) _ Try.underlying25 5 Try.sizeOf69) ?_
        simp only [Act.put, pu]
        refine qw_value (by rfl) (.pointer (some ⟨gb, ob + (k) * 5, none⟩)) (exec_field 69 _ 0 rfl gb (ob + (k) * 5) rfl _ Try.underlying69 _ rfl 3 Try.sizeOf24) ?_
        simp only [Act.put, pu]
        refine qw_loadmR (by rfl) 24 _ rfl _ ((ob + (k) * 5)) rfl rB (natC (N k)) (lk_part (hat k (by omega))) _ Try.underlying24 rfl size_nat ?_
        simp only [Act.put, pu]
        refine qw_move (by rfl) rfl rfl ?_
        simp only [Act.put, pu]
        refine qw_move (by rfl) rfl rfl ?_
        simp only [Act.put, pu]
        refine qw_value (by rfl) (.int .i64 ((k + 1 : Nat) : Int)) (exec_add_in _ _ _ _ rfl k 1 rfl rfl (by omega)) ?_
        simp only [Act.put, pu]
        refine qw_value (by rfl) (.pointer (some ⟨gb, ob + (k + 1) * 5, none⟩)) (exec_index_s 25 _ _ rfl gb ob n c rfl (k + 1) rfl (by omega) _ Try.underlying25 5 Try.sizeOf69) ?_
        simp only [Act.put, pu]
        refine qw_value (by rfl) (.pointer (some ⟨gb, ob + (k + 1) * 5 + 4, none⟩)) (exec_field 69 _ 1 rfl gb (ob + (k + 1) * 5) rfl _ Try.underlying69 _ rfl 0 Try.sizeOf3) ?_
        simp only [Act.put, pu]
        refine qw_loadcR (by rfl) 3 _ rfl _ (ob + (k + 1) * 5 + 4) rfl rB (.int .i64 (A (k + 1))) (lk_last (hat (k + 1) (by omega))) Try.isAgg3 ?_
        simp only [Act.put, pu]
        refine qw_call (by rfl) 48 _ _ rfl Try.func48 (by kernel_rfl) #[.agg (natC (N (k + 1))), .agg (natC (N k)), .int .i64 (A (k + 1))] rfl _ hst ?_
        simp only [Act.put, pu]
        refine qw_value (by rfl) (.bool false) (exec_not _ _ rfl true rfl) ?_
        simp only [Act.put, pu]
        refine qw_nil ?_
        intro w6 hqb
        replace sb := below_on sb (Nat.le_refl _) hqb
        clear hqb
        (repeat ((fail_if_success with_reducible refine rg ?_); go_step))
        apply wp_region_mixp [] [_, _] trivial List.nodup_nil
        ·intro p
         refine mx_val (.int .i64 ((k + 1 : Nat) : Int)) (exec_add_in _ _ _ _ rfl k 1 rfl rfl (by omega)) ?_
         simp only [Act.put, pu]
         refine mx_move rfl rfl ?_
         simp only [Act.put, pu]
         refine mx_end ?_
         intro w7 hkw hrw hnew hdis
         replace sb := sb.trans (hkw.below w.heap.size sb.size (by simp <;> omega))
         clear hkw hrw hnew hdis
         go_wp2
         go_roundg g
         case measure => omega
         case rel => exact ⟨k + 1, by omega, rfl, hlk, sb⟩
        ·rfl
       ·rfl
      ·rfl
     | false =>
      rw [hb] at hst
      have HF : Hid (errC (lkN N A (n - 1)) = 4) := by
       show errC (lkN N A (n - 1)) = 4
       have : lkN N A (n - 1) = false := by
        cases h : lkN N A (n - 1) with
        | false => rfl
        | true => rw [(lkN_all N A (n - 1)).1 h k (by omega)] at hb; cases hb
       rw [this]; rfl
      clear hb hlk
      (repeat ((fail_if_success with_reducible refine rg ?_); go_step))
      apply wp_region_mixp [] [_] trivial List.nodup_nil
      ·intro p
       refine mx_val (.bool true) (exec_lt_b _ _ _ _ rfl k (n - 1 : Nat) rfl rfl true (decide_eq_true (by omega))) ?_
       simp only [Act.put, pu]
       refine mx_end ?_
       intro w4 hkw hrw hnew hdis
       replace sb := sb.trans (hkw.below w.heap.size sb.size (by simp <;> omega))
       clear hkw hrw hnew hdis
       (repeat ((fail_if_success with_reducible refine rg ?_); go_step))
       apply wp_region_mixp [] [_, _] trivial List.nodup_nil
       ·intro p
        refine mx_move rfl rfl ?_
        simp only [Act.put, pu]
        refine mx_asg rfl rfl ?_
        simp only [Act.put, pu]
        refine mx_end ?_
        intro w5 hkw hrw hnew hdis
        replace sb := sb.trans (hkw.below w.heap.size sb.size (by simp <;> omega))
        clear hkw hrw hnew hdis
        obtain h0 | ⟨_, rB, hat⟩ := (HL.out.below sb).at'
        ·omega
        (repeat ((fail_if_success with_reducible refine rg ?_); go_step))
        refine wp_region_qw (by kernel_rfl) (by kernel_rfl) ?_
        refine qw_move (by rfl) rfl rfl ?_
        simp only [Act.put, pu]
        refine qw_move (by rfl) rfl rfl ?_
        simp only [Act.put, pu]
        refine qw_value (by rfl) (.int .i64 ((k + 1 : Nat) : Int)) (exec_add_in _ _ _ _ rfl k 1 rfl rfl (by omega)) ?_
        simp only [Act.put, pu]
        refine qw_value (by rfl) (.pointer (some ⟨gb, ob + (k + 1) * 5, none⟩)) (exec_index_s 25 _ _ rfl gb ob n c rfl (k + 1) rfl (by omega) _ Try.underlying25 5 Try.sizeOf69) ?_
        simp only [Act.put, pu]
        refine qw_value (by rfl) (.pointer (some ⟨gb, ob + (k + 1) * 5, none⟩)) (exec_field 69 _ 0 rfl gb (ob + (k + 1) * 5) rfl _ Try.underlying69 _ rfl 3 Try.sizeOf24) ?_
        simp only [Act.put, pu]
        refine qw_loadmR (by rfl) 24 _ rfl _ ((ob + (k + 1) * 5)) rfl rB (natC (N (k + 1))) (lk_part (hat (k + 1) (by omega))) _ Try.underlying24 rfl size_nat ?_
        simp only [Act.put, pu]
        refine qw_move (by rfl) rfl rfl ?_
        simp only [Act.put, pu]
        refine qw_move (by rfl) rfl rfl ?_
        simp only [Act.put, pu]
        refine qw_value (by rfl) (.pointer (some ⟨gb, ob + (k) * 5, none⟩)) (exec_index_s 25 _ _ rfl gb ob n c rfl (k) rfl (by omega) _ Try.underlying25 5 Try.sizeOf69) ?_
        simp only [Act.put, pu]
        refine qw_value (by rfl) (.pointer (some ⟨gb, ob + (k) * 5, none⟩)) (exec_field 69 _ 0 rfl gb (ob + (k) * 5) rfl _ Try.underlying69 _ rfl 3 Try.sizeOf24) ?_
        simp only [Act.put, pu]
        refine qw_loadmR (by rfl) 24 _ rfl _ ((ob + (k) * 5)) rfl rB (natC (N k)) (lk_part (hat k (by omega))) _ Try.underlying24 rfl size_nat ?_
        simp only [Act.put, pu]
        refine qw_move (by rfl) rfl rfl ?_
        simp only [Act.put, pu]
        refine qw_move (by rfl) rfl rfl ?_
        simp only [Act.put, pu]
        refine qw_value (by rfl) (.int .i64 ((k + 1 : Nat) : Int)) (exec_add_in _ _ _ _ rfl k 1 rfl rfl (by omega)) ?_
        simp only [Act.put, pu]
        refine qw_value (by rfl) (.pointer (some ⟨gb, ob + (k + 1) * 5, none⟩)) (exec_index_s 25 _ _ rfl gb ob n c rfl (k + 1) rfl (by omega) _ Try.underlying25 5 Try.sizeOf69) ?_
        simp only [Act.put, pu]
        refine qw_value (by rfl) (.pointer (some ⟨gb, ob + (k + 1) * 5 + 4, none⟩)) (exec_field 69 _ 1 rfl gb (ob + (k + 1) * 5) rfl _ Try.underlying69 _ rfl 0 Try.sizeOf3) ?_
        simp only [Act.put, pu]
        refine qw_loadcR (by rfl) 3 _ rfl _ (ob + (k + 1) * 5 + 4) rfl rB (.int .i64 (A (k + 1))) (lk_last (hat (k + 1) (by omega))) Try.isAgg3 ?_
        simp only [Act.put, pu]
        refine qw_call (by rfl) 48 _ _ rfl Try.func48 (by kernel_rfl) #[.agg (natC (N (k + 1))), .agg (natC (N k)), .int .i64 (A (k + 1))] rfl _ hst ?_
        simp only [Act.put, pu]
        refine qw_value (by rfl) (.bool true) (exec_not _ _ rfl false rfl) ?_
        simp only [Act.put, pu]
        refine qw_nil ?_
        intro w6 hqb
        replace sb := below_on sb (Nat.le_refl _) hqb
        clear hqb
        go_wp2
        go_ret
        exact ⟨by rw [HF.out]; rfl, sb⟩
       ·rfl
      ·rfl
  ·rfl
 ·rfl
/-- Check: whether links are a chain. -/
theorem check_any (n c : Nat) (ab : Option Addr) (N : Nat → Nat) (A : Nat → Int) (gb ob : Nat) (bcs : Array Value) (tb : TypeId) (w : World) (hL : LinksAt w ab n N A gb ob bcs tb) :
  Calls Try.prog 28 #[.slice ab n c] w fun e w' => e = .returned (.int .i64 (errC (chN n N A))) ∧ Below w.heap.size w w' := by
 unfold chN
 by_cases h1 : n < 1
 ·rw [decide_eq_false (show ¬ 1 ≤ n by omega), Bool.false_and]
  exact check_none n c ab w h1
 by_cases h8 : 8 < n
 ·rw [decide_eq_false (show ¬ n ≤ 8 by omega), Bool.false_and, Bool.and_false]
  exact check_long n c ab w h8
 rw [decide_eq_true (show 1 ≤ n by omega), decide_eq_true (show n ≤ 8 by omega), Bool.true_and, Bool.true_and]
 have hbe := fun w' => begins_any (N 0) (A 0) w' (hL.lt 0 (by omega))
 cases hb : (smN (N 0) && decide (A 0 = 0)) with
 | false =>
  rw [hb] at hbe
  rw [← Bool.and_assoc, hb, Bool.false_and]
  exact check_first n c ab N A gb ob bcs tb w (by omega) (by omega) hL hbe
 | true =>
  rw [hb] at hbe
  rw [← Bool.and_assoc, hb, Bool.true_and]
  exact check_rest n c ab N A gb ob bcs tb w (by omega) (by omega) hL hbe
end Go.Proofs.Ytcgeimbfijpocaa
