/- The document's space: Quota, Used, Find, Same; the program's Keys. -/
import Derived.Test.YtchiiphmpkmloaaSpAt
import Derived.Shelf.Slices.Clone
namespace Go.Proofs.Ytchiiphmpkmloaa
open Go.RowKit
set_option linter.unusedVariables false
set_option linter.unusedSectionVars false
set_option linter.unusedSimpArgs false
/-- slices.Clone at keys. -/
def lay_ren2 : Go.Shelf.Ren := ⟨fun | 16 => 28 | n => n, fun | 9 => 9 | 4 => 4 | 24 => 30 | n => n, fun | n => n⟩
theorem lay16 : Go.Proofs.Lays2.n16 Try.prog lay_ren2 := {
 mixed := by kernel_rfl
 f16 := Try.func28.trans (congrArg some (by kernel_rfl))
 t4 := Try.underlying4
 a4 := Try.isAgg4
 z4 := Try.sizeOf4
 v4 := Try.zeroValue4
 t9 := Try.underlying9
 a9 := Try.isAgg9
 z9 := Try.sizeOf9
 v9 := Try.zeroValue9
 t24 := Try.underlying30
 a24 := Try.isAgg30
 z24 := Try.sizeOf30
 v24 := Try.zeroValue30
 i9 := by kernel_rfl }
theorem scl_any (ab : Option Addr) (c : Nat) (l : List Ky) (gb ob : Nat) (bcs : Array Value) (tb : TypeId) (w : World) (hl : l.length ≤ 1000000) (hc : ab = none → c = 0) (hz : ElsAt 1 w ab l.length (stC l) gb ob bcs tb) :
  Calls Try.prog 28 #[.slice ab l.length c] w fun e w' => ∃ a2 c2 g2 cs, e = .returned (.slice a2 l.length c2) ∧ ElsAt 1 w' a2 l.length (stC l) g2 0 cs 9 ∧ Below w.heap.size w w' := by
 have hown : ∀ w' v', w'.ownsRow w.heap.size 9 1 v' l.length (l.map strV) → ∃ a2 c2 g2 cs, v' = .slice a2 l.length c2 ∧ ElsAt 1 w' a2 l.length (stC l) g2 0 cs 9 := fun w' v' h => by
  have h2 : OwnS w' w.heap.size v' l := h
  obtain ⟨a2, c2, g2, cs, h3, _, h4⟩ := ownE_els (stC_size l) h2.e
  exact ⟨a2, c2, g2, cs, h3, h4⟩
 rcases hz.at' with h0 | ⟨rfl, hR, hel⟩
 ·obtain rfl : l = [] := List.eq_nil_of_length_eq_zero h0
  cases ab with
  | none =>
   obtain rfl := hc rfl
   refine (Any.slices_Clone_string_nil lay16 0 0 w).mono ?_
   rintro e w' ⟨rfl, rfl⟩
   exact ⟨none, 0, 0, #[], rfl, ⟨.inl rfl⟩, Below.refl _ _⟩
  | some a =>
   refine (Any.slices_Clone_string_zero lay16 a c w).mono ?_
   rintro e w' ⟨v', rfl, h1, _, hb⟩
   obtain ⟨a2, c2, g2, cs, rfl, h4⟩ := hown w' v' h1
   exact ⟨a2, c2, g2, cs, rfl, h4, hb⟩
 ·have h := Any.slices_Clone_string lay16 gb ob l.length c (l.map fun k => ⟨k.toArray⟩) w (by simp) (by omega) fun j hj => by
   rw [List.length_map] at hj
   rw [hR.cell]
   have h1 := hel j hj 0 _ rfl
   rw [Nat.mul_one, Nat.add_zero] at h1
   rw [h1]
   simp [List.getD_eq_getElem?_getD, List.getElem?_eq_getElem hj]
  refine h.mono ?_
  rintro e w' ⟨v', rfl, h1, _, hb⟩
  have e1 : ((l.map fun k => (⟨k.toArray⟩ : ByteArray)).take l.length).map Value.string = l.map strV := by
   rw [List.take_of_length_le (by simp), List.map_map]
   rfl
  rw [e1] at h1
  obtain ⟨a2, c2, g2, cs, rfl, h4⟩ := hown w' v' h1
  exact ⟨a2, c2, g2, cs, rfl, h4, hb⟩
set_option maxRecDepth 100000 in
set_option maxHeartbeats 2000000 in
theorem keys_nil (w : World) :
  Calls Try.prog 19 #[.pointer none] w fun e w' => e = .returned (.slice none 0 0) ∧ Below w.heap.size w w' := by
 go_enter Try.func19, Try.ntmps19
 have sb := sbmk w
 (repeat ((fail_if_success with_reducible refine rg ?_); go_step))
 refine wp_region_pw ?_
 refine pw_move (by rfl) (.inr rfl) rfl ?_
 simp only [Act.put, pu]
 refine pw_nil ?_
 (repeat ((fail_if_success with_reducible refine rg ?_); go_step))
 refine wp_region_pw ?_
 refine pw_mv (by rfl) rfl rfl ?_
 simp only [Act.put, pu]
 refine pw_callB (by rfl) 27 _ _ rfl Try.func27 (by kernel_rfl) #[.pointer none] rfl _ (made_nil _) ?_
 intro z1001 k
 simp only [Act.put, pu]
 replace sb := sb.trans (k.below w.heap.size sb.size (by simp <;> omega))
 clear k
 refine pw_value (by rfl) (.bool true) (exec_not _ _ rfl false rfl) ?_
 simp only [Act.put, pu]
 refine pw_nil ?_
 (repeat ((fail_if_success with_reducible refine rg ?_); go_step))
 refine wp_region_pw ?_
 refine pw_move (by rfl) (.inr rfl) rfl ?_
 simp only [Act.put, pu]
 refine pw_nil ?_
 go_wp2
 go_ret
 exact ⟨rfl, sb⟩
set_option maxRecDepth 100000 in
set_option maxHeartbeats 2000000 in
theorem keys_no (g1 : Nat) (n m : Int) (kv mv : Value) (w : World) (r1 : Row w g1 (sxC n m kv mv) 57) (hn : n ≤ 0) :
  Calls Try.prog 19 #[.pointer (some ⟨g1, 0, none⟩)] w fun e w' => e = .returned (.slice none 0 0) ∧ Below w.heap.size w w' := by
 go_enter Try.func19, Try.ntmps19
 have sb := sbmk w
 (repeat ((fail_if_success with_reducible refine rg ?_); go_step))
 refine wp_region_pw ?_
 refine pw_move (by rfl) (.inr rfl) rfl ?_
 simp only [Act.put, pu]
 refine pw_nil ?_
 (repeat ((fail_if_success with_reducible refine rg ?_); go_step))
 refine wp_region_pw ?_
 refine pw_mv (by rfl) rfl rfl ?_
 simp only [Act.put, pu]
 refine pw_callB (by rfl) 27 _ _ rfl Try.func27 (by kernel_rfl) #[.pointer (some ⟨g1, 0, none⟩)] rfl _ (made_no g1 n m kv mv _ r1 hn) ?_
 intro z1001 k
 simp only [Act.put, pu]
 replace r1 := k.row r1 (by simp <;> omega)
 replace sb := sb.trans (k.below w.heap.size sb.size (by simp <;> omega))
 clear k
 refine pw_value (by rfl) (.bool true) (exec_not _ _ rfl false rfl) ?_
 simp only [Act.put, pu]
 refine pw_nil ?_
 (repeat ((fail_if_success with_reducible refine rg ?_); go_step))
 refine wp_region_pw ?_
 refine pw_move (by rfl) (.inr rfl) rfl ?_
 simp only [Act.put, pu]
 refine pw_nil ?_
 go_wp2
 go_ret
 exact ⟨rfl, sb⟩
set_option maxRecDepth 100000 in
set_option maxHeartbeats 2000000 in
theorem keys_at {w : World} {base g1 : Nat} {n m : Int} {l : List Ky} {U : Int → Int} {B : List Nat} (h : SpAt w base g1 n m l U B) (hl : l.length ≤ 1000) :
  Calls Try.prog 19 #[.pointer (some ⟨g1, 0, none⟩)] w fun e w' => ∃ a2 c2 g2 cs, e = .returned (.slice a2 l.length c2) ∧ ElsAt 1 w' a2 l.length (stC l) g2 0 cs 9 ∧ Below w.heap.size w w' := by
 obtain ⟨mb, ab, c, r1, hO, _, _, _, _, _, _⟩ := h.out
 have hn := h.par.1.1
 have hc0 : ab = none → c = 0 := by
  rcases hO.2 with ⟨h0, _⟩ | ⟨_, _, _, h0, _⟩
  ·exact fun _ => (Value.slice.inj h0).2.2
  ·exact fun h => by rw [(Value.slice.inj h0).1] at h; cases h
 obtain ⟨gb, bcs, hz⟩ : ∃ gb bcs, ElsAt 1 w ab l.length (stC l) gb 0 bcs 9 := by
  obtain ⟨a2, c2, gb, cur, h1, h2, h3⟩ := ownE_els (stC_size l) hO.e
  cases h1
  exact ⟨gb, cur, h3⟩
 have hC := fun w' (hb : Below w.heap.size w w') => scl_any ab c l gb 0 bcs _ w' (by omega) hc0 (hz.below hb)
 clear h hO hz hc0
 go_enter Try.func19, Try.ntmps19
 have sb := sbmk w
 (repeat ((fail_if_success with_reducible refine rg ?_); go_step))
 refine wp_region_pw ?_
 refine pw_move (by rfl) (.inr rfl) rfl ?_
 simp only [Act.put, pu]
 refine pw_nil ?_
 (repeat ((fail_if_success with_reducible refine rg ?_); go_step))
 refine wp_region_pw ?_
 refine pw_mv (by rfl) rfl rfl ?_
 simp only [Act.put, pu]
 refine pw_callB (by rfl) 27 _ _ rfl Try.func27 (by kernel_rfl) #[.pointer (some ⟨g1, 0, none⟩)] rfl _ (made_yes g1 n m _ _ _ r1 hn) ?_
 intro z1001 k
 simp only [Act.put, pu]
 replace r1 := k.row r1 (by simp <;> omega)
 replace sb := sb.trans (k.below w.heap.size sb.size (by simp <;> omega))
 clear k
 refine pw_value (by rfl) (.bool false) (exec_not _ _ rfl true rfl) ?_
 simp only [Act.put, pu]
 refine pw_nil ?_
 (repeat ((fail_if_success with_reducible refine rg ?_); go_step))
 refine wp_region_pw ?_
 refine pw_mv (by rfl) rfl rfl ?_
 simp only [Act.put, pu]
 refine pw_value (by rfl) (.pointer (some ⟨g1, 0, none⟩)) (exec_nil _ rfl g1 (0) rfl) ?_
 simp only [Act.put, pu]
 refine pw_value (by rfl) (.pointer (some ⟨g1, 2, none⟩)) (exec_field 57 _ 2 rfl g1 0 rfl _ Try.underlying57 _ rfl 0 Try.sizeOf30) ?_
 simp only [Act.put, pu]
 refine pw_loadk (by rfl) 30 _ rfl _ (2) rfl r1.r (.slice ab l.length c) rfl Try.isAgg30 ?_
 simp only [Act.put, pu]
 refine pw_callE (by rfl) 28 _ _ rfl Try.func28 (by kernel_rfl) #[.slice ab l.length c] rfl (hC _ sb) ?_
 rintro _ z3004 ⟨a2, c2, g2, cs, rfl, hE, hb⟩
 refine ⟨_, rfl, ?_⟩
 simp only [Act.put, pu]
 have k := Kept.ofBelow hb
 clear hb
 replace sb := sb.trans (k.below w.heap.size sb.size (by simp <;> omega))
 clear k
 refine pw_as (by rfl) rfl rfl ?_
 simp only [Act.put, pu]
 refine pw_nil ?_
 go_wp2
 go_ret
 exact ⟨a2, c2, g2, cs, rfl, hE, sb⟩
set_option maxRecDepth 100000 in
set_option maxHeartbeats 2000000 in
theorem rquo_any (n m : Int) (v1 v2 : Value) (e : Int) (w : World) (hn : 1 ≤ n) (hn7 : n ≤ 7) (hm : 0 ≤ m) (hm4 : m ≤ 4) :
  Calls Try.prog 17 #[.agg (sxC n m v1 v2), .int .i64 e] w fun e' w' => e' = .returned (.int .i64 (quo n m e)) ∧ Below w.heap.size w w' := by
 have hmn : m * n ≤ 28 := Int.le_trans (Int.mul_le_mul_of_nonneg_right hm4 (by omega)) (by omega)
 have hmn0 : 0 ≤ m * n := Int.mul_nonneg hm (by omega)
 by_cases h1 : 1 ≤ e
 ·by_cases h2 : e ≤ n
  ·rw [show quo n m e = m * n * 4 by unfold quo endB; rw [if_pos (decide_eq_true (by omega)), if_pos h2]]
   go_enter Try.func17, Try.ntmps17
   have sb := sbmk w
   (repeat ((fail_if_success with_reducible refine rg ?_); go_step))
   refine wp_region_pw ?_
   refine pw_boxr (by rfl) 33 _ rfl (sxC n m v1 v2) rfl ?_
   intro g2 z0 n0 r2 k
   simp only [Act.put, pu]
   have b2 := Nat.le_trans sb.size n0
   clear n0
   replace sb := sb.trans (k.below w.heap.size sb.size (by simp <;> omega))
   clear k
   refine pw_value (by rfl) (.int .i64 0) (fun _ => rfl) ?_
   simp only [Act.put, pu]
   refine pw_nil ?_
   (repeat ((fail_if_success with_reducible refine rg ?_); go_step))
   refine wp_region_pw ?_
   refine pw_mv (by rfl) rfl rfl ?_
   simp only [Act.put, pu]
   refine pw_value (by rfl) (.bool true) (exec_geq_i _ _ _ _ rfl (e) (1) rfl rfl true (decide_eq_true (by omega))) ?_
   simp only [Act.put, pu]
   refine pw_mv (by rfl) rfl rfl ?_
   simp only [Act.put, pu]
   refine pw_mv (by rfl) rfl rfl ?_
   simp only [Act.put, pu]
   refine pw_value (by rfl) (.pointer (some ⟨g2, 0, none⟩)) (exec_field 33 _ 0 rfl g2 0 rfl _ Try.underlying33 _ rfl 0 Try.sizeOf3) ?_
   simp only [Act.put, pu]
   refine pw_loadk (by rfl) 3 _ rfl _ (0) rfl r2.r (.int .i64 n) rfl Try.isAgg3 ?_
   simp only [Act.put, pu]
   refine pw_value (by rfl) (.bool true) (exec_leq_i _ _ _ _ rfl (e) (n) rfl rfl true (decide_eq_true (by omega))) ?_
   simp only [Act.put, pu]
   refine pw_pick (by rfl) true (v := .bool true) rfl rfl rfl ?_
   simp only [Act.put, pu]
   refine pw_nil ?_
   (repeat ((fail_if_success with_reducible refine rg ?_); go_step))
   refine wp_region_pw ?_
   refine pw_value (by rfl) (.pointer (some ⟨g2, 1, none⟩)) (exec_field 33 _ 1 rfl g2 0 rfl _ Try.underlying33 _ rfl 0 Try.sizeOf3) ?_
   simp only [Act.put, pu]
   refine pw_loadk (by rfl) 3 _ rfl _ (1) rfl r2.r (.int .i64 m) rfl Try.isAgg3 ?_
   simp only [Act.put, pu]
   refine pw_value (by rfl) (.pointer (some ⟨g2, 0, none⟩)) (exec_field 33 _ 0 rfl g2 0 rfl _ Try.underlying33 _ rfl 0 Try.sizeOf3) ?_
   simp only [Act.put, pu]
   refine pw_loadk (by rfl) 3 _ rfl _ (0) rfl r2.r (.int .i64 n) rfl Try.isAgg3 ?_
   simp only [Act.put, pu]
   refine pw_value (by rfl) (.int .i64 (m * n)) (x_mulz _ _ _ _ rfl m n (m * n) rfl rfl rfl (by omega) (by omega)) ?_
   simp only [Act.put, pu]
   refine pw_value (by rfl) (.int .i64 (m * n * 4)) (x_mulz _ _ _ _ rfl (m * n) 4 (m * n * 4) rfl rfl rfl (by omega) (by omega)) ?_
   simp only [Act.put, pu]
   refine pw_as (by rfl) rfl rfl ?_
   simp only [Act.put, pu]
   refine pw_nil ?_
   go_wp2
   go_ret
   exact ⟨rfl, sb⟩
  ·by_cases h3 : e ≤ n + m
   ·rw [show quo n m e = 4 by unfold quo endB; rw [if_pos (decide_eq_true (by omega)), if_neg h2]]
    go_enter Try.func17, Try.ntmps17
    have sb := sbmk w
    (repeat ((fail_if_success with_reducible refine rg ?_); go_step))
    refine wp_region_pw ?_
    refine pw_boxr (by rfl) 33 _ rfl (sxC n m v1 v2) rfl ?_
    intro g2 z0 n0 r2 k
    simp only [Act.put, pu]
    have b2 := Nat.le_trans sb.size n0
    clear n0
    replace sb := sb.trans (k.below w.heap.size sb.size (by simp <;> omega))
    clear k
    refine pw_value (by rfl) (.int .i64 0) (fun _ => rfl) ?_
    simp only [Act.put, pu]
    refine pw_nil ?_
    (repeat ((fail_if_success with_reducible refine rg ?_); go_step))
    refine wp_region_pw ?_
    refine pw_mv (by rfl) rfl rfl ?_
    simp only [Act.put, pu]
    refine pw_value (by rfl) (.bool true) (exec_geq_i _ _ _ _ rfl (e) (1) rfl rfl true (decide_eq_true (by omega))) ?_
    simp only [Act.put, pu]
    refine pw_mv (by rfl) rfl rfl ?_
    simp only [Act.put, pu]
    refine pw_mv (by rfl) rfl rfl ?_
    simp only [Act.put, pu]
    refine pw_value (by rfl) (.pointer (some ⟨g2, 0, none⟩)) (exec_field 33 _ 0 rfl g2 0 rfl _ Try.underlying33 _ rfl 0 Try.sizeOf3) ?_
    simp only [Act.put, pu]
    refine pw_loadk (by rfl) 3 _ rfl _ (0) rfl r2.r (.int .i64 n) rfl Try.isAgg3 ?_
    simp only [Act.put, pu]
    refine pw_value (by rfl) (.bool false) (exec_leq_i _ _ _ _ rfl (e) (n) rfl rfl false (decide_eq_false (by omega))) ?_
    simp only [Act.put, pu]
    refine pw_pick (by rfl) true (v := .bool false) rfl rfl rfl ?_
    simp only [Act.put, pu]
    refine pw_nil ?_
    (repeat ((fail_if_success with_reducible refine rg ?_); go_step))
    refine wp_region_pw ?_
    refine pw_mv (by rfl) rfl rfl ?_
    simp only [Act.put, pu]
    refine pw_value (by rfl) (.pointer (some ⟨g2, 0, none⟩)) (exec_field 33 _ 0 rfl g2 0 rfl _ Try.underlying33 _ rfl 0 Try.sizeOf3) ?_
    simp only [Act.put, pu]
    refine pw_loadk (by rfl) 3 _ rfl _ (0) rfl r2.r (.int .i64 n) rfl Try.isAgg3 ?_
    simp only [Act.put, pu]
    refine pw_value (by rfl) (.bool true) (exec_gt_i _ _ _ _ rfl (e) (n) rfl rfl true (decide_eq_true (by omega))) ?_
    simp only [Act.put, pu]
    refine pw_mv (by rfl) rfl rfl ?_
    simp only [Act.put, pu]
    refine pw_mv (by rfl) rfl rfl ?_
    simp only [Act.put, pu]
    refine pw_value (by rfl) (.pointer (some ⟨g2, 0, none⟩)) (exec_field 33 _ 0 rfl g2 0 rfl _ Try.underlying33 _ rfl 0 Try.sizeOf3) ?_
    simp only [Act.put, pu]
    refine pw_loadk (by rfl) 3 _ rfl _ (0) rfl r2.r (.int .i64 n) rfl Try.isAgg3 ?_
    simp only [Act.put, pu]
    refine pw_value (by rfl) (.pointer (some ⟨g2, 1, none⟩)) (exec_field 33 _ 1 rfl g2 0 rfl _ Try.underlying33 _ rfl 0 Try.sizeOf3) ?_
    simp only [Act.put, pu]
    refine pw_loadk (by rfl) 3 _ rfl _ (1) rfl r2.r (.int .i64 m) rfl Try.isAgg3 ?_
    simp only [Act.put, pu]
    refine pw_value (by rfl) (.int .i64 (n + m)) (x_addz _ _ _ _ rfl (n) (m) (n + m) rfl rfl (by omega) (by omega) (by omega)) ?_
    simp only [Act.put, pu]
    refine pw_value (by rfl) (.bool true) (exec_leq_i _ _ _ _ rfl (e) (n + m) rfl rfl true (decide_eq_true (by omega))) ?_
    simp only [Act.put, pu]
    refine pw_pick (by rfl) true (v := .bool true) rfl rfl rfl ?_
    simp only [Act.put, pu]
    refine pw_nil ?_
    (repeat ((fail_if_success with_reducible refine rg ?_); go_step))
    refine wp_region_pw ?_
    refine pw_value (by rfl) (.int .i64 4) (fun _ => rfl) ?_
    simp only [Act.put, pu]
    refine pw_nil ?_
    go_wp2
    go_ret
    exact ⟨rfl, sb⟩
   ·rw [show quo n m e = 0 by unfold quo endB; rw [if_neg (by rw [decide_eq_true_eq]; omega)]]
    go_enter Try.func17, Try.ntmps17
    have sb := sbmk w
    (repeat ((fail_if_success with_reducible refine rg ?_); go_step))
    refine wp_region_pw ?_
    refine pw_boxr (by rfl) 33 _ rfl (sxC n m v1 v2) rfl ?_
    intro g2 z0 n0 r2 k
    simp only [Act.put, pu]
    have b2 := Nat.le_trans sb.size n0
    clear n0
    replace sb := sb.trans (k.below w.heap.size sb.size (by simp <;> omega))
    clear k
    refine pw_value (by rfl) (.int .i64 0) (fun _ => rfl) ?_
    simp only [Act.put, pu]
    refine pw_nil ?_
    (repeat ((fail_if_success with_reducible refine rg ?_); go_step))
    refine wp_region_pw ?_
    refine pw_mv (by rfl) rfl rfl ?_
    simp only [Act.put, pu]
    refine pw_value (by rfl) (.bool true) (exec_geq_i _ _ _ _ rfl (e) (1) rfl rfl true (decide_eq_true (by omega))) ?_
    simp only [Act.put, pu]
    refine pw_mv (by rfl) rfl rfl ?_
    simp only [Act.put, pu]
    refine pw_mv (by rfl) rfl rfl ?_
    simp only [Act.put, pu]
    refine pw_value (by rfl) (.pointer (some ⟨g2, 0, none⟩)) (exec_field 33 _ 0 rfl g2 0 rfl _ Try.underlying33 _ rfl 0 Try.sizeOf3) ?_
    simp only [Act.put, pu]
    refine pw_loadk (by rfl) 3 _ rfl _ (0) rfl r2.r (.int .i64 n) rfl Try.isAgg3 ?_
    simp only [Act.put, pu]
    refine pw_value (by rfl) (.bool false) (exec_leq_i _ _ _ _ rfl (e) (n) rfl rfl false (decide_eq_false (by omega))) ?_
    simp only [Act.put, pu]
    refine pw_pick (by rfl) true (v := .bool false) rfl rfl rfl ?_
    simp only [Act.put, pu]
    refine pw_nil ?_
    (repeat ((fail_if_success with_reducible refine rg ?_); go_step))
    refine wp_region_pw ?_
    refine pw_mv (by rfl) rfl rfl ?_
    simp only [Act.put, pu]
    refine pw_value (by rfl) (.pointer (some ⟨g2, 0, none⟩)) (exec_field 33 _ 0 rfl g2 0 rfl _ Try.underlying33 _ rfl 0 Try.sizeOf3) ?_
    simp only [Act.put, pu]
    refine pw_loadk (by rfl) 3 _ rfl _ (0) rfl r2.r (.int .i64 n) rfl Try.isAgg3 ?_
    simp only [Act.put, pu]
    refine pw_value (by rfl) (.bool true) (exec_gt_i _ _ _ _ rfl (e) (n) rfl rfl true (decide_eq_true (by omega))) ?_
    simp only [Act.put, pu]
    refine pw_mv (by rfl) rfl rfl ?_
    simp only [Act.put, pu]
    refine pw_mv (by rfl) rfl rfl ?_
    simp only [Act.put, pu]
    refine pw_value (by rfl) (.pointer (some ⟨g2, 0, none⟩)) (exec_field 33 _ 0 rfl g2 0 rfl _ Try.underlying33 _ rfl 0 Try.sizeOf3) ?_
    simp only [Act.put, pu]
    refine pw_loadk (by rfl) 3 _ rfl _ (0) rfl r2.r (.int .i64 n) rfl Try.isAgg3 ?_
    simp only [Act.put, pu]
    refine pw_value (by rfl) (.pointer (some ⟨g2, 1, none⟩)) (exec_field 33 _ 1 rfl g2 0 rfl _ Try.underlying33 _ rfl 0 Try.sizeOf3) ?_
    simp only [Act.put, pu]
    refine pw_loadk (by rfl) 3 _ rfl _ (1) rfl r2.r (.int .i64 m) rfl Try.isAgg3 ?_
    simp only [Act.put, pu]
    refine pw_value (by rfl) (.int .i64 (n + m)) (x_addz _ _ _ _ rfl (n) (m) (n + m) rfl rfl (by omega) (by omega) (by omega)) ?_
    simp only [Act.put, pu]
    refine pw_value (by rfl) (.bool false) (exec_leq_i _ _ _ _ rfl (e) (n + m) rfl rfl false (decide_eq_false (by omega))) ?_
    simp only [Act.put, pu]
    refine pw_pick (by rfl) true (v := .bool false) rfl rfl rfl ?_
    simp only [Act.put, pu]
    refine pw_nil ?_
    (repeat ((fail_if_success with_reducible refine rg ?_); go_step))
    refine wp_region_pw ?_
    refine pw_value (by rfl) (.int .i64 0) (fun _ => rfl) ?_
    simp only [Act.put, pu]
    refine pw_nil ?_
    go_wp2
    go_ret
    exact ⟨rfl, sb⟩
 ·rw [show quo n m e = 0 by unfold quo endB; rw [if_neg (by rw [decide_eq_true_eq]; omega)]]
  go_enter Try.func17, Try.ntmps17
  have sb := sbmk w
  (repeat ((fail_if_success with_reducible refine rg ?_); go_step))
  refine wp_region_pw ?_
  refine pw_boxr (by rfl) 33 _ rfl (sxC n m v1 v2) rfl ?_
  intro g2 z0 n0 r2 k
  simp only [Act.put, pu]
  have b2 := Nat.le_trans sb.size n0
  clear n0
  replace sb := sb.trans (k.below w.heap.size sb.size (by simp <;> omega))
  clear k
  refine pw_value (by rfl) (.int .i64 0) (fun _ => rfl) ?_
  simp only [Act.put, pu]
  refine pw_nil ?_
  (repeat ((fail_if_success with_reducible refine rg ?_); go_step))
  refine wp_region_pw ?_
  refine pw_mv (by rfl) rfl rfl ?_
  simp only [Act.put, pu]
  refine pw_value (by rfl) (.bool false) (exec_geq_i _ _ _ _ rfl (e) (1) rfl rfl false (decide_eq_false (by omega))) ?_
  simp only [Act.put, pu]
  refine pw_mv (by rfl) rfl rfl ?_
  simp only [Act.put, pu]
  refine pw_skip (by rfl) ?_
  simp only [Act.put, pu]
  refine pw_skip (by rfl) ?_
  simp only [Act.put, pu]
  refine pw_skip (by rfl) ?_
  simp only [Act.put, pu]
  refine pw_skip (by rfl) ?_
  simp only [Act.put, pu]
  refine pw_pick (by rfl) false (v := .bool false) rfl rfl rfl ?_
  simp only [Act.put, pu]
  refine pw_nil ?_
  (repeat ((fail_if_success with_reducible refine rg ?_); go_step))
  refine wp_region_pw ?_
  refine pw_mv (by rfl) rfl rfl ?_
  simp only [Act.put, pu]
  refine pw_value (by rfl) (.pointer (some ⟨g2, 0, none⟩)) (exec_field 33 _ 0 rfl g2 0 rfl _ Try.underlying33 _ rfl 0 Try.sizeOf3) ?_
  simp only [Act.put, pu]
  refine pw_loadk (by rfl) 3 _ rfl _ (0) rfl r2.r (.int .i64 n) rfl Try.isAgg3 ?_
  simp only [Act.put, pu]
  refine pw_value (by rfl) (.bool false) (exec_gt_i _ _ _ _ rfl (e) (n) rfl rfl false (decide_eq_false (by omega))) ?_
  simp only [Act.put, pu]
  refine pw_mv (by rfl) rfl rfl ?_
  simp only [Act.put, pu]
  refine pw_skip (by rfl) ?_
  simp only [Act.put, pu]
  refine pw_skip (by rfl) ?_
  simp only [Act.put, pu]
  refine pw_skip (by rfl) ?_
  simp only [Act.put, pu]
  refine pw_skip (by rfl) ?_
  simp only [Act.put, pu]
  refine pw_skip (by rfl) ?_
  simp only [Act.put, pu]
  refine pw_skip (by rfl) ?_
  simp only [Act.put, pu]
  refine pw_skip (by rfl) ?_
  simp only [Act.put, pu]
  refine pw_pick (by rfl) false (v := .bool false) rfl rfl rfl ?_
  simp only [Act.put, pu]
  refine pw_nil ?_
  (repeat ((fail_if_success with_reducible refine rg ?_); go_step))
  refine wp_region_pw ?_
  refine pw_value (by rfl) (.int .i64 0) (fun _ => rfl) ?_
  simp only [Act.put, pu]
  refine pw_nil ?_
  go_wp2
  go_ret
  exact ⟨rfl, sb⟩
theorem usd_take {es : List Int} {j : Nat} (h : j < es.length) (k : Int) : usd (es.take (j + 1)) k = if es.getD j 0 = k then usd (es.take j) k + 1 else usd (es.take j) k := by
 have e : es.take (j + 1) = es.take j ++ [es.getD j 0] := by
  rw [List.getD_eq_getElem?_getD, List.getElem?_eq_getElem h, Option.getD_some, List.take_succ_eq_append_getElem h]
 rw [e, usd_snoc]
 by_cases q : k = es.getD j 0
 ·rw [if_pos q, if_pos q.symm]
 ·rw [if_neg q, if_neg (Ne.symm q)]
theorem usd_bd (es : List Int) (k : Int) : 0 ≤ usd es k ∧ usd es k ≤ es.length := by
 unfold usd
 have := List.countP_le_length (p := fun x => decide (x = k)) (l := es)
 omega
set_option maxRecDepth 100000 in
set_option maxHeartbeats 2000000 in
theorem rusd_any (n m : Int) (v1 : Value) (ab : Option Addr) (c : Nat) (es : List Int) (gb ob : Nat) (bcs : Array Value) (tb : TypeId) (e : Int) (w : World) (hn : es.length ≤ 100000) (hz : ElsAt 1 w ab es.length (inC es) gb ob bcs tb) :
  Calls Try.prog 15 #[.agg (sxC n m v1 (.slice ab es.length c)), .int .i64 e] w fun e' w' => e' = .returned (.int .i64 (usd es e)) ∧ Below w.heap.size w w' := by
 have HB : Hid (ElsAt 1 w ab es.length (inC es) gb ob bcs tb) := hz
 obtain ⟨R, hR⟩ : ∃ R, usd es e = R := ⟨_, rfl⟩
 have HR : Hid (usd es e = R) := hR
 rw [hR]
 clear hz hR
 go_enter Try.func15, Try.ntmps15
 have sb := sbmk w
 (repeat ((fail_if_success with_reducible refine rg ?_); go_step))
 refine wp_region_pw ?_
 refine pw_boxr (by rfl) 33 _ rfl (sxC n m v1 (.slice ab es.length c)) rfl ?_
 intro g2 z0 n0 r2 k
 simp only [Act.put, pu]
 have b2 := Nat.le_trans sb.size n0
 clear n0
 replace sb := sb.trans (k.below w.heap.size sb.size (by simp <;> omega))
 clear k
 refine pw_value (by rfl) (.int .i64 0) (fun _ => rfl) ?_
 simp only [Act.put, pu]
 refine pw_nil ?_
 (repeat ((fail_if_success with_reducible refine rg ?_); go_step))
 refine wp_region_pw ?_
 refine pw_value (by rfl) (.int .i64 0) (fun _ => rfl) ?_
 simp only [Act.put, pu]
 refine pw_nil ?_
 (repeat ((fail_if_success with_reducible refine rg ?_); go_step))
 refine wp_region_pw ?_
 refine pw_value (by rfl) (.int .i64 0) (fun _ => rfl) ?_
 simp only [Act.put, pu]
 refine pw_nil ?_
 go_wp2_with fail
 go_loopg [5, 6] es.length (fun x s5 s6 wr => ∃ (j : Nat) (u : Int), j + x = es.length ∧ usd (es.take j) e = u ∧ 0 ≤ u ∧ u ≤ j ∧ s5 = .int .i64 u ∧ s6 = .int .i64 j ∧ Row wr g2 (sxC n m v1 (.slice ab es.length c)) 33 ∧ Below w.heap.size w wr)
 case atStart => exact ⟨0, 0, by omega, rfl, Int.le_refl _, Int.le_refl _, rfl, rfl, r2, sb⟩
 case round =>
  clear sb r2
  obtain ⟨j, u, hj, hu, hu0, hu1, rfl, rfl, r2, sb⟩ := hrel
  have HU : Hid (usd (es.take j) e = u) := hu
  clear hu
  cases gk with
  | zero =>
   have h1 : ¬ (j : Int) < (es.length : Int) := by omega
   have HF : Hid (R = u) := by
    have h9 := HU.out
    rw [List.take_of_length_le (by omega), HR.out] at h9
    exact h9
   clear hj HU
   (repeat ((fail_if_success with_reducible refine rg ?_); go_step))
   refine wp_region_pw ?_
   refine pw_mv (by rfl) rfl rfl ?_
   simp only [Act.put, pu]
   refine pw_value (by rfl) (.pointer (some ⟨g2, 3, none⟩)) (exec_field 33 _ 3 rfl g2 0 rfl _ Try.underlying33 _ rfl 0 Try.sizeOf31) ?_
   simp only [Act.put, pu]
   refine pw_loadk (by rfl) 31 _ rfl _ (3) rfl r2.r (.slice (ab) es.length c) rfl Try.isAgg31 ?_
   simp only [Act.put, pu]
   refine pw_value (by rfl) (.int .i64 (es.length : Nat)) (exec_len_s 31 _ rfl (ab) (es.length) (c) rfl sl_ints) ?_
   simp only [Act.put, pu]
   refine pw_value (by rfl) (.bool false) (exec_lt_b _ _ _ _ rfl ((j : Nat)) ((es.length : Nat)) rfl rfl false (decide_eq_false h1)) ?_
   simp only [Act.put, pu]
   refine pw_nil ?_
   (repeat ((fail_if_success with_reducible refine rg ?_); go_step))
   refine wp_region_pw ?_
   refine pw_mv (by rfl) rfl rfl ?_
   simp only [Act.put, pu]
   refine pw_as (by rfl) rfl rfl ?_
   simp only [Act.put, pu]
   refine pw_nil ?_
   go_wp2
   go_ret
   exact ⟨by rw [HF.out]; rfl, sb⟩
  | succ y =>
   have hlt : j < es.length := by omega
   have h1 : (j : Int) < (es.length : Int) := by omega
   obtain h0 | ⟨rfl, rB, hbt⟩ := (HB.out.below sb).at'
   ·exact absurd h0 (by omega)
   obtain ⟨x, hx⟩ : ∃ x, es.getD j 0 = x := ⟨_, rfl⟩
   have HX : Hid (es.getD j 0 = x) := hx
   have hbx : bcs[ob + j * 1]? = some (.int .i64 x) := by rw [← hx]; exact hbt j hlt 0 _ rfl
   clear hbt hx
   by_cases h2 : x = e
   ·have HE : Hid (x = e) := h2
    (repeat ((fail_if_success with_reducible refine rg ?_); go_step))
    refine wp_region_pw ?_
    refine pw_mv (by rfl) rfl rfl ?_
    simp only [Act.put, pu]
    refine pw_value (by rfl) (.pointer (some ⟨g2, 3, none⟩)) (exec_field 33 _ 3 rfl g2 0 rfl _ Try.underlying33 _ rfl 0 Try.sizeOf31) ?_
    simp only [Act.put, pu]
    refine pw_loadk (by rfl) 31 _ rfl _ (3) rfl r2.r (.slice (some ⟨gb, ob, none⟩) es.length c) rfl Try.isAgg31 ?_
    simp only [Act.put, pu]
    refine pw_value (by rfl) (.int .i64 (es.length : Nat)) (exec_len_s 31 _ rfl (some ⟨gb, ob, none⟩) (es.length) (c) rfl sl_ints) ?_
    simp only [Act.put, pu]
    refine pw_value (by rfl) (.bool true) (exec_lt_b _ _ _ _ rfl ((j : Nat)) ((es.length : Nat)) rfl rfl true (decide_eq_true h1)) ?_
    simp only [Act.put, pu]
    refine pw_nil ?_
    (repeat ((fail_if_success with_reducible refine rg ?_); go_step))
    refine wp_region_pw ?_
    refine pw_value (by rfl) (.pointer (some ⟨g2, 3, none⟩)) (exec_field 33 _ 3 rfl g2 0 rfl _ Try.underlying33 _ rfl 0 Try.sizeOf31) ?_
    simp only [Act.put, pu]
    refine pw_loadk (by rfl) 31 _ rfl _ (3) rfl r2.r (.slice (some ⟨gb, ob, none⟩) es.length c) rfl Try.isAgg31 ?_
    simp only [Act.put, pu]
    refine pw_mv (by rfl) rfl rfl ?_
    simp only [Act.put, pu]
    refine pw_value (by rfl) (.pointer (some ⟨gb, ob + j * 1, none⟩)) ((exec_index_s 31 _ _ rfl (gb) (ob) (es.length) (c) rfl (j) rfl (hlt) _ Try.underlying31 1 Try.sizeOf3)) ?_
    simp only [Act.put, pu]
    refine pw_loadk (by rfl) 3 _ rfl _ (ob + j * 1) rfl rB (.int .i64 x) hbx Try.isAgg3 ?_
    simp only [Act.put, pu]
    refine pw_mv (by rfl) rfl rfl ?_
    simp only [Act.put, pu]
    refine pw_value (by rfl) (.bool true) (exec_eql_k .i64 _ _ _ _ rfl (x) (e) rfl rfl true (decide_eq_true h2)) ?_
    simp only [Act.put, pu]
    refine pw_nil ?_
    (repeat ((fail_if_success with_reducible refine rg ?_); go_step))
    refine wp_region_pw ?_
    refine pw_mv (by rfl) rfl rfl ?_
    simp only [Act.put, pu]
    refine pw_value (by rfl) (.int .i64 (u + 1)) (x_addz _ _ _ _ rfl (u) (1) (u + 1) rfl rfl (by omega) (by omega) (by omega)) ?_
    simp only [Act.put, pu]
    refine pw_as (by rfl) rfl rfl ?_
    simp only [Act.put, pu]
    refine pw_nil ?_
    clear rB
    (repeat ((fail_if_success with_reducible refine rg ?_); go_step))
    refine wp_region_pw ?_
    refine pw_mv (by rfl) rfl rfl ?_
    simp only [Act.put, pu]
    refine pw_value (by rfl) (.int .i64 (((j + 1 : Nat) : Int))) (x_addz _ _ _ _ rfl ((j : Nat)) (1) (((j + 1 : Nat) : Int)) rfl rfl (by omega) (by omega) (by omega)) ?_
    simp only [Act.put, pu]
    refine pw_as (by rfl) rfl rfl ?_
    simp only [Act.put, pu]
    refine pw_nil ?_
    go_wp2
    go_roundg y
    case measure => omega
    case rel => exact ⟨j + 1, u + 1, by omega, by rw [usd_take hlt, HX.out, HU.out]; rw [if_pos HE.out], by omega, by omega, rfl, rfl, r2, sb⟩
   ·have HE : Hid (¬ x = e) := h2
    (repeat ((fail_if_success with_reducible refine rg ?_); go_step))
    refine wp_region_pw ?_
    refine pw_mv (by rfl) rfl rfl ?_
    simp only [Act.put, pu]
    refine pw_value (by rfl) (.pointer (some ⟨g2, 3, none⟩)) (exec_field 33 _ 3 rfl g2 0 rfl _ Try.underlying33 _ rfl 0 Try.sizeOf31) ?_
    simp only [Act.put, pu]
    refine pw_loadk (by rfl) 31 _ rfl _ (3) rfl r2.r (.slice (some ⟨gb, ob, none⟩) es.length c) rfl Try.isAgg31 ?_
    simp only [Act.put, pu]
    refine pw_value (by rfl) (.int .i64 (es.length : Nat)) (exec_len_s 31 _ rfl (some ⟨gb, ob, none⟩) (es.length) (c) rfl sl_ints) ?_
    simp only [Act.put, pu]
    refine pw_value (by rfl) (.bool true) (exec_lt_b _ _ _ _ rfl ((j : Nat)) ((es.length : Nat)) rfl rfl true (decide_eq_true h1)) ?_
    simp only [Act.put, pu]
    refine pw_nil ?_
    (repeat ((fail_if_success with_reducible refine rg ?_); go_step))
    refine wp_region_pw ?_
    refine pw_value (by rfl) (.pointer (some ⟨g2, 3, none⟩)) (exec_field 33 _ 3 rfl g2 0 rfl _ Try.underlying33 _ rfl 0 Try.sizeOf31) ?_
    simp only [Act.put, pu]
    refine pw_loadk (by rfl) 31 _ rfl _ (3) rfl r2.r (.slice (some ⟨gb, ob, none⟩) es.length c) rfl Try.isAgg31 ?_
    simp only [Act.put, pu]
    refine pw_mv (by rfl) rfl rfl ?_
    simp only [Act.put, pu]
    refine pw_value (by rfl) (.pointer (some ⟨gb, ob + j * 1, none⟩)) ((exec_index_s 31 _ _ rfl (gb) (ob) (es.length) (c) rfl (j) rfl (hlt) _ Try.underlying31 1 Try.sizeOf3)) ?_
    simp only [Act.put, pu]
    refine pw_loadk (by rfl) 3 _ rfl _ (ob + j * 1) rfl rB (.int .i64 x) hbx Try.isAgg3 ?_
    simp only [Act.put, pu]
    refine pw_mv (by rfl) rfl rfl ?_
    simp only [Act.put, pu]
    refine pw_value (by rfl) (.bool false) (exec_eql_k .i64 _ _ _ _ rfl (x) (e) rfl rfl false (decide_eq_false h2)) ?_
    simp only [Act.put, pu]
    refine pw_nil ?_
    clear rB
    (repeat ((fail_if_success with_reducible refine rg ?_); go_step))
    refine wp_region_pw ?_
    refine pw_mv (by rfl) rfl rfl ?_
    simp only [Act.put, pu]
    refine pw_value (by rfl) (.int .i64 (((j + 1 : Nat) : Int))) (x_addz _ _ _ _ rfl ((j : Nat)) (1) (((j + 1 : Nat) : Int)) rfl rfl (by omega) (by omega) (by omega)) ?_
    simp only [Act.put, pu]
    refine pw_as (by rfl) rfl rfl ?_
    simp only [Act.put, pu]
    refine pw_nil ?_
    go_wp2
    go_roundg y
    case measure => omega
    case rel => exact ⟨j + 1, u, by omega, by rw [usd_take hlt, HX.out, HU.out]; rw [if_neg HE.out], hu0, by omega, rfl, rfl, r2, sb⟩
theorem take_snoc {l : List Ky} {j : Nat} (h : j < l.length) : l.take (j + 1) = l.take j ++ [l.getD j []] := by
 rw [List.getD_eq_getElem?_getD, List.getElem?_eq_getElem h, Option.getD_some, List.take_succ_eq_append_getElem h]
theorem rk_take {l : List Ky} {j : Nat} (h : j < l.length) (x : Ky) : rk x (l.take (j + 1)) = if lb (l.getD j []) x = true then rk x (l.take j) + 1 else rk x (l.take j) := by
 rw [take_snoc h]
 unfold rk
 rw [List.countP_append]
 generalize l.getD j [] = k
 cases e : lb k x <;> simp [e]
theorem mem_take {l : List Ky} {j : Nat} (h : j < l.length) (x : Ky) : decide (x ∈ l.take (j + 1)) = (decide (x ∈ l.take j) || decide (l.getD j [] = x)) := by
 rw [take_snoc h]
 generalize l.getD j [] = k
 rw [← Bool.decide_or]
 apply decide_eq_decide.2
 rw [List.mem_append, List.mem_singleton]
 exact or_congr Iff.rfl ⟨Eq.symm, Eq.symm⟩
set_option maxRecDepth 100000 in
set_option maxHeartbeats 2000000 in
theorem rfnd_any (n m : Int) (v2 : Value) (ab : Option Addr) (c : Nat) (us : List Ky) (gb ob : Nat) (bcs : Array Value) (tb : TypeId) (x : Ky) (w : World) (hn : us.length ≤ 100000) (hz : ElsAt 1 w ab us.length (stC us) gb ob bcs tb) :
  Calls Try.prog 13 #[.agg (sxC n m (.slice ab us.length c) v2), .string ⟨x.toArray⟩] w fun e' w' => e' = .returned (.tuple #[.int .i64 (fdP us x : Nat), .bool (fdB us x)]) ∧ Below w.heap.size w w' := by
 have HB : Hid (ElsAt 1 w ab us.length (stC us) gb ob bcs tb) := hz
 clear hz
 go_enter Try.func13, Try.ntmps13
 have sb := sbmk w
 (repeat ((fail_if_success with_reducible refine rg ?_); go_step))
 refine wp_region_pw ?_
 refine pw_boxr (by rfl) 33 _ rfl (sxC n m (.slice ab us.length c) v2) rfl ?_
 intro g2 z0 n0 r2 k
 simp only [Act.put, pu]
 have b2 := Nat.le_trans sb.size n0
 clear n0
 replace sb := sb.trans (k.below w.heap.size sb.size (by simp <;> omega))
 clear k
 refine pw_value (by rfl) (.int .i64 0) (fun _ => rfl) ?_
 simp only [Act.put, pu]
 refine pw_value (by rfl) (.bool false) (fun _ => rfl) ?_
 simp only [Act.put, pu]
 refine pw_nil ?_
 (repeat ((fail_if_success with_reducible refine rg ?_); go_step))
 refine wp_region_pw ?_
 refine pw_value (by rfl) (.int .i64 0) (fun _ => rfl) ?_
 simp only [Act.put, pu]
 refine pw_value (by rfl) (.bool false) (fun _ => rfl) ?_
 simp only [Act.put, pu]
 refine pw_nil ?_
 (repeat ((fail_if_success with_reducible refine rg ?_); go_step))
 refine wp_region_pw ?_
 refine pw_value (by rfl) (.int .i64 0) (fun _ => rfl) ?_
 simp only [Act.put, pu]
 refine pw_nil ?_
 go_wp2_with fail
 go_loopg [6, 7, 8] us.length (fun x' s6 s7 s8 wr => ∃ (j r : Nat) (d : Bool), j + x' = us.length ∧ rk x (us.take j) = r ∧ decide (x ∈ us.take j) = d ∧ r ≤ j ∧ s6 = .int .i64 (r : Nat) ∧ s7 = .bool d ∧ s8 = .int .i64 j ∧ Row wr g2 (sxC n m (.slice ab us.length c) v2) 33 ∧ Below w.heap.size w wr)
 case atStart => exact ⟨0, 0, false, by omega, rfl, rfl, Nat.le_refl _, rfl, rfl, rfl, r2, sb⟩
 case round =>
  clear sb r2
  obtain ⟨j, r, d, hj, hr, hd, hrj, rfl, rfl, rfl, r2, sb⟩ := hrel
  have HU : Hid (rk x (us.take j) = r) := hr
  have HK : Hid (decide (x ∈ us.take j) = d) := hd
  clear hr hd
  cases gk with
  | zero =>
   have h1 : ¬ (j : Int) < (us.length : Int) := by omega
   have hU : rk x us = r := by rw [← HU.out, List.take_of_length_le (by omega)]
   have hK : decide (x ∈ us) = d := by rw [← HK.out, List.take_of_length_le (by omega)]
   clear hj HU HK
   cases d with
   | true =>
    have HF : Hid (fdP us x = r ∧ fdB us x = true) := by
     unfold fdP fdB
     exact ⟨by rw [if_pos (of_decide_eq_true hK), hU], hK⟩
    clear hU hK
    (repeat ((fail_if_success with_reducible refine rg ?_); go_step))
    refine wp_region_pw ?_
    refine pw_mv (by rfl) rfl rfl ?_
    simp only [Act.put, pu]
    refine pw_value (by rfl) (.pointer (some ⟨g2, 2, none⟩)) (exec_field 33 _ 2 rfl g2 0 rfl _ Try.underlying33 _ rfl 0 Try.sizeOf30) ?_
    simp only [Act.put, pu]
    refine pw_loadk (by rfl) 30 _ rfl _ (2) rfl r2.r (.slice (ab) us.length c) rfl Try.isAgg30 ?_
    simp only [Act.put, pu]
    refine pw_value (by rfl) (.int .i64 (us.length : Nat)) (exec_len_s 30 _ rfl (ab) (us.length) (c) rfl sl_strs) ?_
    simp only [Act.put, pu]
    refine pw_value (by rfl) (.bool false) (exec_lt_b _ _ _ _ rfl ((j : Nat)) ((us.length : Nat)) rfl rfl false (decide_eq_false h1)) ?_
    simp only [Act.put, pu]
    refine pw_nil ?_
    (repeat ((fail_if_success with_reducible refine rg ?_); go_step))
    refine wp_region_pw ?_
    refine pw_mv (by rfl) rfl rfl ?_
    simp only [Act.put, pu]
    refine pw_value (by rfl) (.bool false) (exec_not _ _ rfl true rfl) ?_
    simp only [Act.put, pu]
    refine pw_nil ?_
    (repeat ((fail_if_success with_reducible refine rg ?_); go_step))
    refine wp_region_pw ?_
    refine pw_mv (by rfl) rfl rfl ?_
    simp only [Act.put, pu]
    refine pw_as (by rfl) rfl rfl ?_
    simp only [Act.put, pu]
    refine pw_value (by rfl) (.bool true) (fun _ => rfl) ?_
    simp only [Act.put, pu]
    refine pw_nil ?_
    go_wp2
    go_ret2
    exact ⟨by rw [HF.out.1, HF.out.2]; rfl, sb⟩
   | false =>
    have HF : Hid (fdP us x = 0 ∧ fdB us x = false) := by
     unfold fdP fdB
     exact ⟨if_neg (of_decide_eq_false hK), hK⟩
    clear hU hK
    (repeat ((fail_if_success with_reducible refine rg ?_); go_step))
    refine wp_region_pw ?_
    refine pw_mv (by rfl) rfl rfl ?_
    simp only [Act.put, pu]
    refine pw_value (by rfl) (.pointer (some ⟨g2, 2, none⟩)) (exec_field 33 _ 2 rfl g2 0 rfl _ Try.underlying33 _ rfl 0 Try.sizeOf30) ?_
    simp only [Act.put, pu]
    refine pw_loadk (by rfl) 30 _ rfl _ (2) rfl r2.r (.slice (ab) us.length c) rfl Try.isAgg30 ?_
    simp only [Act.put, pu]
    refine pw_value (by rfl) (.int .i64 (us.length : Nat)) (exec_len_s 30 _ rfl (ab) (us.length) (c) rfl sl_strs) ?_
    simp only [Act.put, pu]
    refine pw_value (by rfl) (.bool false) (exec_lt_b _ _ _ _ rfl ((j : Nat)) ((us.length : Nat)) rfl rfl false (decide_eq_false h1)) ?_
    simp only [Act.put, pu]
    refine pw_nil ?_
    (repeat ((fail_if_success with_reducible refine rg ?_); go_step))
    refine wp_region_pw ?_
    refine pw_mv (by rfl) rfl rfl ?_
    simp only [Act.put, pu]
    refine pw_value (by rfl) (.bool true) (exec_not _ _ rfl false rfl) ?_
    simp only [Act.put, pu]
    refine pw_nil ?_
    (repeat ((fail_if_success with_reducible refine rg ?_); go_step))
    refine wp_region_pw ?_
    refine pw_value (by rfl) (.int .i64 0) (fun _ => rfl) ?_
    simp only [Act.put, pu]
    refine pw_value (by rfl) (.bool false) (fun _ => rfl) ?_
    simp only [Act.put, pu]
    refine pw_nil ?_
    go_wp2
    go_ret2
    exact ⟨by rw [HF.out.1, HF.out.2]; rfl, sb⟩
  | succ y =>
   have hlt : j < us.length := by omega
   have h1 : (j : Int) < (us.length : Int) := by omega
   obtain h0 | ⟨rfl, rB, hbt⟩ := (HB.out.below sb).at'
   ·exact absurd h0 (by omega)
   obtain ⟨k, hk⟩ : ∃ k, us.getD j [] = k := ⟨_, rfl⟩
   have HX : Hid (us.getD j [] = k) := hk
   have hbx : bcs[ob + j * 1]? = some (.string ⟨k.toArray⟩) := by rw [← hk]; exact hbt j hlt 0 _ rfl
   clear hbt hk
   cases h2 : lb k x with
   | true =>
    have H2 : Hid (lb k x = true) := h2
    cases d with
    | true =>
     (repeat ((fail_if_success with_reducible refine rg ?_); go_step))
     refine wp_region_pw ?_
     refine pw_mv (by rfl) rfl rfl ?_
     simp only [Act.put, pu]
     refine pw_value (by rfl) (.pointer (some ⟨g2, 2, none⟩)) (exec_field 33 _ 2 rfl g2 0 rfl _ Try.underlying33 _ rfl 0 Try.sizeOf30) ?_
     simp only [Act.put, pu]
     refine pw_loadk (by rfl) 30 _ rfl _ (2) rfl r2.r (.slice (some ⟨gb, ob, none⟩) us.length c) rfl Try.isAgg30 ?_
     simp only [Act.put, pu]
     refine pw_value (by rfl) (.int .i64 (us.length : Nat)) (exec_len_s 30 _ rfl (some ⟨gb, ob, none⟩) (us.length) (c) rfl sl_strs) ?_
     simp only [Act.put, pu]
     refine pw_value (by rfl) (.bool true) (exec_lt_b _ _ _ _ rfl ((j : Nat)) ((us.length : Nat)) rfl rfl true (decide_eq_true h1)) ?_
     simp only [Act.put, pu]
     refine pw_nil ?_
     (repeat ((fail_if_success with_reducible refine rg ?_); go_step))
     refine wp_region_pw ?_
     refine pw_value (by rfl) (.pointer (some ⟨g2, 2, none⟩)) (exec_field 33 _ 2 rfl g2 0 rfl _ Try.underlying33 _ rfl 0 Try.sizeOf30) ?_
     simp only [Act.put, pu]
     refine pw_loadk (by rfl) 30 _ rfl _ (2) rfl r2.r (.slice (some ⟨gb, ob, none⟩) us.length c) rfl Try.isAgg30 ?_
     simp only [Act.put, pu]
     refine pw_mv (by rfl) rfl rfl ?_
     simp only [Act.put, pu]
     refine pw_value (by rfl) (.pointer (some ⟨gb, ob + j * 1, none⟩)) ((exec_index_s 30 _ _ rfl (gb) (ob) (us.length) (c) rfl (j) rfl (hlt) _ Try.underlying30 1 Try.sizeOf9)) ?_
     simp only [Act.put, pu]
     refine pw_loadk (by rfl) 9 _ rfl _ (ob + j * 1) rfl rB (.string ⟨k.toArray⟩) hbx Try.isAgg9 ?_
     simp only [Act.put, pu]
     refine pw_mv (by rfl) rfl rfl ?_
     simp only [Act.put, pu]
     refine pw_value (by rfl) (.bool true) (y_lss _ _ _ _ rfl (k) (x) rfl rfl (true) (h2)) ?_
     simp only [Act.put, pu]
     refine pw_nil ?_
     (repeat ((fail_if_success with_reducible refine rg ?_); go_step))
     refine wp_region_pw ?_
     refine pw_mv (by rfl) rfl rfl ?_
     simp only [Act.put, pu]
     refine pw_value (by rfl) (.int .i64 (((r + 1 : Nat) : Int))) (x_addz _ _ _ _ rfl ((r : Nat)) (1) (((r + 1 : Nat) : Int)) rfl rfl (by omega) (by omega) (by omega)) ?_
     simp only [Act.put, pu]
     refine pw_as (by rfl) rfl rfl ?_
     simp only [Act.put, pu]
     refine pw_nil ?_
     (repeat ((fail_if_success with_reducible refine rg ?_); go_step))
     refine wp_region_pw ?_
     refine pw_mv (by rfl) rfl rfl ?_
     simp only [Act.put, pu]
     refine pw_mv (by rfl) rfl rfl ?_
     simp only [Act.put, pu]
     refine pw_skip (by rfl) ?_
     simp only [Act.put, pu]
     refine pw_skip (by rfl) ?_
     simp only [Act.put, pu]
     refine pw_skip (by rfl) ?_
     simp only [Act.put, pu]
     refine pw_skip (by rfl) ?_
     simp only [Act.put, pu]
     refine pw_skip (by rfl) ?_
     simp only [Act.put, pu]
     refine pw_skip (by rfl) ?_
     simp only [Act.put, pu]
     refine pw_skip (by rfl) ?_
     simp only [Act.put, pu]
     refine pw_pick (by rfl) true (v := .bool true) rfl rfl rfl ?_
     simp only [Act.put, pu]
     refine pw_as (by rfl) rfl rfl ?_
     simp only [Act.put, pu]
     refine pw_nil ?_
     clear rB
     (repeat ((fail_if_success with_reducible refine rg ?_); go_step))
     refine wp_region_pw ?_
     refine pw_mv (by rfl) rfl rfl ?_
     simp only [Act.put, pu]
     refine pw_value (by rfl) (.int .i64 (((j + 1 : Nat) : Int))) (x_addz _ _ _ _ rfl ((j : Nat)) (1) (((j + 1 : Nat) : Int)) rfl rfl (by omega) (by omega) (by omega)) ?_
     simp only [Act.put, pu]
     refine pw_as (by rfl) rfl rfl ?_
     simp only [Act.put, pu]
     refine pw_nil ?_
     go_wp2
     go_roundg y
     case measure => omega
     case rel => exact ⟨j + 1, r + 1, true, by omega, by rw [rk_take hlt, HX.out, HU.out]; rw [if_pos H2.out], by rw [mem_take hlt, HX.out, HK.out]; rfl, by omega, rfl, rfl, rfl, r2, sb⟩
    | false =>
     cases h3 : decide (k = x) with
     | true =>
      have H3 : Hid (decide (k = x) = true) := h3
      (repeat ((fail_if_success with_reducible refine rg ?_); go_step))
      refine wp_region_pw ?_
      refine pw_mv (by rfl) rfl rfl ?_
      simp only [Act.put, pu]
      refine pw_value (by rfl) (.pointer (some ⟨g2, 2, none⟩)) (exec_field 33 _ 2 rfl g2 0 rfl _ Try.underlying33 _ rfl 0 Try.sizeOf30) ?_
      simp only [Act.put, pu]
      refine pw_loadk (by rfl) 30 _ rfl _ (2) rfl r2.r (.slice (some ⟨gb, ob, none⟩) us.length c) rfl Try.isAgg30 ?_
      simp only [Act.put, pu]
      refine pw_value (by rfl) (.int .i64 (us.length : Nat)) (exec_len_s 30 _ rfl (some ⟨gb, ob, none⟩) (us.length) (c) rfl sl_strs) ?_
      simp only [Act.put, pu]
      refine pw_value (by rfl) (.bool true) (exec_lt_b _ _ _ _ rfl ((j : Nat)) ((us.length : Nat)) rfl rfl true (decide_eq_true h1)) ?_
      simp only [Act.put, pu]
      refine pw_nil ?_
      (repeat ((fail_if_success with_reducible refine rg ?_); go_step))
      refine wp_region_pw ?_
      refine pw_value (by rfl) (.pointer (some ⟨g2, 2, none⟩)) (exec_field 33 _ 2 rfl g2 0 rfl _ Try.underlying33 _ rfl 0 Try.sizeOf30) ?_
      simp only [Act.put, pu]
      refine pw_loadk (by rfl) 30 _ rfl _ (2) rfl r2.r (.slice (some ⟨gb, ob, none⟩) us.length c) rfl Try.isAgg30 ?_
      simp only [Act.put, pu]
      refine pw_mv (by rfl) rfl rfl ?_
      simp only [Act.put, pu]
      refine pw_value (by rfl) (.pointer (some ⟨gb, ob + j * 1, none⟩)) ((exec_index_s 30 _ _ rfl (gb) (ob) (us.length) (c) rfl (j) rfl (hlt) _ Try.underlying30 1 Try.sizeOf9)) ?_
      simp only [Act.put, pu]
      refine pw_loadk (by rfl) 9 _ rfl _ (ob + j * 1) rfl rB (.string ⟨k.toArray⟩) hbx Try.isAgg9 ?_
      simp only [Act.put, pu]
      refine pw_mv (by rfl) rfl rfl ?_
      simp only [Act.put, pu]
      refine pw_value (by rfl) (.bool true) (y_lss _ _ _ _ rfl (k) (x) rfl rfl (true) (h2)) ?_
      simp only [Act.put, pu]
      refine pw_nil ?_
      (repeat ((fail_if_success with_reducible refine rg ?_); go_step))
      refine wp_region_pw ?_
      refine pw_mv (by rfl) rfl rfl ?_
      simp only [Act.put, pu]
      refine pw_value (by rfl) (.int .i64 (((r + 1 : Nat) : Int))) (x_addz _ _ _ _ rfl ((r : Nat)) (1) (((r + 1 : Nat) : Int)) rfl rfl (by omega) (by omega) (by omega)) ?_
      simp only [Act.put, pu]
      refine pw_as (by rfl) rfl rfl ?_
      simp only [Act.put, pu]
      refine pw_nil ?_
      (repeat ((fail_if_success with_reducible refine rg ?_); go_step))
      refine wp_region_pw ?_
      refine pw_mv (by rfl) rfl rfl ?_
      simp only [Act.put, pu]
      refine pw_mv (by rfl) rfl rfl ?_
      simp only [Act.put, pu]
      refine pw_value (by rfl) (.pointer (some ⟨g2, 2, none⟩)) (exec_field 33 _ 2 rfl g2 0 rfl _ Try.underlying33 _ rfl 0 Try.sizeOf30) ?_
      simp only [Act.put, pu]
      refine pw_loadk (by rfl) 30 _ rfl _ (2) rfl r2.r (.slice (some ⟨gb, ob, none⟩) us.length c) rfl Try.isAgg30 ?_
      simp only [Act.put, pu]
      refine pw_mv (by rfl) rfl rfl ?_
      simp only [Act.put, pu]
      refine pw_value (by rfl) (.pointer (some ⟨gb, ob + j * 1, none⟩)) ((exec_index_s 30 _ _ rfl (gb) (ob) (us.length) (c) rfl (j) rfl (hlt) _ Try.underlying30 1 Try.sizeOf9)) ?_
      simp only [Act.put, pu]
      refine pw_loadk (by rfl) 9 _ rfl _ (ob + j * 1) rfl rB (.string ⟨k.toArray⟩) hbx Try.isAgg9 ?_
      simp only [Act.put, pu]
      refine pw_mv (by rfl) rfl rfl ?_
      simp only [Act.put, pu]
      refine pw_value (by rfl) (.bool true) (y_eqS _ _ _ _ rfl (k) (x) rfl rfl (true) (h3)) ?_
      simp only [Act.put, pu]
      refine pw_pick (by rfl) false (v := .bool true) rfl rfl rfl ?_
      simp only [Act.put, pu]
      refine pw_as (by rfl) rfl rfl ?_
      simp only [Act.put, pu]
      refine pw_nil ?_
      clear rB
      (repeat ((fail_if_success with_reducible refine rg ?_); go_step))
      refine wp_region_pw ?_
      refine pw_mv (by rfl) rfl rfl ?_
      simp only [Act.put, pu]
      refine pw_value (by rfl) (.int .i64 (((j + 1 : Nat) : Int))) (x_addz _ _ _ _ rfl ((j : Nat)) (1) (((j + 1 : Nat) : Int)) rfl rfl (by omega) (by omega) (by omega)) ?_
      simp only [Act.put, pu]
      refine pw_as (by rfl) rfl rfl ?_
      simp only [Act.put, pu]
      refine pw_nil ?_
      go_wp2
      go_roundg y
      case measure => omega
      case rel => exact ⟨j + 1, r + 1, true, by omega, by rw [rk_take hlt, HX.out, HU.out]; rw [if_pos H2.out], by rw [mem_take hlt, HX.out, HK.out]; rw [H3.out]; rfl, by omega, rfl, rfl, rfl, r2, sb⟩
     | false =>
      have H3 : Hid (decide (k = x) = false) := h3
      (repeat ((fail_if_success with_reducible refine rg ?_); go_step))
      refine wp_region_pw ?_
      refine pw_mv (by rfl) rfl rfl ?_
      simp only [Act.put, pu]
      refine pw_value (by rfl) (.pointer (some ⟨g2, 2, none⟩)) (exec_field 33 _ 2 rfl g2 0 rfl _ Try.underlying33 _ rfl 0 Try.sizeOf30) ?_
      simp only [Act.put, pu]
      refine pw_loadk (by rfl) 30 _ rfl _ (2) rfl r2.r (.slice (some ⟨gb, ob, none⟩) us.length c) rfl Try.isAgg30 ?_
      simp only [Act.put, pu]
      refine pw_value (by rfl) (.int .i64 (us.length : Nat)) (exec_len_s 30 _ rfl (some ⟨gb, ob, none⟩) (us.length) (c) rfl sl_strs) ?_
      simp only [Act.put, pu]
      refine pw_value (by rfl) (.bool true) (exec_lt_b _ _ _ _ rfl ((j : Nat)) ((us.length : Nat)) rfl rfl true (decide_eq_true h1)) ?_
      simp only [Act.put, pu]
      refine pw_nil ?_
      (repeat ((fail_if_success with_reducible refine rg ?_); go_step))
      refine wp_region_pw ?_
      refine pw_value (by rfl) (.pointer (some ⟨g2, 2, none⟩)) (exec_field 33 _ 2 rfl g2 0 rfl _ Try.underlying33 _ rfl 0 Try.sizeOf30) ?_
      simp only [Act.put, pu]
      refine pw_loadk (by rfl) 30 _ rfl _ (2) rfl r2.r (.slice (some ⟨gb, ob, none⟩) us.length c) rfl Try.isAgg30 ?_
      simp only [Act.put, pu]
      refine pw_mv (by rfl) rfl rfl ?_
      simp only [Act.put, pu]
      refine pw_value (by rfl) (.pointer (some ⟨gb, ob + j * 1, none⟩)) ((exec_index_s 30 _ _ rfl (gb) (ob) (us.length) (c) rfl (j) rfl (hlt) _ Try.underlying30 1 Try.sizeOf9)) ?_
      simp only [Act.put, pu]
      refine pw_loadk (by rfl) 9 _ rfl _ (ob + j * 1) rfl rB (.string ⟨k.toArray⟩) hbx Try.isAgg9 ?_
      simp only [Act.put, pu]
      refine pw_mv (by rfl) rfl rfl ?_
      simp only [Act.put, pu]
      refine pw_value (by rfl) (.bool true) (y_lss _ _ _ _ rfl (k) (x) rfl rfl (true) (h2)) ?_
      simp only [Act.put, pu]
      refine pw_nil ?_
      (repeat ((fail_if_success with_reducible refine rg ?_); go_step))
      refine wp_region_pw ?_
      refine pw_mv (by rfl) rfl rfl ?_
      simp only [Act.put, pu]
      refine pw_value (by rfl) (.int .i64 (((r + 1 : Nat) : Int))) (x_addz _ _ _ _ rfl ((r : Nat)) (1) (((r + 1 : Nat) : Int)) rfl rfl (by omega) (by omega) (by omega)) ?_
      simp only [Act.put, pu]
      refine pw_as (by rfl) rfl rfl ?_
      simp only [Act.put, pu]
      refine pw_nil ?_
      (repeat ((fail_if_success with_reducible refine rg ?_); go_step))
      refine wp_region_pw ?_
      refine pw_mv (by rfl) rfl rfl ?_
      simp only [Act.put, pu]
      refine pw_mv (by rfl) rfl rfl ?_
      simp only [Act.put, pu]
      refine pw_value (by rfl) (.pointer (some ⟨g2, 2, none⟩)) (exec_field 33 _ 2 rfl g2 0 rfl _ Try.underlying33 _ rfl 0 Try.sizeOf30) ?_
      simp only [Act.put, pu]
      refine pw_loadk (by rfl) 30 _ rfl _ (2) rfl r2.r (.slice (some ⟨gb, ob, none⟩) us.length c) rfl Try.isAgg30 ?_
      simp only [Act.put, pu]
      refine pw_mv (by rfl) rfl rfl ?_
      simp only [Act.put, pu]
      refine pw_value (by rfl) (.pointer (some ⟨gb, ob + j * 1, none⟩)) ((exec_index_s 30 _ _ rfl (gb) (ob) (us.length) (c) rfl (j) rfl (hlt) _ Try.underlying30 1 Try.sizeOf9)) ?_
      simp only [Act.put, pu]
      refine pw_loadk (by rfl) 9 _ rfl _ (ob + j * 1) rfl rB (.string ⟨k.toArray⟩) hbx Try.isAgg9 ?_
      simp only [Act.put, pu]
      refine pw_mv (by rfl) rfl rfl ?_
      simp only [Act.put, pu]
      refine pw_value (by rfl) (.bool false) (y_eqS _ _ _ _ rfl (k) (x) rfl rfl (false) (h3)) ?_
      simp only [Act.put, pu]
      refine pw_pick (by rfl) false (v := .bool false) rfl rfl rfl ?_
      simp only [Act.put, pu]
      refine pw_as (by rfl) rfl rfl ?_
      simp only [Act.put, pu]
      refine pw_nil ?_
      clear rB
      (repeat ((fail_if_success with_reducible refine rg ?_); go_step))
      refine wp_region_pw ?_
      refine pw_mv (by rfl) rfl rfl ?_
      simp only [Act.put, pu]
      refine pw_value (by rfl) (.int .i64 (((j + 1 : Nat) : Int))) (x_addz _ _ _ _ rfl ((j : Nat)) (1) (((j + 1 : Nat) : Int)) rfl rfl (by omega) (by omega) (by omega)) ?_
      simp only [Act.put, pu]
      refine pw_as (by rfl) rfl rfl ?_
      simp only [Act.put, pu]
      refine pw_nil ?_
      go_wp2
      go_roundg y
      case measure => omega
      case rel => exact ⟨j + 1, r + 1, false, by omega, by rw [rk_take hlt, HX.out, HU.out]; rw [if_pos H2.out], by rw [mem_take hlt, HX.out, HK.out]; rw [H3.out]; rfl, by omega, rfl, rfl, rfl, r2, sb⟩
   | false =>
    have H2 : Hid (lb k x = false) := h2
    cases d with
    | true =>
     (repeat ((fail_if_success with_reducible refine rg ?_); go_step))
     refine wp_region_pw ?_
     refine pw_mv (by rfl) rfl rfl ?_
     simp only [Act.put, pu]
     refine pw_value (by rfl) (.pointer (some ⟨g2, 2, none⟩)) (exec_field 33 _ 2 rfl g2 0 rfl _ Try.underlying33 _ rfl 0 Try.sizeOf30) ?_
     simp only [Act.put, pu]
     refine pw_loadk (by rfl) 30 _ rfl _ (2) rfl r2.r (.slice (some ⟨gb, ob, none⟩) us.length c) rfl Try.isAgg30 ?_
     simp only [Act.put, pu]
     refine pw_value (by rfl) (.int .i64 (us.length : Nat)) (exec_len_s 30 _ rfl (some ⟨gb, ob, none⟩) (us.length) (c) rfl sl_strs) ?_
     simp only [Act.put, pu]
     refine pw_value (by rfl) (.bool true) (exec_lt_b _ _ _ _ rfl ((j : Nat)) ((us.length : Nat)) rfl rfl true (decide_eq_true h1)) ?_
     simp only [Act.put, pu]
     refine pw_nil ?_
     (repeat ((fail_if_success with_reducible refine rg ?_); go_step))
     refine wp_region_pw ?_
     refine pw_value (by rfl) (.pointer (some ⟨g2, 2, none⟩)) (exec_field 33 _ 2 rfl g2 0 rfl _ Try.underlying33 _ rfl 0 Try.sizeOf30) ?_
     simp only [Act.put, pu]
     refine pw_loadk (by rfl) 30 _ rfl _ (2) rfl r2.r (.slice (some ⟨gb, ob, none⟩) us.length c) rfl Try.isAgg30 ?_
     simp only [Act.put, pu]
     refine pw_mv (by rfl) rfl rfl ?_
     simp only [Act.put, pu]
     refine pw_value (by rfl) (.pointer (some ⟨gb, ob + j * 1, none⟩)) ((exec_index_s 30 _ _ rfl (gb) (ob) (us.length) (c) rfl (j) rfl (hlt) _ Try.underlying30 1 Try.sizeOf9)) ?_
     simp only [Act.put, pu]
     refine pw_loadk (by rfl) 9 _ rfl _ (ob + j * 1) rfl rB (.string ⟨k.toArray⟩) hbx Try.isAgg9 ?_
     simp only [Act.put, pu]
     refine pw_mv (by rfl) rfl rfl ?_
     simp only [Act.put, pu]
     refine pw_value (by rfl) (.bool false) (y_lss _ _ _ _ rfl (k) (x) rfl rfl (false) (h2)) ?_
     simp only [Act.put, pu]
     refine pw_nil ?_
     (repeat ((fail_if_success with_reducible refine rg ?_); go_step))
     refine wp_region_pw ?_
     refine pw_mv (by rfl) rfl rfl ?_
     simp only [Act.put, pu]
     refine pw_mv (by rfl) rfl rfl ?_
     simp only [Act.put, pu]
     refine pw_skip (by rfl) ?_
     simp only [Act.put, pu]
     refine pw_skip (by rfl) ?_
     simp only [Act.put, pu]
     refine pw_skip (by rfl) ?_
     simp only [Act.put, pu]
     refine pw_skip (by rfl) ?_
     simp only [Act.put, pu]
     refine pw_skip (by rfl) ?_
     simp only [Act.put, pu]
     refine pw_skip (by rfl) ?_
     simp only [Act.put, pu]
     refine pw_skip (by rfl) ?_
     simp only [Act.put, pu]
     refine pw_pick (by rfl) true (v := .bool true) rfl rfl rfl ?_
     simp only [Act.put, pu]
     refine pw_as (by rfl) rfl rfl ?_
     simp only [Act.put, pu]
     refine pw_nil ?_
     clear rB
     (repeat ((fail_if_success with_reducible refine rg ?_); go_step))
     refine wp_region_pw ?_
     refine pw_mv (by rfl) rfl rfl ?_
     simp only [Act.put, pu]
     refine pw_value (by rfl) (.int .i64 (((j + 1 : Nat) : Int))) (x_addz _ _ _ _ rfl ((j : Nat)) (1) (((j + 1 : Nat) : Int)) rfl rfl (by omega) (by omega) (by omega)) ?_
     simp only [Act.put, pu]
     refine pw_as (by rfl) rfl rfl ?_
     simp only [Act.put, pu]
     refine pw_nil ?_
     go_wp2
     go_roundg y
     case measure => omega
     case rel => exact ⟨j + 1, r, true, by omega, by rw [rk_take hlt, HX.out, HU.out]; rw [if_neg (by rw [H2.out]; decide)], by rw [mem_take hlt, HX.out, HK.out]; rfl, by omega, rfl, rfl, rfl, r2, sb⟩
    | false =>
     cases h3 : decide (k = x) with
     | true =>
      have H3 : Hid (decide (k = x) = true) := h3
      (repeat ((fail_if_success with_reducible refine rg ?_); go_step))
      refine wp_region_pw ?_
      refine pw_mv (by rfl) rfl rfl ?_
      simp only [Act.put, pu]
      refine pw_value (by rfl) (.pointer (some ⟨g2, 2, none⟩)) (exec_field 33 _ 2 rfl g2 0 rfl _ Try.underlying33 _ rfl 0 Try.sizeOf30) ?_
      simp only [Act.put, pu]
      refine pw_loadk (by rfl) 30 _ rfl _ (2) rfl r2.r (.slice (some ⟨gb, ob, none⟩) us.length c) rfl Try.isAgg30 ?_
      simp only [Act.put, pu]
      refine pw_value (by rfl) (.int .i64 (us.length : Nat)) (exec_len_s 30 _ rfl (some ⟨gb, ob, none⟩) (us.length) (c) rfl sl_strs) ?_
      simp only [Act.put, pu]
      refine pw_value (by rfl) (.bool true) (exec_lt_b _ _ _ _ rfl ((j : Nat)) ((us.length : Nat)) rfl rfl true (decide_eq_true h1)) ?_
      simp only [Act.put, pu]
      refine pw_nil ?_
      (repeat ((fail_if_success with_reducible refine rg ?_); go_step))
      refine wp_region_pw ?_
      refine pw_value (by rfl) (.pointer (some ⟨g2, 2, none⟩)) (exec_field 33 _ 2 rfl g2 0 rfl _ Try.underlying33 _ rfl 0 Try.sizeOf30) ?_
      simp only [Act.put, pu]
      refine pw_loadk (by rfl) 30 _ rfl _ (2) rfl r2.r (.slice (some ⟨gb, ob, none⟩) us.length c) rfl Try.isAgg30 ?_
      simp only [Act.put, pu]
      refine pw_mv (by rfl) rfl rfl ?_
      simp only [Act.put, pu]
      refine pw_value (by rfl) (.pointer (some ⟨gb, ob + j * 1, none⟩)) ((exec_index_s 30 _ _ rfl (gb) (ob) (us.length) (c) rfl (j) rfl (hlt) _ Try.underlying30 1 Try.sizeOf9)) ?_
      simp only [Act.put, pu]
      refine pw_loadk (by rfl) 9 _ rfl _ (ob + j * 1) rfl rB (.string ⟨k.toArray⟩) hbx Try.isAgg9 ?_
      simp only [Act.put, pu]
      refine pw_mv (by rfl) rfl rfl ?_
      simp only [Act.put, pu]
      refine pw_value (by rfl) (.bool false) (y_lss _ _ _ _ rfl (k) (x) rfl rfl (false) (h2)) ?_
      simp only [Act.put, pu]
      refine pw_nil ?_
      (repeat ((fail_if_success with_reducible refine rg ?_); go_step))
      refine wp_region_pw ?_
      refine pw_mv (by rfl) rfl rfl ?_
      simp only [Act.put, pu]
      refine pw_mv (by rfl) rfl rfl ?_
      simp only [Act.put, pu]
      refine pw_value (by rfl) (.pointer (some ⟨g2, 2, none⟩)) (exec_field 33 _ 2 rfl g2 0 rfl _ Try.underlying33 _ rfl 0 Try.sizeOf30) ?_
      simp only [Act.put, pu]
      refine pw_loadk (by rfl) 30 _ rfl _ (2) rfl r2.r (.slice (some ⟨gb, ob, none⟩) us.length c) rfl Try.isAgg30 ?_
      simp only [Act.put, pu]
      refine pw_mv (by rfl) rfl rfl ?_
      simp only [Act.put, pu]
      refine pw_value (by rfl) (.pointer (some ⟨gb, ob + j * 1, none⟩)) ((exec_index_s 30 _ _ rfl (gb) (ob) (us.length) (c) rfl (j) rfl (hlt) _ Try.underlying30 1 Try.sizeOf9)) ?_
      simp only [Act.put, pu]
      refine pw_loadk (by rfl) 9 _ rfl _ (ob + j * 1) rfl rB (.string ⟨k.toArray⟩) hbx Try.isAgg9 ?_
      simp only [Act.put, pu]
      refine pw_mv (by rfl) rfl rfl ?_
      simp only [Act.put, pu]
      refine pw_value (by rfl) (.bool true) (y_eqS _ _ _ _ rfl (k) (x) rfl rfl (true) (h3)) ?_
      simp only [Act.put, pu]
      refine pw_pick (by rfl) false (v := .bool true) rfl rfl rfl ?_
      simp only [Act.put, pu]
      refine pw_as (by rfl) rfl rfl ?_
      simp only [Act.put, pu]
      refine pw_nil ?_
      clear rB
      (repeat ((fail_if_success with_reducible refine rg ?_); go_step))
      refine wp_region_pw ?_
      refine pw_mv (by rfl) rfl rfl ?_
      simp only [Act.put, pu]
      refine pw_value (by rfl) (.int .i64 (((j + 1 : Nat) : Int))) (x_addz _ _ _ _ rfl ((j : Nat)) (1) (((j + 1 : Nat) : Int)) rfl rfl (by omega) (by omega) (by omega)) ?_
      simp only [Act.put, pu]
      refine pw_as (by rfl) rfl rfl ?_
      simp only [Act.put, pu]
      refine pw_nil ?_
      go_wp2
      go_roundg y
      case measure => omega
      case rel => exact ⟨j + 1, r, true, by omega, by rw [rk_take hlt, HX.out, HU.out]; rw [if_neg (by rw [H2.out]; decide)], by rw [mem_take hlt, HX.out, HK.out]; rw [H3.out]; rfl, by omega, rfl, rfl, rfl, r2, sb⟩
     | false =>
      have H3 : Hid (decide (k = x) = false) := h3
      (repeat ((fail_if_success with_reducible refine rg ?_); go_step))
      refine wp_region_pw ?_
      refine pw_mv (by rfl) rfl rfl ?_
      simp only [Act.put, pu]
      refine pw_value (by rfl) (.pointer (some ⟨g2, 2, none⟩)) (exec_field 33 _ 2 rfl g2 0 rfl _ Try.underlying33 _ rfl 0 Try.sizeOf30) ?_
      simp only [Act.put, pu]
      refine pw_loadk (by rfl) 30 _ rfl _ (2) rfl r2.r (.slice (some ⟨gb, ob, none⟩) us.length c) rfl Try.isAgg30 ?_
      simp only [Act.put, pu]
      refine pw_value (by rfl) (.int .i64 (us.length : Nat)) (exec_len_s 30 _ rfl (some ⟨gb, ob, none⟩) (us.length) (c) rfl sl_strs) ?_
      simp only [Act.put, pu]
      refine pw_value (by rfl) (.bool true) (exec_lt_b _ _ _ _ rfl ((j : Nat)) ((us.length : Nat)) rfl rfl true (decide_eq_true h1)) ?_
      simp only [Act.put, pu]
      refine pw_nil ?_
      (repeat ((fail_if_success with_reducible refine rg ?_); go_step))
      refine wp_region_pw ?_
      refine pw_value (by rfl) (.pointer (some ⟨g2, 2, none⟩)) (exec_field 33 _ 2 rfl g2 0 rfl _ Try.underlying33 _ rfl 0 Try.sizeOf30) ?_
      simp only [Act.put, pu]
      refine pw_loadk (by rfl) 30 _ rfl _ (2) rfl r2.r (.slice (some ⟨gb, ob, none⟩) us.length c) rfl Try.isAgg30 ?_
      simp only [Act.put, pu]
      refine pw_mv (by rfl) rfl rfl ?_
      simp only [Act.put, pu]
      refine pw_value (by rfl) (.pointer (some ⟨gb, ob + j * 1, none⟩)) ((exec_index_s 30 _ _ rfl (gb) (ob) (us.length) (c) rfl (j) rfl (hlt) _ Try.underlying30 1 Try.sizeOf9)) ?_
      simp only [Act.put, pu]
      refine pw_loadk (by rfl) 9 _ rfl _ (ob + j * 1) rfl rB (.string ⟨k.toArray⟩) hbx Try.isAgg9 ?_
      simp only [Act.put, pu]
      refine pw_mv (by rfl) rfl rfl ?_
      simp only [Act.put, pu]
      refine pw_value (by rfl) (.bool false) (y_lss _ _ _ _ rfl (k) (x) rfl rfl (false) (h2)) ?_
      simp only [Act.put, pu]
      refine pw_nil ?_
      (repeat ((fail_if_success with_reducible refine rg ?_); go_step))
      refine wp_region_pw ?_
      refine pw_mv (by rfl) rfl rfl ?_
      simp only [Act.put, pu]
      refine pw_mv (by rfl) rfl rfl ?_
      simp only [Act.put, pu]
      refine pw_value (by rfl) (.pointer (some ⟨g2, 2, none⟩)) (exec_field 33 _ 2 rfl g2 0 rfl _ Try.underlying33 _ rfl 0 Try.sizeOf30) ?_
      simp only [Act.put, pu]
      refine pw_loadk (by rfl) 30 _ rfl _ (2) rfl r2.r (.slice (some ⟨gb, ob, none⟩) us.length c) rfl Try.isAgg30 ?_
      simp only [Act.put, pu]
      refine pw_mv (by rfl) rfl rfl ?_
      simp only [Act.put, pu]
      refine pw_value (by rfl) (.pointer (some ⟨gb, ob + j * 1, none⟩)) ((exec_index_s 30 _ _ rfl (gb) (ob) (us.length) (c) rfl (j) rfl (hlt) _ Try.underlying30 1 Try.sizeOf9)) ?_
      simp only [Act.put, pu]
      refine pw_loadk (by rfl) 9 _ rfl _ (ob + j * 1) rfl rB (.string ⟨k.toArray⟩) hbx Try.isAgg9 ?_
      simp only [Act.put, pu]
      refine pw_mv (by rfl) rfl rfl ?_
      simp only [Act.put, pu]
      refine pw_value (by rfl) (.bool false) (y_eqS _ _ _ _ rfl (k) (x) rfl rfl (false) (h3)) ?_
      simp only [Act.put, pu]
      refine pw_pick (by rfl) false (v := .bool false) rfl rfl rfl ?_
      simp only [Act.put, pu]
      refine pw_as (by rfl) rfl rfl ?_
      simp only [Act.put, pu]
      refine pw_nil ?_
      clear rB
      (repeat ((fail_if_success with_reducible refine rg ?_); go_step))
      refine wp_region_pw ?_
      refine pw_mv (by rfl) rfl rfl ?_
      simp only [Act.put, pu]
      refine pw_value (by rfl) (.int .i64 (((j + 1 : Nat) : Int))) (x_addz _ _ _ _ rfl ((j : Nat)) (1) (((j + 1 : Nat) : Int)) rfl rfl (by omega) (by omega) (by omega)) ?_
      simp only [Act.put, pu]
      refine pw_as (by rfl) rfl rfl ?_
      simp only [Act.put, pu]
      refine pw_nil ?_
      go_wp2
      go_roundg y
      case measure => omega
      case rel => exact ⟨j + 1, r, false, by omega, by rw [rk_take hlt, HX.out, HU.out]; rw [if_neg (by rw [H2.out]; decide)], by rw [mem_take hlt, HX.out, HK.out]; rw [H3.out]; rfl, by omega, rfl, rfl, rfl, r2, sb⟩
theorem same_end {l k : List Ky} {j : Nat} (hj : j = l.length) (hl : l.length = k.length) (h : ∀ i, i < j → l.getD i [] = k.getD i []) : l = k := by
 apply List.ext_getElem hl
 intro i h1 h2
 have := h i (by omega)
 rw [List.getD_eq_getElem?_getD, List.getD_eq_getElem?_getD, List.getElem?_eq_getElem h1, List.getElem?_eq_getElem h2] at this
 exact this
set_option maxRecDepth 100000 in
set_option maxHeartbeats 2000000 in
theorem rsame_any (a1 : Option Addr) (c1 : Nat) (l : List Ky) (g1 o1 : Nat) (b1 : Array Value) (t1 : TypeId) (a2 : Option Addr) (c2 : Nat) (k : List Ky) (g2 o2 : Nat) (b2 : Array Value) (t2 : TypeId) (w : World) (hl : l.length ≤ 100000) (hk : k.length ≤ 100000) (hz : ElsAt 1 w a1 l.length (stC l) g1 o1 b1 t1) (hy : ElsAt 1 w a2 k.length (stC k) g2 o2 b2 t2) :
  Calls Try.prog 18 #[.slice a1 l.length c1, .slice a2 k.length c2] w fun e w' => e = .returned (.bool (decide (l = k))) ∧ Below w.heap.size w w' := by
 have HB : Hid (ElsAt 1 w a1 l.length (stC l) g1 o1 b1 t1) := hz
 have HC : Hid (ElsAt 1 w a2 k.length (stC k) g2 o2 b2 t2) := hy
 clear hz hy
 obtain ⟨R, hR⟩ : ∃ R, decide (l = k) = R := ⟨_, rfl⟩
 have HR : Hid (decide (l = k) = R) := hR
 rw [hR]
 clear hR
 by_cases hlk : l.length = k.length
 ·have h5 : (l.length : Int) = (k.length : Int) := by omega
  go_enter Try.func18, Try.ntmps18
  have sb := sbmk w
  (repeat ((fail_if_success with_reducible refine rg ?_); go_step))
  refine wp_region_pw ?_
  refine pw_value (by rfl) (.bool false) (fun _ => rfl) ?_
  simp only [Act.put, pu]
  refine pw_nil ?_
  (repeat ((fail_if_success with_reducible refine rg ?_); go_step))
  refine wp_region_pw ?_
  refine pw_mv (by rfl) rfl rfl ?_
  simp only [Act.put, pu]
  refine pw_value (by rfl) (.int .i64 (l.length : Nat)) (exec_len_s 30 _ rfl (a1) (l.length) (c1) rfl sl_strs) ?_
  simp only [Act.put, pu]
  refine pw_mv (by rfl) rfl rfl ?_
  simp only [Act.put, pu]
  refine pw_value (by rfl) (.int .i64 (k.length : Nat)) (exec_len_s 30 _ rfl (a2) (k.length) (c2) rfl sl_strs) ?_
  simp only [Act.put, pu]
  refine pw_value (by rfl) (.bool false) (exec_neq_k .i64 _ _ _ _ rfl ((l.length : Nat)) ((k.length : Nat)) rfl rfl false (by rw [decide_eq_true h5]; rfl)) ?_
  simp only [Act.put, pu]
  refine pw_nil ?_
  (repeat ((fail_if_success with_reducible refine rg ?_); go_step))
  refine wp_region_pw ?_
  refine pw_value (by rfl) (.int .i64 0) (fun _ => rfl) ?_
  simp only [Act.put, pu]
  refine pw_nil ?_
  go_wp2_with fail
  go_loopg [4, 5] l.length (fun x s4 s5 wr => ∃ j : Nat, j + x = l.length ∧ (∀ i, i < j → l.getD i [] = k.getD i []) ∧ s5 = .int .i64 j ∧ Below w.heap.size w wr)
  case atStart => exact ⟨0, by omega, fun i hi => absurd hi (Nat.not_lt_zero _), rfl, sb⟩
  case round =>
   clear sb
   obtain ⟨j, hj, hall, rfl, sb⟩ := hrel
   have HA : Hid (∀ i, i < j → l.getD i [] = k.getD i []) := hall
   clear hall
   cases gk with
   | zero =>
    have h1 : ¬ (j : Int) < (l.length : Int) := by omega
    have HF : Hid (R = true) := by rw [← HR.out]; exact decide_eq_true (same_end (by omega) hlk HA.out)
    clear hj HA
    (repeat ((fail_if_success with_reducible refine rg ?_); go_step))
    refine wp_region_pw ?_
    refine pw_mv (by rfl) rfl rfl ?_
    simp only [Act.put, pu]
    refine pw_mv (by rfl) rfl rfl ?_
    simp only [Act.put, pu]
    refine pw_value (by rfl) (.int .i64 (l.length : Nat)) (exec_len_s 30 _ rfl (a1) (l.length) (c1) rfl sl_strs) ?_
    simp only [Act.put, pu]
    refine pw_value (by rfl) (.bool false) (exec_lt_b _ _ _ _ rfl ((j : Nat)) ((l.length : Nat)) rfl rfl false (decide_eq_false h1)) ?_
    simp only [Act.put, pu]
    refine pw_nil ?_
    (repeat ((fail_if_success with_reducible refine rg ?_); go_step))
    refine wp_region_pw ?_
    refine pw_value (by rfl) (.bool true) (fun _ => rfl) ?_
    simp only [Act.put, pu]
    refine pw_nil ?_
    go_wp2
    go_ret
    exact ⟨by rw [HF.out]; rfl, sb⟩
   | succ y =>
    have hlt : j < l.length := by omega
    have hlk2 : j < k.length := by omega
    have h1 : (j : Int) < (l.length : Int) := by omega
    obtain h0 | ⟨rfl, rB, hbt⟩ := (HB.out.below sb).at'
    ·exact absurd h0 (by omega)
    obtain h0 | ⟨rfl, rC, hbu⟩ := (HC.out.below sb).at'
    ·exact absurd h0 (by omega)
    obtain ⟨p, hp⟩ : ∃ p, l.getD j [] = p := ⟨_, rfl⟩
    obtain ⟨q, hq⟩ : ∃ q, k.getD j [] = q := ⟨_, rfl⟩
    have hbx : b1[o1 + j * 1]? = some (.string ⟨p.toArray⟩) := by rw [← hp]; exact hbt j hlt 0 _ rfl
    have hby : b2[o2 + j * 1]? = some (.string ⟨q.toArray⟩) := by rw [← hq]; exact hbu j hlk2 0 _ rfl
    have HX : Hid (l.getD j [] = p ∧ k.getD j [] = q) := ⟨hp, hq⟩
    clear hbt hbu hp hq
    cases h2 : decide (p = q) with
    | true =>
     have H2 : Hid (p = q) := (of_decide_eq_true h2 : p = q)
     (repeat ((fail_if_success with_reducible refine rg ?_); go_step))
     refine wp_region_pw ?_
     refine pw_mv (by rfl) rfl rfl ?_
     simp only [Act.put, pu]
     refine pw_mv (by rfl) rfl rfl ?_
     simp only [Act.put, pu]
     refine pw_value (by rfl) (.int .i64 (l.length : Nat)) (exec_len_s 30 _ rfl (some ⟨g1, o1, none⟩) (l.length) (c1) rfl sl_strs) ?_
     simp only [Act.put, pu]
     refine pw_value (by rfl) (.bool true) (exec_lt_b _ _ _ _ rfl ((j : Nat)) ((l.length : Nat)) rfl rfl true (decide_eq_true h1)) ?_
     simp only [Act.put, pu]
     refine pw_nil ?_
     (repeat ((fail_if_success with_reducible refine rg ?_); go_step))
     refine wp_region_qw (by kernel_rfl) (by kernel_rfl) ?_
     refine qw_move (by rfl) rfl rfl ?_
     simp only [Act.put, pu]
     refine qw_move (by rfl) rfl rfl ?_
     simp only [Act.put, pu]
     refine qw_value (by rfl) (.pointer (some ⟨g1, o1 + j * 1, none⟩)) ((exec_index_s 30 _ _ rfl (g1) (o1) (l.length) (c1) rfl (j) rfl (hlt) _ Try.underlying30 1 Try.sizeOf9)) ?_
     simp only [Act.put, pu]
     refine qw_loadcR (by rfl) 9 _ rfl _ (o1 + j * 1) rfl rB (.string ⟨p.toArray⟩) hbx Try.isAgg9 ?_
     simp only [Act.put, pu]
     refine qw_move (by rfl) rfl rfl ?_
     simp only [Act.put, pu]
     refine qw_move (by rfl) rfl rfl ?_
     simp only [Act.put, pu]
     refine qw_value (by rfl) (.pointer (some ⟨g2, o2 + j * 1, none⟩)) ((exec_index_s 30 _ _ rfl (g2) (o2) (k.length) (c2) rfl (j) rfl (hlk2) _ Try.underlying30 1 Try.sizeOf9)) ?_
     simp only [Act.put, pu]
     refine qw_loadcR (by rfl) 9 _ rfl _ (o2 + j * 1) rfl rC (.string ⟨q.toArray⟩) hby Try.isAgg9 ?_
     simp only [Act.put, pu]
     refine qw_value (by rfl) (.bool false) (y_neS _ _ _ _ rfl (p) (q) rfl rfl (false) (h2)) ?_
     simp only [Act.put, pu]
     refine qw_nil ?_
     intro w9 hqb
     replace sb := below_on sb (Nat.le_refl _) hqb
     clear hqb
     clear rB rC
     (repeat ((fail_if_success with_reducible refine rg ?_); go_step))
     refine wp_region_pw ?_
     refine pw_mv (by rfl) rfl rfl ?_
     simp only [Act.put, pu]
     refine pw_value (by rfl) (.int .i64 (((j + 1 : Nat) : Int))) (x_addz _ _ _ _ rfl ((j : Nat)) (1) (((j + 1 : Nat) : Int)) rfl rfl (by omega) (by omega) (by omega)) ?_
     simp only [Act.put, pu]
     refine pw_as (by rfl) rfl rfl ?_
     simp only [Act.put, pu]
     refine pw_nil ?_
     go_wp2
     go_roundg y
     case measure => omega
     case rel =>
      refine ⟨j + 1, by omega, fun i hi => ?_, rfl, sb⟩
      by_cases e : i = j
      ·rw [e, HX.out.1, HX.out.2]; exact H2.out
      ·exact HA.out i (by omega)
    | false =>
     have HF : Hid (R = false) := by
      rw [← HR.out]
      exact decide_eq_false fun e => of_decide_eq_false h2 (by rw [← HX.out.1, ← HX.out.2, e])
     (repeat ((fail_if_success with_reducible refine rg ?_); go_step))
     refine wp_region_pw ?_
     refine pw_mv (by rfl) rfl rfl ?_
     simp only [Act.put, pu]
     refine pw_mv (by rfl) rfl rfl ?_
     simp only [Act.put, pu]
     refine pw_value (by rfl) (.int .i64 (l.length : Nat)) (exec_len_s 30 _ rfl (some ⟨g1, o1, none⟩) (l.length) (c1) rfl sl_strs) ?_
     simp only [Act.put, pu]
     refine pw_value (by rfl) (.bool true) (exec_lt_b _ _ _ _ rfl ((j : Nat)) ((l.length : Nat)) rfl rfl true (decide_eq_true h1)) ?_
     simp only [Act.put, pu]
     refine pw_nil ?_
     (repeat ((fail_if_success with_reducible refine rg ?_); go_step))
     refine wp_region_qw (by kernel_rfl) (by kernel_rfl) ?_
     refine qw_move (by rfl) rfl rfl ?_
     simp only [Act.put, pu]
     refine qw_move (by rfl) rfl rfl ?_
     simp only [Act.put, pu]
     refine qw_value (by rfl) (.pointer (some ⟨g1, o1 + j * 1, none⟩)) ((exec_index_s 30 _ _ rfl (g1) (o1) (l.length) (c1) rfl (j) rfl (hlt) _ Try.underlying30 1 Try.sizeOf9)) ?_
     simp only [Act.put, pu]
     refine qw_loadcR (by rfl) 9 _ rfl _ (o1 + j * 1) rfl rB (.string ⟨p.toArray⟩) hbx Try.isAgg9 ?_
     simp only [Act.put, pu]
     refine qw_move (by rfl) rfl rfl ?_
     simp only [Act.put, pu]
     refine qw_move (by rfl) rfl rfl ?_
     simp only [Act.put, pu]
     refine qw_value (by rfl) (.pointer (some ⟨g2, o2 + j * 1, none⟩)) ((exec_index_s 30 _ _ rfl (g2) (o2) (k.length) (c2) rfl (j) rfl (hlk2) _ Try.underlying30 1 Try.sizeOf9)) ?_
     simp only [Act.put, pu]
     refine qw_loadcR (by rfl) 9 _ rfl _ (o2 + j * 1) rfl rC (.string ⟨q.toArray⟩) hby Try.isAgg9 ?_
     simp only [Act.put, pu]
     refine qw_value (by rfl) (.bool true) (y_neS _ _ _ _ rfl (p) (q) rfl rfl (true) (h2)) ?_
     simp only [Act.put, pu]
     refine qw_nil ?_
     intro w9 hqb
     replace sb := below_on sb (Nat.le_refl _) hqb
     clear hqb
     clear rB rC
     (repeat ((fail_if_success with_reducible refine rg ?_); go_step))
     refine wp_region_pw ?_
     refine pw_value (by rfl) (.bool false) (fun _ => rfl) ?_
     simp only [Act.put, pu]
     refine pw_nil ?_
     go_wp2
     go_ret
     exact ⟨by rw [HF.out]; rfl, sb⟩
 ·have h5 : ¬ (l.length : Int) = (k.length : Int) := by omega
  have HF : Hid (R = false) := by rw [← HR.out]; exact decide_eq_false fun e => hlk (by rw [e])
  go_enter Try.func18, Try.ntmps18
  have sb := sbmk w
  (repeat ((fail_if_success with_reducible refine rg ?_); go_step))
  refine wp_region_pw ?_
  refine pw_value (by rfl) (.bool false) (fun _ => rfl) ?_
  simp only [Act.put, pu]
  refine pw_nil ?_
  (repeat ((fail_if_success with_reducible refine rg ?_); go_step))
  refine wp_region_pw ?_
  refine pw_mv (by rfl) rfl rfl ?_
  simp only [Act.put, pu]
  refine pw_value (by rfl) (.int .i64 (l.length : Nat)) (exec_len_s 30 _ rfl (a1) (l.length) (c1) rfl sl_strs) ?_
  simp only [Act.put, pu]
  refine pw_mv (by rfl) rfl rfl ?_
  simp only [Act.put, pu]
  refine pw_value (by rfl) (.int .i64 (k.length : Nat)) (exec_len_s 30 _ rfl (a2) (k.length) (c2) rfl sl_strs) ?_
  simp only [Act.put, pu]
  refine pw_value (by rfl) (.bool true) (exec_neq_k .i64 _ _ _ _ rfl ((l.length : Nat)) ((k.length : Nat)) rfl rfl true (by rw [decide_eq_false h5]; rfl)) ?_
  simp only [Act.put, pu]
  refine pw_nil ?_
  (repeat ((fail_if_success with_reducible refine rg ?_); go_step))
  refine wp_region_pw ?_
  refine pw_value (by rfl) (.bool false) (fun _ => rfl) ?_
  simp only [Act.put, pu]
  refine pw_nil ?_
  go_wp2
  go_ret
  exact ⟨by rw [HF.out]; rfl, sb⟩
end Go.Proofs.Ytchiiphmpkmloaa
