/- TapeBytes: for every text and every ints: of a tape of up to 2^9 bytes so many bytes come one behind the other, or that there are no more; no condition. -/
import Derived.Test.YtlacmkliofnjcaaDoorTpAwake
import Derived.Test.YtlacmkliofnjcaaDoorTpLaid
namespace Go.Proofs.YtlacmkliofnjcaaDoor
open Go.ChangeShapes Go.WideShapes Go.ChangeAt Go.RowKit
open Go.ChangeMaps (open_string)
namespace tapeBytesP
set_option linter.unusedVariables false
theorem sl_ints : Tryd.prog.underlying 22 = some (.slice (Tryd.prog.elem 22)) := by kernel_rfl
set_option maxRecDepth 100000 in
set_option maxHeartbeats 2000000 in
theorem core0 (s : List UInt8) (m ca : Nat) (ab : Option Addr) (w : World) (h : 512 < s.length ∨ 20 < m) :
  Calls Tryd.prog 3 #[.string ⟨(s).toArray⟩, .slice ab m ca] w fun e w' => e = .returned (.bool true) ∧ Below w.heap.size w w' := by
 have haw := awake10_any
 go_enter Tryd.func3, Tryd.ntmps3
 have sb := sbmk w
 (repeat ((fail_if_success with_reducible refine rg ?_); go_step))
 refine wp_region_pw ?_
 refine pw_value (by rfl) (.bool false) (fun _ => rfl) ?_
 simp only [Act.put, pu]
 refine pw_nil ?_
 by_cases h12 : 512 < s.length
 ·clear h
  (repeat ((fail_if_success with_reducible refine rg ?_); go_step))
  refine wp_region_pw ?_
  refine pw_mv (by rfl) rfl rfl ?_
  simp only [Act.put, pu]
  refine pw_value (by rfl) (.int .i64 s.length) (y_lenS _ _ rfl s rfl Tryd.underlying9) ?_
  simp only [Act.put, pu]
  refine pw_value (by rfl) (.bool true) (exec_gt_i _ _ _ _ rfl s.length 512 rfl rfl true (decide_eq_true (by omega))) ?_
  simp only [Act.put, pu]
  refine pw_mv (by rfl) rfl rfl ?_
  simp only [Act.put, pu]
  refine pw_skip (by rfl) ?_
  simp only [Act.put, pu]
  refine pw_skip (by rfl) ?_
  simp only [Act.put, pu]
  refine pw_skip (by rfl) ?_
  simp only [Act.put, pu]
  refine pw_pick (by rfl) true (v := .bool true) rfl rfl rfl ?_
  simp only [Act.put, pu]
  refine pw_nil ?_
  (repeat ((fail_if_success with_reducible refine rg ?_); go_step))
  refine wp_region_pw ?_
  refine pw_callB (by rfl) 7 _ _ rfl Tryd.func7 (by kernel_rfl) #[] rfl _ (haw _) ?_
  intro z2000 k
  simp only [Act.put, pu]
  replace sb := sb.trans (k.below w.heap.size sb.size (by simp <;> omega))
  clear k
  refine pw_as (by rfl) rfl rfl ?_
  simp only [Act.put, pu]
  refine pw_nil ?_
  go_wp2
  go_ret
  exact ⟨rfl, sb⟩
 ·have hm12 : 20 < m := h.resolve_left h12
  clear h
  (repeat ((fail_if_success with_reducible refine rg ?_); go_step))
  refine wp_region_pw ?_
  refine pw_mv (by rfl) rfl rfl ?_
  simp only [Act.put, pu]
  refine pw_value (by rfl) (.int .i64 s.length) (y_lenS _ _ rfl s rfl Tryd.underlying9) ?_
  simp only [Act.put, pu]
  refine pw_value (by rfl) (.bool false) (exec_gt_i _ _ _ _ rfl s.length 512 rfl rfl false (decide_eq_false (by omega))) ?_
  simp only [Act.put, pu]
  refine pw_mv (by rfl) rfl rfl ?_
  simp only [Act.put, pu]
  refine pw_mv (by rfl) rfl rfl ?_
  simp only [Act.put, pu]
  refine pw_value (by rfl) (.int .i64 m) (exec_len_s 22 _ rfl ab m ca rfl sl_ints) ?_
  simp only [Act.put, pu]
  refine pw_value (by rfl) (.bool true) (exec_gt_i _ _ _ _ rfl m 20 rfl rfl true (decide_eq_true (by omega))) ?_
  simp only [Act.put, pu]
  refine pw_pick (by rfl) false (v := .bool true) rfl rfl rfl ?_
  simp only [Act.put, pu]
  refine pw_nil ?_
  (repeat ((fail_if_success with_reducible refine rg ?_); go_step))
  refine wp_region_pw ?_
  refine pw_callB (by rfl) 7 _ _ rfl Tryd.func7 (by kernel_rfl) #[] rfl _ (haw _) ?_
  intro z2000 k
  simp only [Act.put, pu]
  replace sb := sb.trans (k.below w.heap.size sb.size (by simp <;> omega))
  clear k
  refine pw_as (by rfl) rfl rfl ?_
  simp only [Act.put, pu]
  refine pw_nil ?_
  go_wp2
  go_ret
  exact ⟨rfl, sb⟩
set_option maxRecDepth 100000 in
set_option maxHeartbeats 2000000 in
theorem core1 (s : List UInt8) (m ca : Nat) (ab : Option Addr) (e : Nat → Int) (gb ob : Nat) (bcs : Array Value) (tb : TypeId) (w : World) (hs : ¬ 512 < s.length) (hm : ¬ 20 < m) (hI : IntsAt w ab m e gb ob bcs tb) :
  Calls Tryd.prog 3 #[.string ⟨(s).toArray⟩, .slice ab m ca] w fun e w' => e = .returned (.bool true) ∧ Below w.heap.size w w' := by
 have haw := awake10_any
 have HI : Hid (IntsAt w ab m e gb ob bcs tb) := hI
 clear hI
 have htn := fun w' => tnew_ok s w' (by omega)
 go_enter Tryd.func3, Tryd.ntmps3
 have sb := sbmk w
 (repeat ((fail_if_success with_reducible refine rg ?_); go_step))
 refine wp_region_pw ?_
 refine pw_value (by rfl) (.bool false) (fun _ => rfl) ?_
 simp only [Act.put, pu]
 refine pw_nil ?_
 (repeat ((fail_if_success with_reducible refine rg ?_); go_step))
 refine wp_region_pw ?_
 refine pw_mv (by rfl) rfl rfl ?_
 simp only [Act.put, pu]
 refine pw_value (by rfl) (.int .i64 s.length) (y_lenS _ _ rfl s rfl Tryd.underlying9) ?_
 simp only [Act.put, pu]
 refine pw_value (by rfl) (.bool false) (exec_gt_i _ _ _ _ rfl s.length 512 rfl rfl false (decide_eq_false (by omega))) ?_
 simp only [Act.put, pu]
 refine pw_mv (by rfl) rfl rfl ?_
 simp only [Act.put, pu]
 refine pw_mv (by rfl) rfl rfl ?_
 simp only [Act.put, pu]
 refine pw_value (by rfl) (.int .i64 m) (exec_len_s 22 _ rfl ab m ca rfl sl_ints) ?_
 simp only [Act.put, pu]
 refine pw_value (by rfl) (.bool false) (exec_gt_i _ _ _ _ rfl m 20 rfl rfl false (decide_eq_false (by omega))) ?_
 simp only [Act.put, pu]
 refine pw_pick (by rfl) false (v := .bool false) rfl rfl rfl ?_
 simp only [Act.put, pu]
 refine pw_nil ?_
 (repeat ((fail_if_success with_reducible refine rg ?_); go_step))
 refine wp_region_pw ?_
 refine pw_mv (by rfl) rfl rfl ?_
 simp only [Act.put, pu]
 refine pw_callE (by rfl) 8 _ _ rfl Tryd.func8 (by kernel_rfl) #[.string ⟨(s).toArray⟩] rfl (htn _) ?_
 rintro _ z3001 ⟨gT, rfl, nT, rT, hb⟩
 refine ⟨_, rfl, ?_⟩
 simp only [Act.put, pu]
 have bT := Nat.le_trans sb.size nT
 clear nT
 have k := Kept.ofBelow hb
 clear hb
 replace sb := sb.trans (k.below w.heap.size sb.size (by simp <;> omega))
 clear k
 refine pw_mv (by rfl) rfl rfl ?_
 simp only [Act.put, pu]
 refine pw_ext (by rfl) rfl rfl rfl ?_
 simp only [Act.put, pu]
 refine pw_ext (by rfl) rfl rfl rfl ?_
 simp only [Act.put, pu]
 refine pw_as (by rfl) rfl rfl ?_
 simp only [Act.put, pu]
 refine pw_as (by rfl) rfl rfl ?_
 simp only [Act.put, pu]
 refine pw_nil ?_
 clear htn
 (repeat ((fail_if_success with_reducible refine rg ?_); go_step))
 refine wp_region_pw ?_
 refine pw_mv (by rfl) rfl rfl ?_
 simp only [Act.put, pu]
 refine pw_value (by rfl) (.bool false) (exec_neq_k .i64 _ _ _ _ rfl 0 0 rfl rfl false rfl) ?_
 simp only [Act.put, pu]
 refine pw_mv (by rfl) rfl rfl ?_
 simp only [Act.put, pu]
 refine pw_mv (by rfl) rfl rfl ?_
 simp only [Act.put, pu]
 refine pw_value (by rfl) (.bool false) (exec_eql_nilp _ _ _ _ rfl (some ⟨gT, 0, none⟩) rfl rfl ptr_tp) ?_
 simp only [Act.put, pu]
 refine pw_pick (by rfl) false (v := .bool false) rfl rfl rfl ?_
 simp only [Act.put, pu]
 refine pw_nil ?_
 (repeat ((fail_if_success with_reducible refine rg ?_); go_step))
 refine wp_region_pw ?_
 refine pw_value (by rfl) (.int .i64 0) (fun _ => rfl) ?_
 simp only [Act.put, pu]
 refine pw_nil ?_
 (repeat ((fail_if_success with_reducible refine rg ?_); go_step))
 refine wp_region_pw ?_
 refine pw_value (by rfl) (.int .i64 0) (fun _ => rfl) ?_
 simp only [Act.put, pu]
 refine pw_nil ?_
 go_wp2_with fail
 go_loopg [7, 8, 9, 10] m (fun g s7 s8 s9 s10 wr => ∃ (i at' : Nat), i + g = m ∧ s8 = .int .i64 i ∧ s7 = .int .i64 at' ∧ at' ≤ s.length ∧ Row wr gT (tpC true (s.drop at')) 62 ∧ Below w.heap.size w wr)
 case atStart => exact ⟨0, 0, by omega, rfl, rfl, Nat.zero_le _, by rw [List.drop_zero]; exact rT, sb⟩
 case round =>
  clear rT sb
  obtain ⟨i, at', hi, rfl, rfl, hat, rT, sb⟩ := hrel
  cases gk with
  | zero =>
   obtain rfl : i = m := by omega
   clear hi
   (repeat ((fail_if_success with_reducible refine rg ?_); go_step))
   refine wp_region_pw ?_
   refine pw_mv (by rfl) rfl rfl ?_
   simp only [Act.put, pu]
   refine pw_mv (by rfl) rfl rfl ?_
   simp only [Act.put, pu]
   refine pw_value (by rfl) (.int .i64 i) (exec_len_s 22 _ rfl ab i ca rfl sl_ints) ?_
   simp only [Act.put, pu]
   refine pw_value (by rfl) (.bool false) (exec_lt_b _ _ _ _ rfl i i rfl rfl false (decide_eq_false (Int.lt_irrefl _))) ?_
   simp only [Act.put, pu]
   refine pw_nil ?_
   (repeat ((fail_if_success with_reducible refine rg ?_); go_step))
   refine wp_region_pw ?_
   refine pw_callB (by rfl) 7 _ _ rfl Tryd.func7 (by kernel_rfl) #[] rfl _ (haw _) ?_
   intro z22000 k
   simp only [Act.put, pu]
   replace sb := sb.trans (k.below w.heap.size sb.size (by simp <;> omega))
   clear k
   refine pw_as (by rfl) rfl rfl ?_
   simp only [Act.put, pu]
   refine pw_nil ?_
   go_wp2
   go_ret
   exact ⟨rfl, sb⟩
  | succ g =>
   clear haw
   have hlt : i < m := by omega
   (repeat ((fail_if_success with_reducible refine rg ?_); go_step))
   refine wp_region_pw ?_
   refine pw_mv (by rfl) rfl rfl ?_
   simp only [Act.put, pu]
   refine pw_mv (by rfl) rfl rfl ?_
   simp only [Act.put, pu]
   refine pw_value (by rfl) (.int .i64 m) (exec_len_s 22 _ rfl ab m ca rfl sl_ints) ?_
   simp only [Act.put, pu]
   refine pw_value (by rfl) (.bool true) (exec_lt_b _ _ _ _ rfl i m rfl rfl true (decide_eq_true (by omega))) ?_
   simp only [Act.put, pu]
   refine pw_nil ?_
   obtain h0 | ⟨rfl, rB0, hbt⟩ := HI.out.at'
   ·exact absurd h0 (by omega)
   have hz := hbt i hlt
   clear hbt
   by_cases hneg : e i < 0
   ·generalize e i = z at *
    have rB := rB0.belowAll sb
    (repeat ((fail_if_success with_reducible refine rg ?_); go_step))
    refine wp_region_pw ?_
    refine pw_mv (by rfl) rfl rfl ?_
    simp only [Act.put, pu]
    refine pw_mv (by rfl) rfl rfl ?_
    simp only [Act.put, pu]
    refine pw_mv (by rfl) rfl rfl ?_
    simp only [Act.put, pu]
    refine pw_value (by rfl) (.pointer (some ⟨gb, ob + i * 1, none⟩)) (exec_index_s 22 _ _ rfl gb ob m ca rfl i rfl hlt _ Tryd.underlying22 1 Tryd.sizeOf3) ?_
    simp only [Act.put, pu]
    refine pw_loadk (by rfl) 3 _ rfl _ (ob + i * 1) rfl rB (.int .i64 z) hz Tryd.isAgg3 ?_
    simp only [Act.put, pu]
    refine pw_callB (by rfl) 9 _ _ rfl Tryd.func9 (by kernel_rfl) #[.pointer (some ⟨gT, 0, none⟩), .int .i64 z] rfl _ (tbytes_neg gT (s.drop at') z _ hneg rT) ?_
    intro z10005 k
    simp only [Act.put, pu]
    replace rT := k.row rT (by simp <;> omega)
    replace sb := sb.trans (k.below w.heap.size sb.size (by simp <;> omega))
    clear k
    refine pw_mv (by rfl) rfl rfl ?_
    simp only [Act.put, pu]
    refine pw_ext (by rfl) rfl rfl rfl ?_
    simp only [Act.put, pu]
    refine pw_ext (by rfl) rfl rfl rfl ?_
    simp only [Act.put, pu]
    refine pw_as (by rfl) rfl rfl ?_
    simp only [Act.put, pu]
    refine pw_as (by rfl) rfl rfl ?_
    simp only [Act.put, pu]
    refine pw_nil ?_
    clear rB
    have rB := rB0.belowAll sb
    (repeat ((fail_if_success with_reducible refine rg ?_); go_step))
    refine wp_region_pw ?_
    refine pw_mv (by rfl) rfl rfl ?_
    simp only [Act.put, pu]
    refine pw_mv (by rfl) rfl rfl ?_
    simp only [Act.put, pu]
    refine pw_value (by rfl) (.pointer (some ⟨gb, ob + i * 1, none⟩)) (exec_index_s 22 _ _ rfl gb ob m ca rfl i rfl hlt _ Tryd.underlying22 1 Tryd.sizeOf3) ?_
    simp only [Act.put, pu]
    refine pw_loadk (by rfl) 3 _ rfl _ (ob + i * 1) rfl rB (.int .i64 z) hz Tryd.isAgg3 ?_
    simp only [Act.put, pu]
    refine pw_value (by rfl) (.bool true) (exec_lt_b _ _ _ _ rfl z 0 rfl rfl true (decide_eq_true (by omega))) ?_
    simp only [Act.put, pu]
    refine pw_as (by rfl) rfl rfl ?_
    simp only [Act.put, pu]
    refine pw_nil ?_
    clear rB
    (repeat ((fail_if_success with_reducible refine rg ?_); go_step))
    refine wp_region_pw ?_
    refine pw_mv (by rfl) rfl rfl ?_
    simp only [Act.put, pu]
    refine pw_value (by rfl) (.bool false) (y_neS _ _ _ _ rfl [] [] rfl rfl false rfl) ?_
    simp only [Act.put, pu]
    refine pw_mv (by rfl) rfl rfl ?_
    simp only [Act.put, pu]
    refine pw_mv (by rfl) rfl rfl ?_
    simp only [Act.put, pu]
    refine pw_value (by rfl) (.bool false) (exec_neq_k .i64 _ _ _ _ rfl 1 1 rfl rfl false rfl) ?_
    simp only [Act.put, pu]
    refine pw_pick (by rfl) false (v := .bool false) rfl rfl rfl ?_
    simp only [Act.put, pu]
    refine pw_nil ?_
    (repeat ((fail_if_success with_reducible refine rg ?_); go_step))
    refine wp_region_pw ?_
    refine pw_mv (by rfl) rfl rfl ?_
    simp only [Act.put, pu]
    refine pw_callB (by rfl) 10 _ _ rfl Tryd.func10 (by kernel_rfl) #[.pointer (some ⟨gT, 0, none⟩)] rfl _ (tleft_ok gT (s.drop (at')) _ rT) ?_
    intro z20001 k
    simp only [Act.put, pu]
    replace rT := k.row rT (by simp <;> omega)
    replace sb := sb.trans (k.below w.heap.size sb.size (by simp <;> omega))
    clear k
    refine pw_mv (by rfl) rfl rfl ?_
    simp only [Act.put, pu]
    refine pw_value (by rfl) (.int .i64 s.length) (y_lenS _ _ rfl s rfl Tryd.underlying9) ?_
    simp only [Act.put, pu]
    refine pw_mv (by rfl) rfl rfl ?_
    simp only [Act.put, pu]
    refine pw_value (by rfl) (.int .i64 ((s.length - (at') : Nat) : Int)) (exec_sub_in _ _ _ _ rfl s.length (at') rfl rfl (by omega) (by omega)) ?_
    simp only [Act.put, pu]
    refine pw_value (by rfl) (.bool false) (exec_neq_k .i64 _ _ _ _ rfl ((s.drop (at')).length : Nat) (s.length - (at') : Nat) rfl rfl false (by rw [List.length_drop, decide_eq_true rfl]; rfl)) ?_
    simp only [Act.put, pu]
    refine pw_nil ?_
    (repeat ((fail_if_success with_reducible refine rg ?_); go_step))
    refine wp_region_pw ?_
    refine pw_mv (by rfl) rfl rfl ?_
    simp only [Act.put, pu]
    refine pw_value (by rfl) (.int .i64 ((i + 1 : Nat) : Int)) (exec_add_in _ _ _ _ rfl i 1 rfl rfl (by omega)) ?_
    simp only [Act.put, pu]
    refine pw_as (by rfl) rfl rfl ?_
    simp only [Act.put, pu]
    refine pw_nil ?_
    go_wp2
    go_roundg g
    case measure => omega
    case rel => exact ⟨i + 1, at', by omega, rfl, rfl, by omega, rT, sb⟩
   ·by_cases hmore : ((s.length - at' : Nat) : Int) < e i
    ·have hmore2 : (((s.drop at').length : Nat) : Int) < e i := by rw [List.length_drop]; exact hmore
     generalize e i = z at *
     have rB := rB0.belowAll sb
     (repeat ((fail_if_success with_reducible refine rg ?_); go_step))
     refine wp_region_pw ?_
     refine pw_mv (by rfl) rfl rfl ?_
     simp only [Act.put, pu]
     refine pw_mv (by rfl) rfl rfl ?_
     simp only [Act.put, pu]
     refine pw_mv (by rfl) rfl rfl ?_
     simp only [Act.put, pu]
     refine pw_value (by rfl) (.pointer (some ⟨gb, ob + i * 1, none⟩)) (exec_index_s 22 _ _ rfl gb ob m ca rfl i rfl hlt _ Tryd.underlying22 1 Tryd.sizeOf3) ?_
     simp only [Act.put, pu]
     refine pw_loadk (by rfl) 3 _ rfl _ (ob + i * 1) rfl rB (.int .i64 z) hz Tryd.isAgg3 ?_
     simp only [Act.put, pu]
     refine pw_callB (by rfl) 9 _ _ rfl Tryd.func9 (by kernel_rfl) #[.pointer (some ⟨gT, 0, none⟩), .int .i64 z] rfl _ (tbytes_more gT (s.drop at') z _ hneg hmore2 rT) ?_
     intro z10005 k
     simp only [Act.put, pu]
     replace rT := k.row rT (by simp <;> omega)
     replace sb := sb.trans (k.below w.heap.size sb.size (by simp <;> omega))
     clear k
     refine pw_mv (by rfl) rfl rfl ?_
     simp only [Act.put, pu]
     refine pw_ext (by rfl) rfl rfl rfl ?_
     simp only [Act.put, pu]
     refine pw_ext (by rfl) rfl rfl rfl ?_
     simp only [Act.put, pu]
     refine pw_as (by rfl) rfl rfl ?_
     simp only [Act.put, pu]
     refine pw_as (by rfl) rfl rfl ?_
     simp only [Act.put, pu]
     refine pw_nil ?_
     clear rB
     have rB := rB0.belowAll sb
     (repeat ((fail_if_success with_reducible refine rg ?_); go_step))
     refine wp_region_pw ?_
     refine pw_mv (by rfl) rfl rfl ?_
     simp only [Act.put, pu]
     refine pw_mv (by rfl) rfl rfl ?_
     simp only [Act.put, pu]
     refine pw_value (by rfl) (.pointer (some ⟨gb, ob + i * 1, none⟩)) (exec_index_s 22 _ _ rfl gb ob m ca rfl i rfl hlt _ Tryd.underlying22 1 Tryd.sizeOf3) ?_
     simp only [Act.put, pu]
     refine pw_loadk (by rfl) 3 _ rfl _ (ob + i * 1) rfl rB (.int .i64 z) hz Tryd.isAgg3 ?_
     simp only [Act.put, pu]
     refine pw_value (by rfl) (.bool false) (exec_lt_b _ _ _ _ rfl z 0 rfl rfl false (decide_eq_false (by omega))) ?_
     simp only [Act.put, pu]
     refine pw_as (by rfl) rfl rfl ?_
     simp only [Act.put, pu]
     refine pw_nil ?_
     clear rB
     have rB := rB0.belowAll sb
     (repeat ((fail_if_success with_reducible refine rg ?_); go_step))
     refine wp_region_pw ?_
     refine pw_mv (by rfl) rfl rfl ?_
     simp only [Act.put, pu]
     refine pw_mv (by rfl) rfl rfl ?_
     simp only [Act.put, pu]
     refine pw_value (by rfl) (.pointer (some ⟨gb, ob + i * 1, none⟩)) (exec_index_s 22 _ _ rfl gb ob m ca rfl i rfl hlt _ Tryd.underlying22 1 Tryd.sizeOf3) ?_
     simp only [Act.put, pu]
     refine pw_loadk (by rfl) 3 _ rfl _ (ob + i * 1) rfl rB (.int .i64 z) hz Tryd.isAgg3 ?_
     simp only [Act.put, pu]
     refine pw_mv (by rfl) rfl rfl ?_
     simp only [Act.put, pu]
     refine pw_value (by rfl) (.int .i64 s.length) (y_lenS _ _ rfl s rfl Tryd.underlying9) ?_
     simp only [Act.put, pu]
     refine pw_mv (by rfl) rfl rfl ?_
     simp only [Act.put, pu]
     refine pw_value (by rfl) (.int .i64 ((s.length - at' : Nat) : Int)) (exec_sub_in _ _ _ _ rfl s.length at' rfl rfl (by omega) (by omega)) ?_
     simp only [Act.put, pu]
     refine pw_value (by rfl) (.bool true) (exec_gt_i _ _ _ _ rfl z (s.length - at' : Nat) rfl rfl true (decide_eq_true (by omega))) ?_
     simp only [Act.put, pu]
     refine pw_as (by rfl) rfl rfl ?_
     simp only [Act.put, pu]
     refine pw_nil ?_
     clear rB
     (repeat ((fail_if_success with_reducible refine rg ?_); go_step))
     refine wp_region_pw ?_
     refine pw_mv (by rfl) rfl rfl ?_
     simp only [Act.put, pu]
     refine pw_value (by rfl) (.bool false) (y_neS _ _ _ _ rfl [] [] rfl rfl false rfl) ?_
     simp only [Act.put, pu]
     refine pw_mv (by rfl) rfl rfl ?_
     simp only [Act.put, pu]
     refine pw_mv (by rfl) rfl rfl ?_
     simp only [Act.put, pu]
     refine pw_value (by rfl) (.bool false) (exec_neq_k .i64 _ _ _ _ rfl 5 5 rfl rfl false rfl) ?_
     simp only [Act.put, pu]
     refine pw_pick (by rfl) false (v := .bool false) rfl rfl rfl ?_
     simp only [Act.put, pu]
     refine pw_nil ?_
     (repeat ((fail_if_success with_reducible refine rg ?_); go_step))
     refine wp_region_pw ?_
     refine pw_mv (by rfl) rfl rfl ?_
     simp only [Act.put, pu]
     refine pw_callB (by rfl) 10 _ _ rfl Tryd.func10 (by kernel_rfl) #[.pointer (some ⟨gT, 0, none⟩)] rfl _ (tleft_ok gT (s.drop (at')) _ rT) ?_
     intro z20001 k
     simp only [Act.put, pu]
     replace rT := k.row rT (by simp <;> omega)
     replace sb := sb.trans (k.below w.heap.size sb.size (by simp <;> omega))
     clear k
     refine pw_mv (by rfl) rfl rfl ?_
     simp only [Act.put, pu]
     refine pw_value (by rfl) (.int .i64 s.length) (y_lenS _ _ rfl s rfl Tryd.underlying9) ?_
     simp only [Act.put, pu]
     refine pw_mv (by rfl) rfl rfl ?_
     simp only [Act.put, pu]
     refine pw_value (by rfl) (.int .i64 ((s.length - (at') : Nat) : Int)) (exec_sub_in _ _ _ _ rfl s.length (at') rfl rfl (by omega) (by omega)) ?_
     simp only [Act.put, pu]
     refine pw_value (by rfl) (.bool false) (exec_neq_k .i64 _ _ _ _ rfl ((s.drop (at')).length : Nat) (s.length - (at') : Nat) rfl rfl false (by rw [List.length_drop, decide_eq_true rfl]; rfl)) ?_
     simp only [Act.put, pu]
     refine pw_nil ?_
     (repeat ((fail_if_success with_reducible refine rg ?_); go_step))
     refine wp_region_pw ?_
     refine pw_mv (by rfl) rfl rfl ?_
     simp only [Act.put, pu]
     refine pw_value (by rfl) (.int .i64 ((i + 1 : Nat) : Int)) (exec_add_in _ _ _ _ rfl i 1 rfl rfl (by omega)) ?_
     simp only [Act.put, pu]
     refine pw_as (by rfl) rfl rfl ?_
     simp only [Act.put, pu]
     refine pw_nil ?_
     go_wp2
     go_roundg g
     case measure => omega
     case rel => exact ⟨i + 1, at', by omega, rfl, rfl, by omega, rT, sb⟩
    ·obtain ⟨n, hn⟩ := Int.eq_ofNat_of_zero_le (show 0 ≤ e i by omega)
     rw [hn] at hz hneg hmore
     have hle : n ≤ (s.drop at').length := by rw [List.length_drop]; omega
     have hsl : at' + n ≤ s.length := by omega
     have hby := fun w' (r : Row w' gT (tpC true (s.drop at')) 62) => tbytes_ok gT (s.drop at') n w' hle r
     rw [List.drop_drop] at hby
     have hmid := take_mid s at' n
     generalize (s.drop at').take n = b at *
     have rB := rB0.belowAll sb
     (repeat ((fail_if_success with_reducible refine rg ?_); go_step))
     refine wp_region_pw ?_
     refine pw_mv (by rfl) rfl rfl ?_
     simp only [Act.put, pu]
     refine pw_mv (by rfl) rfl rfl ?_
     simp only [Act.put, pu]
     refine pw_mv (by rfl) rfl rfl ?_
     simp only [Act.put, pu]
     refine pw_value (by rfl) (.pointer (some ⟨gb, ob + i * 1, none⟩)) (exec_index_s 22 _ _ rfl gb ob m ca rfl i rfl hlt _ Tryd.underlying22 1 Tryd.sizeOf3) ?_
     simp only [Act.put, pu]
     refine pw_loadk (by rfl) 3 _ rfl _ (ob + i * 1) rfl rB (.int .i64 (n : Nat)) hz Tryd.isAgg3 ?_
     simp only [Act.put, pu]
     refine pw_callE (by rfl) 9 _ _ rfl Tryd.func9 (by kernel_rfl) #[.pointer (some ⟨gT, 0, none⟩), .int .i64 (n : Nat)] rfl (hby _ rT) ?_
     have crT := rT.lt
     clear rT
     rintro _ z10005 ⟨rfl, rT, k⟩
     refine ⟨_, rfl, ?_⟩
     simp only [Act.put, pu]
     clear crT
     replace sb := sb.trans (k.below w.heap.size sb.size (by simp <;> omega))
     clear k
     refine pw_mv (by rfl) rfl rfl ?_
     simp only [Act.put, pu]
     refine pw_ext (by rfl) rfl rfl rfl ?_
     simp only [Act.put, pu]
     refine pw_ext (by rfl) rfl rfl rfl ?_
     simp only [Act.put, pu]
     refine pw_as (by rfl) rfl rfl ?_
     simp only [Act.put, pu]
     refine pw_as (by rfl) rfl rfl ?_
     simp only [Act.put, pu]
     refine pw_nil ?_
     clear rB
     clear hby
     have rB := rB0.belowAll sb
     (repeat ((fail_if_success with_reducible refine rg ?_); go_step))
     refine wp_region_pw ?_
     refine pw_mv (by rfl) rfl rfl ?_
     simp only [Act.put, pu]
     refine pw_mv (by rfl) rfl rfl ?_
     simp only [Act.put, pu]
     refine pw_value (by rfl) (.pointer (some ⟨gb, ob + i * 1, none⟩)) (exec_index_s 22 _ _ rfl gb ob m ca rfl i rfl hlt _ Tryd.underlying22 1 Tryd.sizeOf3) ?_
     simp only [Act.put, pu]
     refine pw_loadk (by rfl) 3 _ rfl _ (ob + i * 1) rfl rB (.int .i64 (n : Nat)) hz Tryd.isAgg3 ?_
     simp only [Act.put, pu]
     refine pw_value (by rfl) (.bool false) (exec_lt_b _ _ _ _ rfl (n : Nat) 0 rfl rfl false (decide_eq_false (by omega))) ?_
     simp only [Act.put, pu]
     refine pw_as (by rfl) rfl rfl ?_
     simp only [Act.put, pu]
     refine pw_nil ?_
     clear rB
     have rB := rB0.belowAll sb
     (repeat ((fail_if_success with_reducible refine rg ?_); go_step))
     refine wp_region_pw ?_
     refine pw_mv (by rfl) rfl rfl ?_
     simp only [Act.put, pu]
     refine pw_mv (by rfl) rfl rfl ?_
     simp only [Act.put, pu]
     refine pw_value (by rfl) (.pointer (some ⟨gb, ob + i * 1, none⟩)) (exec_index_s 22 _ _ rfl gb ob m ca rfl i rfl hlt _ Tryd.underlying22 1 Tryd.sizeOf3) ?_
     simp only [Act.put, pu]
     refine pw_loadk (by rfl) 3 _ rfl _ (ob + i * 1) rfl rB (.int .i64 (n : Nat)) hz Tryd.isAgg3 ?_
     simp only [Act.put, pu]
     refine pw_mv (by rfl) rfl rfl ?_
     simp only [Act.put, pu]
     refine pw_value (by rfl) (.int .i64 s.length) (y_lenS _ _ rfl s rfl Tryd.underlying9) ?_
     simp only [Act.put, pu]
     refine pw_mv (by rfl) rfl rfl ?_
     simp only [Act.put, pu]
     refine pw_value (by rfl) (.int .i64 ((s.length - at' : Nat) : Int)) (exec_sub_in _ _ _ _ rfl s.length at' rfl rfl (by omega) (by omega)) ?_
     simp only [Act.put, pu]
     refine pw_value (by rfl) (.bool false) (exec_gt_i _ _ _ _ rfl (n : Nat) (s.length - at' : Nat) rfl rfl false (decide_eq_false (by omega))) ?_
     simp only [Act.put, pu]
     refine pw_as (by rfl) rfl rfl ?_
     simp only [Act.put, pu]
     refine pw_nil ?_
     clear rB
     have rB := rB0.belowAll sb
     (repeat ((fail_if_success with_reducible refine rg ?_); go_step))
     refine wp_region_pw ?_
     refine pw_mv (by rfl) rfl rfl ?_
     simp only [Act.put, pu]
     refine pw_mv (by rfl) rfl rfl ?_
     simp only [Act.put, pu]
     refine pw_mv (by rfl) rfl rfl ?_
     simp only [Act.put, pu]
     refine pw_mv (by rfl) rfl rfl ?_
     simp only [Act.put, pu]
     refine pw_mv (by rfl) rfl rfl ?_
     simp only [Act.put, pu]
     refine pw_mv (by rfl) rfl rfl ?_
     simp only [Act.put, pu]
     refine pw_value (by rfl) (.pointer (some ⟨gb, ob + i * 1, none⟩)) (exec_index_s 22 _ _ rfl gb ob m ca rfl i rfl hlt _ Tryd.underlying22 1 Tryd.sizeOf3) ?_
     simp only [Act.put, pu]
     refine pw_loadk (by rfl) 3 _ rfl _ (ob + i * 1) rfl rB (.int .i64 (n : Nat)) hz Tryd.isAgg3 ?_
     simp only [Act.put, pu]
     refine pw_value (by rfl) (.int .i64 ((at' + n : Nat) : Int)) (exec_add_in _ _ _ _ rfl at' n rfl rfl (by omega)) ?_
     simp only [Act.put, pu]
     refine pw_value (by rfl) (.string ⟨(b).toArray⟩) (y_mid _ _ _ _ Tryd.underlying9 rfl s at' (at' + n) rfl rfl rfl (by omega) hsl _ hmid) ?_
     simp only [Act.put, pu]
     refine pw_value (by rfl) (.bool false) (y_neS _ _ _ _ rfl b b rfl rfl false (decide_eq_true rfl)) ?_
     simp only [Act.put, pu]
     refine pw_mv (by rfl) rfl rfl ?_
     simp only [Act.put, pu]
     refine pw_mv (by rfl) rfl rfl ?_
     simp only [Act.put, pu]
     refine pw_value (by rfl) (.bool false) (exec_neq_k .i64 _ _ _ _ rfl 0 0 rfl rfl false rfl) ?_
     simp only [Act.put, pu]
     refine pw_pick (by rfl) false (v := .bool false) rfl rfl rfl ?_
     simp only [Act.put, pu]
     refine pw_nil ?_
     clear rB
     have rB := rB0.belowAll sb
     (repeat ((fail_if_success with_reducible refine rg ?_); go_step))
     refine wp_region_pw ?_
     refine pw_mv (by rfl) rfl rfl ?_
     simp only [Act.put, pu]
     refine pw_mv (by rfl) rfl rfl ?_
     simp only [Act.put, pu]
     refine pw_mv (by rfl) rfl rfl ?_
     simp only [Act.put, pu]
     refine pw_value (by rfl) (.pointer (some ⟨gb, ob + i * 1, none⟩)) (exec_index_s 22 _ _ rfl gb ob m ca rfl i rfl hlt _ Tryd.underlying22 1 Tryd.sizeOf3) ?_
     simp only [Act.put, pu]
     refine pw_loadk (by rfl) 3 _ rfl _ (ob + i * 1) rfl rB (.int .i64 (n : Nat)) hz Tryd.isAgg3 ?_
     simp only [Act.put, pu]
     refine pw_value (by rfl) (.int .i64 ((at' + n : Nat) : Int)) (exec_add_in _ _ _ _ rfl at' n rfl rfl (by omega)) ?_
     simp only [Act.put, pu]
     refine pw_as (by rfl) rfl rfl ?_
     simp only [Act.put, pu]
     refine pw_nil ?_
     clear rB
     (repeat ((fail_if_success with_reducible refine rg ?_); go_step))
     refine wp_region_pw ?_
     refine pw_mv (by rfl) rfl rfl ?_
     simp only [Act.put, pu]
     refine pw_callB (by rfl) 10 _ _ rfl Tryd.func10 (by kernel_rfl) #[.pointer (some ⟨gT, 0, none⟩)] rfl _ (tleft_ok gT (s.drop (at' + n)) _ rT) ?_
     intro z20001 k
     simp only [Act.put, pu]
     replace rT := k.row rT (by simp <;> omega)
     replace sb := sb.trans (k.below w.heap.size sb.size (by simp <;> omega))
     clear k
     refine pw_mv (by rfl) rfl rfl ?_
     simp only [Act.put, pu]
     refine pw_value (by rfl) (.int .i64 s.length) (y_lenS _ _ rfl s rfl Tryd.underlying9) ?_
     simp only [Act.put, pu]
     refine pw_mv (by rfl) rfl rfl ?_
     simp only [Act.put, pu]
     refine pw_value (by rfl) (.int .i64 ((s.length - (at' + n) : Nat) : Int)) (exec_sub_in _ _ _ _ rfl s.length (at' + n) rfl rfl (by omega) (by omega)) ?_
     simp only [Act.put, pu]
     refine pw_value (by rfl) (.bool false) (exec_neq_k .i64 _ _ _ _ rfl ((s.drop (at' + n)).length : Nat) (s.length - (at' + n) : Nat) rfl rfl false (by rw [List.length_drop, decide_eq_true rfl]; rfl)) ?_
     simp only [Act.put, pu]
     refine pw_nil ?_
     (repeat ((fail_if_success with_reducible refine rg ?_); go_step))
     refine wp_region_pw ?_
     refine pw_mv (by rfl) rfl rfl ?_
     simp only [Act.put, pu]
     refine pw_value (by rfl) (.int .i64 ((i + 1 : Nat) : Int)) (exec_add_in _ _ _ _ rfl i 1 rfl rfl (by omega)) ?_
     simp only [Act.put, pu]
     refine pw_as (by rfl) rfl rfl ?_
     simp only [Act.put, pu]
     refine pw_nil ?_
     go_wp2
     go_roundg g
     case measure => omega
     case rel => exact ⟨i + 1, at' + n, by omega, rfl, rfl, by omega, rT, sb⟩
theorem walk (s : List UInt8) (m ca : Nat) (ab : Option Addr) (e : Nat → Int) (gb ob : Nat) (bcs : Array Value) (tb : TypeId) (w : World) (hI : IntsAt w ab m e gb ob bcs tb) :
  Calls Tryd.prog 3 #[.string ⟨(s).toArray⟩, .slice ab m ca] w fun e w' => e = .returned (.bool true) ∧ Below w.heap.size w w' := by
 by_cases h : 512 < s.length ∨ 20 < m
 ·exact core0 s m ca ab w h
 ·exact core1 s m ca ab e gb ob bcs tb w (fun h1 => h (.inl h1)) (fun h1 => h (.inr h1)) hI
set_option maxRecDepth 100000 in
theorem lifted (os : Os) (started : os.Started) (H : Type) (enc : TypeId × Value → H) :
  ReturnsInHanded {} Tryd.checked os 3 .any (fun w args => (Rows.tapeBytesSpec.pre enc Tryd.prog Tryd.f3 [] false w args ∧ laidMetH Tryd.prog lk w) ∧ sizedMet enc Tryd.prog Tryd.f3 (OpenSpec.ofChange Rows.tapeBytesSpec) false w args)
   (Rows.tapeBytesSpec.post enc Tryd.prog Tryd.f3 false true false false) := by
 refine returnsInHanded_of_change_and (C := Tryd.checked) (X := fun w _ => laidMetH Tryd.prog lk w) (fun _ _ _ hh h => h.of_heap hh) own started (by kernel_rfl) Tryd.func3
  (ChangeSpec.witness_shaped (enc := enc) (C := Tryd.checked) (os := os) (X := fun w _ => laidMetH Tryd.prog lk w) false (World.laidAll Tryd.prog os lk) #[.string ⟨#[]⟩, .slice none 0 0] 8 (World.laidAll_os _ _ _) (lk_shaped os _) (by kernel_rfl) (by kernel_rfl) (by kernel_rfl) (lk_met os _)) ?_
 intro W base args ds gs before hval0 hW _ _ hL _
 have hval : ∀ (j : Nat) t v, Tryd.f3.params[j]? = some t → args[j]? = some v → Value.okWide Tryd.prog W .any base t v := hval0
 have hW' := hW
 obtain ⟨p, q, hA0, hV, rfl, hfz, hnd⟩ := hW
 have hA : DataW.TrodAll enc Tryd.prog W 0 (fun _ => true) true Tryd.f3.params.toList args.toList ds p := hA0
 rw [Tryd.params3] at hA hval
 obtain ⟨v0, vs0, d0, ds0, p0, q0, hargs, rfl, rfl, h0, r0⟩ := trodAll_cons hA
 obtain ⟨v1, vs1, d1, ds1, p1, q1, rfl, rfl, rfl, h1, r1⟩ := trodAll_cons r0
 obtain ⟨rfl, rfl, rfl⟩ := trodAll_nil r1
 obtain rfl : args = #[v0, v1] := by cases args; simp_all
 obtain ⟨rfl, rfl⟩ := trodVars_none hV
 have k0 := h0
 have lt0 := lt_of_trod h0
 obtain ⟨⟨⟨s0⟩⟩, rfl, rfl, rfl, w0⟩ := open_string Tryd.underlying9 (hval 0 9 v0 rfl rfl) h0
 have k1 := h1
 have lt1 := lt_of_trod h1
 obtain ⟨ab1, m1, c1, rfl, hm1, e1, gb1, ob1, bcs1, tb1, hst1⟩ := open_ints (hval 1 22 v1 rfl rfl) h1
 clear hA0 hval0
 refine (walk s0 m1 c1 ab1 e1 gb1 ob1 bcs1 tb1 W hst1).mono fun e W' ⟨he, bel⟩ => ?_
 subst he
 exact ⟨_, rfl, _, _, _, [], _, [], hW', trodAll_mk1 (shut_bool Tryd.underlying4 _), (trodAll_cons_mk (Below.trod laidOut (by kernel_rfl) (of_decide_eq_true (by kernel_rfl)) k0 bel lt0) (trodAll_cons_mk (Below.trod laidOut (by kernel_rfl) (of_decide_eq_true (by kernel_rfl)) k1 bel lt1) trodAll_mk0)), rfl, bel.frame _, fun h => by cases h⟩
theorem over : Rows.tapeBytesRow.holds Tryd.pinned (OpenSpec.ofChange Rows.tapeBytesSpec) :=
 OpenClaim.holds_of_wide 3 Tryd.f3 rfl rfl rfl rfl rfl rfl rfl ⟨rfl, rfl, rfl, rfl, rfl⟩ rfl rfl rfl rfl rfl (by kernel_rfl) Tryd.func3 (by kernel_rfl)
  (of_decide_eq_true (by kernel_rfl)) (by unfold Func.isWrapper; first | (rw [if_pos (by decide +kernel)]; kernel_rfl) | (rw [if_neg (by decide +kernel)]; exact ⟨rfl, rfl⟩))
  (fun os started H enc _ => lifted os started H enc)
theorem card : Claim7.holds Tryd.pinned (.plain (OpenSpec.ofChange Rows.tapeBytesSpec)) Rows.tapeBytesCard :=
 Claim7.holds_tied_plain_at .later [] [.data, .pinned] true (true, "b2f3a635b080a807049dfd8a3bbcd83cfd1f2faf6c6deaae8cd420e9f63e0053") false
  over (fun _ h => by cases h) (by kernel_rfl) (fun _ h => by cases h) tapeBytes_row_tie rfl ⟨rfl, rfl⟩ (by kernel_rfl) rfl
  (fun f fn hf hfn => by
   obtain rfl : f = 3 := Option.some.inj ((show Tryd.prog.funcNamed "sacristy/sacristylaw10.TapeBytes" = some 3 by kernel_rfl).symm.trans hf) |>.symm
   obtain rfl : fn = Tryd.f3 := (Option.some.inj (Tryd.func3.symm.trans hfn)).symm
   exact ⟨by kernel_rfl, fun j t ht => by
    rw [Tryd.params3] at ht
    have hm : t ∈ [9, 22] := by simpa using Array.mem_of_getElem? ht
    have hall : ([9, 22].all fun u => !Tryd.prog.wantsStandIn u) = true := by kernel_rfl
    exact (show Tryd.prog.wantsStandIn t = false by simpa using List.all_eq_true.1 hall t hm)⟩)
  (by kernel_rfl)
end tapeBytesP
/-- for every text and every ints: of a tape of up to 2^9 bytes so many bytes come one behind the other, or that there are no more; no condition. -/
theorem tapeBytes_holds : Rows.TapeBytesCardSaid := tapeBytesP.card
end Go.Proofs.YtlacmkliofnjcaaDoor
