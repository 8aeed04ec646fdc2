/- What must come, whatever the arguments are (layer 21); the law's of and short. -/
import Derived.Test.YtdbcikhineghcaaVtRPut
namespace Go.Proofs.Ytdbcikhineghcaa
open Go.RowKit
set_option linter.unusedVariables false
set_option linter.unusedSectionVars false
set_option linter.unusedSimpArgs false
section
variable {P : Program} {olds : Olds} {p : Nat → Nat} {W : World} {F : Act → Ct → Prop} {n : Nat} {l : List Oper} {pl : List Sp} {a : Act} {ct : Ct} {o : Oper}
/-- A call that writes into a row. -/
theorem mx_callF {fn : Func} (f : FuncId) (args : Array Operand) (ts : Array TypeId)
  (ho : o.op = .call { callee := .value (.func f), args := args, argTypes := ts }) (hf : P.funcs[f]? = some fn) (hb : (fn.name == "runtime.NumGoroutine" || fn.body.isNone) = false)
  (vs : Array Value) (hv' : args.toList.map a.eval = vs.toList) (v : Value) (k : Nat) {t : TypeId} {old : Array Value} (c : Array Value) (hct : ct k = some (t, old))
  (hc : ∀ w, Kept (olds.map (·.1)) W w → Row w (addrOf olds p k) old t → Calls P f vs w fun e w' => e = .returned v ∧ Row w' (addrOf olds p k) c t ∧ Kept [addrOf olds p k] w w')
  (h : MX P olds p W F (n + 1) l pl (a.put o.dst v) (ctSet ct k (t, c))) : MX P olds p W F n (o :: l) ((fun _ => v, [], none, [(k, c)]) :: pl) a ct := by
 refine ⟨⟨⟨.inl ⟨v, rfl⟩, fun x hx => ?_, fun w hk hrw => ?_⟩, ?_⟩⟩
 ·obtain rfl : x = (k, c) := List.mem_singleton.1 hx
  exact ⟨_, hct⟩
 ·have hv : args.map a.eval = vs := by apply Array.toList_inj.1; rw [Array.toList_map]; exact hv'
  have hr := run_callFunc_body (P := P) hf hb vs w
  have hd : (execOp a.eval o).run P w = .ok (.enter f vs) w := by
   unfold execOp
   simp only [ho, resolve, hv, Act.eval]
   simp [Deferred.ofValue, invoke, hr]
  rw [hd]
  refine ⟨rfl, (hc w hk (hrw k (List.mem_append_right _ (by simp)) _ hct)).mono fun e w' ⟨he, r1, hkk⟩ => ⟨v, he, hkk.os, hkk.tape, hkk.output, hkk.size, fun b hlt hb' => hkk.block b hlt ?_, fun x hx y hy => ?_, .inl ⟨rfl, rfl⟩⟩⟩
  ·have b1 := hb' (k, c) (by simp)
   simp [b1]
  ·obtain rfl : x = (k, c) := List.mem_singleton.1 hx
   obtain rfl : (t, old) = y := Option.some.inj (hct.symm.trans hy)
   exact r1
 ·rw [spC_put n _ _ k c ct hct]; exact h.out
/-- A call that reads rows which the region has made. -/
theorem mx_callT {fn : Func} (f : FuncId) (args : Array Operand) (ts : Array TypeId)
  (ho : o.op = .call { callee := .value (.func f), args := args, argTypes := ts }) (hf : P.funcs[f]? = some fn) (hb : (fn.name == "runtime.NumGoroutine" || fn.body.isNone) = false)
  (vs : Array Value) (hv' : args.toList.map a.eval = vs.toList) (v : Value) (ks : List Nat)
  (hc : ∀ w, Kept (olds.map (·.1)) W w → (∀ k ∈ ks, ∀ y, ct k = some y → Row w (addrOf olds p k) y.2 y.1) → Calls P f vs w fun e w' => e = .returned v ∧ Below w.heap.size w w')
  (h : MX P olds p W F (n + 1) l pl (a.put o.dst v) ct) : MX P olds p W F n (o :: l) ((fun _ => v, ks, none, []) :: pl) a ct := by
 refine mx_enter f vs v ks (fun w => ?_) hc h
 have hv : args.map a.eval = vs := by apply Array.toList_inj.1; rw [Array.toList_map]; exact hv'
 have hr := run_callFunc_body (P := P) hf hb vs w
 unfold execOp
 simp only [ho, resolve, hv, Act.eval]
 simp [Deferred.ofValue, invoke, hr]
end
set_option maxRecDepth 100000 in
set_option maxHeartbeats 2000000 in
theorem of_any (x y : Int) (w : World) :
  Calls Try.prog 16 #[.int .i64 x, .int .i64 y] w fun e w' => e = .returned (.agg (tsC x y)) ∧ Below w.heap.size w w' := by
 go_enter Try.func16, Try.ntmps16
 have sb := sbmk w
 (repeat ((fail_if_success with_reducible refine rg ?_); go_step))
 refine wp_region_pw ?_
 refine pw_new (by rfl) 32 rfl _ zero_st ?_
 intro g4 z0 n0 r4 k
 simp only [Act.put, pu]
 have b4 := Nat.le_trans sb.size n0
 clear n0
 replace sb := sb.trans (k.below w.heap.size sb.size (by simp <;> omega))
 clear k
 refine pw_nil ?_
 (repeat ((fail_if_success with_reducible refine rg ?_); go_step))
 refine wp_region_pw ?_
 refine pw_mv (by rfl) rfl rfl ?_
 simp only [Act.put, pu]
 refine pw_mv (by rfl) rfl rfl ?_
 simp only [Act.put, pu]
 refine pw_value (by rfl) (.agg (tsC x y)) (exec_buildv _ [(0, _), (1, _)] rfl [(0, .int .i64 x), (1, .int .i64 y)] rfl _ (built_st x y)) ?_
 simp only [Act.put, pu]
 refine pw_put (by rfl) 32 _ _ rfl _ rfl r4 (tsC x y) rfl (by exact size_st) (by rfl) (st_one _ _) ?_
 clear r4
 intro z1003 r4 k
 simp only [Act.put]
 replace sb := sb.trans (k.below w.heap.size sb.size (by simp <;> omega))
 clear k
 refine pw_nil ?_
 go_wp2
 exact ret_rowd rfl _ rfl r4 _ Try.underlying32 size_st rfl ⟨rfl, sb⟩
/-- Have votes few bytes? -/
def shB (L : List Rv) : Bool := decide (L.length ≤ 40) && L.all fun x => decide (x.2.2.2.length ≤ 40)
theorem shB_yes {L : List Rv} (h : shB L = true) : L.length ≤ 40 ∧ ∀ j, j < L.length → (L.getD j rv0).2.2.2.length ≤ 40 := by
 unfold shB at h
 rw [Bool.and_eq_true, decide_eq_true_iff, List.all_eq_true] at h
 refine ⟨h.1, fun j hj => ?_⟩
 rw [List.getD_eq_getElem?_getD, List.getElem?_eq_getElem hj, Option.getD_some]
 exact of_decide_eq_true (h.2 _ (List.getElem_mem hj))
theorem shB_no {L : List Rv} {j : Nat} (hj : j < L.length) (h : 40 < (L.getD j rv0).2.2.2.length) : shB L = false := by
 cases e : shB L with
 | false => rfl
 | true => have := (shB_yes e).2 j hj; omega
theorem shB_is {L : List Rv} {j : Nat} (hj : j = min L.length 40) (h : ∀ i, i < j → (L.getD i rv0).2.2.2.length ≤ 40) : shB L = decide (L.length ≤ 40) := by
 unfold shB
 by_cases e : L.length ≤ 40
 ·rw [decide_eq_true e, Bool.true_and, List.all_eq_true]
  intro x hx
  obtain ⟨i, hi, rfl⟩ := List.mem_iff_getElem.1 hx
  have := h i (by omega)
  rw [List.getD_eq_getElem?_getD, List.getElem?_eq_getElem hi, Option.getD_some] at this
  exact decide_eq_true this
 ·rw [decide_eq_false e]; rfl
set_option maxRecDepth 100000 in
set_option maxHeartbeats 2000000 in
theorem short_any (ab : Option Addr) (c : Nat) (L : List Rv) (gb ob : Nat) (bcs : Array Value) (tb : TypeId) (w : World) (hz : ElsAt 4 w ab L.length (lsC L) gb ob bcs tb) :
  Calls Try.prog 6 #[.slice ab L.length c] w fun e w' => e = .returned (.bool (shB L)) ∧ Below w.heap.size w w' := by
 have HB : Hid (ElsAt 4 w ab L.length (lsC L) gb ob bcs tb) := hz
 obtain ⟨R, hR⟩ : ∃ R, shB L = R := ⟨_, rfl⟩
 have HR : Hid (shB L = R) := hR
 rw [hR]
 clear hz hR
 go_enter Try.func6, Try.ntmps6
 have sb := sbmk w
 (repeat ((fail_if_success with_reducible refine rg ?_); go_step))
 refine wp_region_pw ?_
 refine pw_value (by rfl) (.bool false) (fun _ => rfl) ?_
 simp only [Act.put, pu]
 refine pw_nil ?_
 (repeat ((fail_if_success with_reducible refine rg ?_); go_step))
 refine wp_region_pw ?_
 refine pw_value (by rfl) (.int .i64 0) (fun _ => rfl) ?_
 simp only [Act.put, pu]
 refine pw_nil ?_
 go_wp2_with fail
 go_loopg [2, 3] (min L.length 40) (fun x s2 s3 wr => ∃ j : Nat, j + x = min L.length 40 ∧ s3 = .int .i64 (j : Nat) ∧ (∀ i, i < j → (L.getD i rv0).2.2.2.length ≤ 40) ∧ Below w.heap.size w wr)
 case atStart => exact ⟨0, by omega, rfl, fun i hi => absurd hi (Nat.not_lt_zero _), sb⟩
 case round =>
  clear sb
  obtain ⟨j, hj, rfl, hall, sb⟩ := hrel
  have HA : Hid (∀ i, i < j → (L.getD i rv0).2.2.2.length ≤ 40) := hall
  clear hall
  cases gk with
  | zero =>
   have hjm : j = min L.length 40 := by omega
   have HS : Hid (R = decide (L.length ≤ 40)) := by rw [← HR.out]; exact shB_is hjm HA.out
   clear HA hj
   by_cases h10 : j < L.length
   ·have h1 : (j : Int) < (L.length : Int) := by omega
    have h40 : j = 40 := by omega
    have h2 : ¬ (L.length : Int) ≤ 40 := by omega
    have HF : Hid (R = false) := by rw [HS.out]; exact decide_eq_false (by omega)
    clear hjm h10
    (repeat ((fail_if_success with_reducible refine rg ?_); go_step))
    refine wp_region_pw ?_
    refine pw_mv (by rfl) rfl rfl ?_
    simp only [Act.put, pu]
    refine pw_mv (by rfl) rfl rfl ?_
    simp only [Act.put, pu]
    refine pw_value (by rfl) (.int .i64 (L.length : Nat)) (exec_len_s 22 _ rfl (ab) (L.length) (c) rfl sl_rv) ?_
    simp only [Act.put, pu]
    refine pw_value (by rfl) (.bool true) (exec_lt_b _ _ _ _ rfl ((j : Nat)) ((L.length : Nat)) rfl rfl true (decide_eq_true h1)) ?_
    simp only [Act.put, pu]
    refine pw_mv (by rfl) rfl rfl ?_
    simp only [Act.put, pu]
    refine pw_mv (by rfl) rfl rfl ?_
    simp only [Act.put, pu]
    refine pw_value (by rfl) (.bool false) (exec_lt_b _ _ _ _ rfl ((j : Nat)) (40) rfl rfl false (decide_eq_false (by omega))) ?_
    simp only [Act.put, pu]
    refine pw_pick (by rfl) true (v := .bool false) rfl rfl rfl ?_
    simp only [Act.put, pu]
    refine pw_nil ?_
    (repeat ((fail_if_success with_reducible refine rg ?_); go_step))
    refine wp_region_pw ?_
    refine pw_mv (by rfl) rfl rfl ?_
    simp only [Act.put, pu]
    refine pw_value (by rfl) (.int .i64 (L.length : Nat)) (exec_len_s 22 _ rfl (ab) (L.length) (c) rfl sl_rv) ?_
    simp only [Act.put, pu]
    refine pw_value (by rfl) (.bool false) (exec_leq_i _ _ _ _ rfl ((L.length : Nat)) (40) rfl rfl false (decide_eq_false h2)) ?_
    simp only [Act.put, pu]
    refine pw_as (by rfl) rfl rfl ?_
    simp only [Act.put, pu]
    refine pw_nil ?_
    go_wp2
    go_ret
    exact ⟨by rw [HF.out]; rfl, sb⟩
   ·have h1 : ¬ (j : Int) < (L.length : Int) := by omega
    have h2 : (L.length : Int) ≤ 40 := by omega
    have HF : Hid (R = true) := by rw [HS.out]; exact decide_eq_true (by omega)
    clear hjm h10
    (repeat ((fail_if_success with_reducible refine rg ?_); go_step))
    refine wp_region_pw ?_
    refine pw_mv (by rfl) rfl rfl ?_
    simp only [Act.put, pu]
    refine pw_mv (by rfl) rfl rfl ?_
    simp only [Act.put, pu]
    refine pw_value (by rfl) (.int .i64 (L.length : Nat)) (exec_len_s 22 _ rfl (ab) (L.length) (c) rfl sl_rv) ?_
    simp only [Act.put, pu]
    refine pw_value (by rfl) (.bool false) (exec_lt_b _ _ _ _ rfl ((j : Nat)) ((L.length : Nat)) rfl rfl false (decide_eq_false h1)) ?_
    simp only [Act.put, pu]
    refine pw_mv (by rfl) rfl rfl ?_
    simp only [Act.put, pu]
    refine pw_skip (by rfl) ?_
    simp only [Act.put, pu]
    refine pw_skip (by rfl) ?_
    simp only [Act.put, pu]
    refine pw_pick (by rfl) false (v := .bool false) rfl rfl rfl ?_
    simp only [Act.put, pu]
    refine pw_nil ?_
    (repeat ((fail_if_success with_reducible refine rg ?_); go_step))
    refine wp_region_pw ?_
    refine pw_mv (by rfl) rfl rfl ?_
    simp only [Act.put, pu]
    refine pw_value (by rfl) (.int .i64 (L.length : Nat)) (exec_len_s 22 _ rfl (ab) (L.length) (c) rfl sl_rv) ?_
    simp only [Act.put, pu]
    refine pw_value (by rfl) (.bool true) (exec_leq_i _ _ _ _ rfl ((L.length : Nat)) (40) rfl rfl true (decide_eq_true h2)) ?_
    simp only [Act.put, pu]
    refine pw_as (by rfl) rfl rfl ?_
    simp only [Act.put, pu]
    refine pw_nil ?_
    go_wp2
    go_ret
    exact ⟨by rw [HF.out]; rfl, sb⟩
  | succ y =>
   have hlt : j < L.length := by omega
   have h1 : (j : Int) < (L.length : Int) := by omega
   obtain h0 | ⟨rfl, rB, hbt⟩ := (HB.out.below sb).at'
   ·exact absurd h0 (by omega)
   obtain ⟨x, hxg, hx, _⟩ := ls_at hlt
   obtain ⟨_, _, _, hdg, _⟩ := rv_part hx (hbt j hlt)
   have HX : Hid (L.getD j rv0 = x) := hxg
   have hj40 : j < 40 := by omega
   clear hbt hx hxg
   by_cases h30 : (x.2.2.2.length : Int) ≤ 40
   ·have h3 : ¬ (x.2.2.2.length : Int) > 40 := by omega
    (repeat ((fail_if_success with_reducible refine rg ?_); go_step))
    refine wp_region_pw ?_
    refine pw_mv (by rfl) rfl rfl ?_
    simp only [Act.put, pu]
    refine pw_mv (by rfl) rfl rfl ?_
    simp only [Act.put, pu]
    refine pw_value (by rfl) (.int .i64 (L.length : Nat)) (exec_len_s 22 _ rfl (some ⟨gb, ob, none⟩) (L.length) (c) rfl sl_rv) ?_
    simp only [Act.put, pu]
    refine pw_value (by rfl) (.bool true) (exec_lt_b _ _ _ _ rfl ((j : Nat)) ((L.length : Nat)) rfl rfl true (decide_eq_true h1)) ?_
    simp only [Act.put, pu]
    refine pw_mv (by rfl) rfl rfl ?_
    simp only [Act.put, pu]
    refine pw_mv (by rfl) rfl rfl ?_
    simp only [Act.put, pu]
    refine pw_value (by rfl) (.bool true) (exec_lt_b _ _ _ _ rfl ((j : Nat)) (40) rfl rfl true (decide_eq_true (by omega))) ?_
    simp only [Act.put, pu]
    refine pw_pick (by rfl) true (v := .bool true) rfl rfl rfl ?_
    simp only [Act.put, pu]
    refine pw_nil ?_
    (repeat ((fail_if_success with_reducible refine rg ?_); go_step))
    refine wp_region_pw ?_
    refine pw_mv (by rfl) rfl rfl ?_
    simp only [Act.put, pu]
    refine pw_mv (by rfl) rfl rfl ?_
    simp only [Act.put, pu]
    refine pw_value (by rfl) (.pointer (some ⟨gb, ob + j * 4, none⟩)) ((exec_index_s 22 _ _ rfl gb ob (L.length) (c) rfl (j) rfl (hlt) _ Try.underlying22 4 Try.sizeOf34)) ?_
    simp only [Act.put, pu]
    refine pw_value (by rfl) (.pointer (some ⟨gb, ob + j * 4 + 3, none⟩)) (exec_field 34 _ 2 rfl gb (ob + j * 4) rfl _ Try.underlying34 _ rfl 0 Try.sizeOf9) ?_
    simp only [Act.put, pu]
    refine pw_loadk (by rfl) 9 _ rfl _ (ob + j * 4 + 3) rfl rB (.string ⟨x.2.2.2.toArray⟩) hdg Try.isAgg9 ?_
    simp only [Act.put, pu]
    refine pw_value (by rfl) (.int .i64 (x.2.2.2.length : Nat)) (y_lenS _ _ rfl x.2.2.2 rfl Try.underlying9) ?_
    simp only [Act.put, pu]
    refine pw_value (by rfl) (.bool false) (exec_gt_i _ _ _ _ rfl ((x.2.2.2.length : Nat)) (40) rfl rfl false (decide_eq_false h3)) ?_
    simp only [Act.put, pu]
    refine pw_nil ?_
    (repeat ((fail_if_success with_reducible refine rg ?_); go_step))
    refine wp_region_pw ?_
    refine pw_mv (by rfl) rfl rfl ?_
    simp only [Act.put, pu]
    refine pw_value (by rfl) (.int .i64 (((j + 1 : Nat) : Int))) (x_addz _ _ _ _ rfl ((j : Nat)) (1) (((j + 1 : Nat) : Int)) rfl rfl (by omega) (by omega) (by omega)) ?_
    simp only [Act.put, pu]
    refine pw_as (by rfl) rfl rfl ?_
    simp only [Act.put, pu]
    refine pw_nil ?_
    go_wp2
    go_roundg y
    case measure => omega
    case rel =>
     refine ⟨j + 1, by omega, rfl, fun i hi => ?_, sb⟩
     by_cases e : i = j
     ·rw [e, HX.out]; omega
     ·exact HA.out i (by omega)
   ·have h3 : (x.2.2.2.length : Int) > 40 := by omega
    have HF : Hid (R = false) := by rw [← HR.out]; exact shB_no hlt (by rw [HX.out]; omega)
    (repeat ((fail_if_success with_reducible refine rg ?_); go_step))
    refine wp_region_pw ?_
    refine pw_mv (by rfl) rfl rfl ?_
    simp only [Act.put, pu]
    refine pw_mv (by rfl) rfl rfl ?_
    simp only [Act.put, pu]
    refine pw_value (by rfl) (.int .i64 (L.length : Nat)) (exec_len_s 22 _ rfl (some ⟨gb, ob, none⟩) (L.length) (c) rfl sl_rv) ?_
    simp only [Act.put, pu]
    refine pw_value (by rfl) (.bool true) (exec_lt_b _ _ _ _ rfl ((j : Nat)) ((L.length : Nat)) rfl rfl true (decide_eq_true h1)) ?_
    simp only [Act.put, pu]
    refine pw_mv (by rfl) rfl rfl ?_
    simp only [Act.put, pu]
    refine pw_mv (by rfl) rfl rfl ?_
    simp only [Act.put, pu]
    refine pw_value (by rfl) (.bool true) (exec_lt_b _ _ _ _ rfl ((j : Nat)) (40) rfl rfl true (decide_eq_true (by omega))) ?_
    simp only [Act.put, pu]
    refine pw_pick (by rfl) true (v := .bool true) rfl rfl rfl ?_
    simp only [Act.put, pu]
    refine pw_nil ?_
    (repeat ((fail_if_success with_reducible refine rg ?_); go_step))
    refine wp_region_pw ?_
    refine pw_mv (by rfl) rfl rfl ?_
    simp only [Act.put, pu]
    refine pw_mv (by rfl) rfl rfl ?_
    simp only [Act.put, pu]
    refine pw_value (by rfl) (.pointer (some ⟨gb, ob + j * 4, none⟩)) ((exec_index_s 22 _ _ rfl gb ob (L.length) (c) rfl (j) rfl (hlt) _ Try.underlying22 4 Try.sizeOf34)) ?_
    simp only [Act.put, pu]
    refine pw_value (by rfl) (.pointer (some ⟨gb, ob + j * 4 + 3, none⟩)) (exec_field 34 _ 2 rfl gb (ob + j * 4) rfl _ Try.underlying34 _ rfl 0 Try.sizeOf9) ?_
    simp only [Act.put, pu]
    refine pw_loadk (by rfl) 9 _ rfl _ (ob + j * 4 + 3) rfl rB (.string ⟨x.2.2.2.toArray⟩) hdg Try.isAgg9 ?_
    simp only [Act.put, pu]
    refine pw_value (by rfl) (.int .i64 (x.2.2.2.length : Nat)) (y_lenS _ _ rfl x.2.2.2 rfl Try.underlying9) ?_
    simp only [Act.put, pu]
    refine pw_value (by rfl) (.bool true) (exec_gt_i _ _ _ _ rfl ((x.2.2.2.length : Nat)) (40) rfl rfl true (decide_eq_true h3)) ?_
    simp only [Act.put, pu]
    refine pw_nil ?_
    (repeat ((fail_if_success with_reducible refine rg ?_); go_step))
    refine wp_region_pw ?_
    refine pw_value (by rfl) (.bool false) (fun _ => rfl) ?_
    simp only [Act.put, pu]
    refine pw_nil ?_
    go_wp2
    go_ret
    exact ⟨by rw [HF.out]; rfl, sb⟩
def vA0 : Nat → Vt := fun _ => vt0
def vA1 : Nat → Vt := puV 4 vA0 1 5 2 [100]
def vA2 : Nat → Vt := puV 4 vA1 1 6 2 [101]
def vA3 : Nat → Vt := puV 4 vA2 3 5 2 [100]
def vA4 : Nat → Vt := puV 4 vA3 1 5 2 [120]
def vA5 : Nat → Vt := puV 4 vA4 1 7 2 [102]
theorem aw1 (g1 : Nat) (w : World) (r1 : Row w g1 (voC 4 vA0) 51) : Calls Try.prog 10 #[.pointer (some ⟨g1, 0, none⟩), .int .i64 1, .agg (tsC 5 2), .string ⟨#[100]⟩] w fun e w' => e = .returned (.bool true) ∧ Row w' g1 (voC 4 vA1) 51 ∧ Kept [g1] w w' := by
 have h := put_any g1 4 vA0 1 5 2 [100] w r1 (by decide) (by decide)
 rw [show puB 4 vA0 1 5 2 = true by decide] at h
 exact h
theorem aw2 (g1 : Nat) (w : World) (r1 : Row w g1 (voC 4 vA1) 51) : Calls Try.prog 10 #[.pointer (some ⟨g1, 0, none⟩), .int .i64 1, .agg (tsC 6 2), .string ⟨#[101]⟩] w fun e w' => e = .returned (.bool true) ∧ Row w' g1 (voC 4 vA2) 51 ∧ Kept [g1] w w' := by
 have h := put_any g1 4 vA1 1 6 2 [101] w r1 (by decide) (by decide)
 rw [show puB 4 vA1 1 6 2 = true by decide] at h
 exact h
theorem aw3 (g1 : Nat) (w : World) (r1 : Row w g1 (voC 4 vA2) 51) : Calls Try.prog 10 #[.pointer (some ⟨g1, 0, none⟩), .int .i64 3, .agg (tsC 5 2), .string ⟨#[100]⟩] w fun e w' => e = .returned (.bool true) ∧ Row w' g1 (voC 4 vA3) 51 ∧ Kept [g1] w w' := by
 have h := put_any g1 4 vA2 3 5 2 [100] w r1 (by decide) (by decide)
 rw [show puB 4 vA2 3 5 2 = true by decide] at h
 exact h
theorem aw4 (g1 : Nat) (w : World) (r1 : Row w g1 (voC 4 vA3) 51) : Calls Try.prog 10 #[.pointer (some ⟨g1, 0, none⟩), .int .i64 1, .agg (tsC 5 2), .string ⟨#[120]⟩] w fun e w' => e = .returned (.bool false) ∧ Row w' g1 (voC 4 vA4) 51 ∧ Kept [g1] w w' := by
 have h := put_any g1 4 vA3 1 5 2 [120] w r1 (by decide) (by decide)
 rw [show puB 4 vA3 1 5 2 = false by decide] at h
 exact h
theorem aw5 (g1 : Nat) (w : World) (r1 : Row w g1 (voC 4 vA4) 51) : Calls Try.prog 10 #[.pointer (some ⟨g1, 0, none⟩), .int .i64 1, .agg (tsC 7 2), .string ⟨#[102]⟩] w fun e w' => e = .returned (.bool true) ∧ Row w' g1 (voC 4 vA5) 51 ∧ Kept [g1] w w' := by
 have h := put_any g1 4 vA4 1 7 2 [102] w r1 (by decide) (by decide)
 rw [show puB 4 vA4 1 7 2 = true by decide] at h
 exact h
theorem awc1 (g1 : Nat) (w : World) (r1 : Row w g1 (voC 4 vA4) 51) : Calls Try.prog 11 #[.pointer (some ⟨g1, 0, none⟩), .agg (tsC 5 2), .string ⟨#[100]⟩] w fun e w' => e = .returned (.int .i64 2) ∧ Below w.heap.size w w' := by
 have h := cnt_any g1 4 vA4 5 2 [100] w r1 (by decide) (by decide)
 rw [show cntN 4 vA4 5 2 [100] = 2 by decide] at h
 exact h
theorem awc2 (g1 : Nat) (w : World) (r1 : Row w g1 (voC 4 vA5) 51) : Calls Try.prog 11 #[.pointer (some ⟨g1, 0, none⟩), .agg (tsC 5 2), .string ⟨#[100]⟩] w fun e w' => e = .returned (.int .i64 1) ∧ Below w.heap.size w w' := by
 have h := cnt_any g1 4 vA5 5 2 [100] w r1 (by decide) (by decide)
 rw [show cntN 4 vA5 5 2 [100] = 1 by decide] at h
 exact h
theorem awa (g1 : Nat) (w : World) (r1 : Row w g1 (voC 4 vA4) 51) : Calls Try.prog 13 #[.pointer (some ⟨g1, 0, none⟩), .int .i64 1, .int .i64 2, .int .i64 0] w fun e w' => e = .returned (.tuple #[.agg (tsC 6 2), .string ⟨#[101]⟩]) ∧ Below w.heap.size w w' := by
 have h := at_any g1 4 vA4 1 2 0 w r1 (by decide)
 rw [show atV 4 vA4 1 2 0 = (6, 2, [101]) by decide] at h
 exact h
set_option maxRecDepth 100000 in
set_option maxHeartbeats 2000000 in
theorem awake_any (w : World) :
  Calls Try.prog 7 #[] w fun e w' => e = .returned (.bool true) ∧ Below w.heap.size w w' := by
 go_enter Try.func7, Try.ntmps7
 have sb := sbmk w
 (repeat ((fail_if_success with_reducible refine rg ?_); go_step))
 refine wp_region_pw ?_
 refine pw_value (by rfl) (.bool false) (fun _ => rfl) ?_
 simp only [Act.put, List.setIfInBounds_toArray, List.set_cons_zero]
 refine pw_nil ?_
 (repeat ((fail_if_success with_reducible refine rg ?_); go_step))
 refine wp_region_pw ?_
 refine pw_callE (by rfl) 8 _ _ rfl Try.func8 (by kernel_rfl) #[.int .i64 4] rfl (vnew_yes 4 _ (by decide) (by decide)) ?_
 rintro _ z1000 ⟨g1, rfl, n1, r1, hb⟩
 refine ⟨_, rfl, ?_⟩
 simp only [Act.put, pu]
 have b1 := Nat.le_trans sb.size n1
 clear n1
 have k := Kept.ofBelow hb
 clear hb
 replace sb := sb.trans (k.below w.heap.size sb.size (by simp <;> omega))
 clear k
 refine pw_mv (by rfl) rfl rfl ?_
 simp only [Act.put, pu]
 refine pw_ext (by rfl) rfl rfl rfl ?_
 simp only [Act.put, pu]
 refine pw_ext (by rfl) rfl rfl rfl ?_
 simp only [Act.put, pu]
 refine pw_as (by rfl) rfl rfl ?_
 simp only [Act.put, pu]
 refine pw_as (by rfl) rfl rfl ?_
 simp only [Act.put, pu]
 refine pw_nil ?_
 (repeat ((fail_if_success with_reducible refine rg ?_); go_step))
 refine wp_region_pw ?_
 refine pw_mv (by rfl) rfl rfl ?_
 simp only [Act.put, pu]
 refine pw_value (by rfl) (.bool false) (exec_neq_k .i64 _ _ _ _ rfl (0) (0) rfl rfl false (by rw [decide_eq_true (by omega)]; rfl)) ?_
 simp only [Act.put, pu]
 refine pw_mv (by rfl) rfl rfl ?_
 simp only [Act.put, pu]
 refine pw_mv (by rfl) rfl rfl ?_
 simp only [Act.put, pu]
 refine pw_value (by rfl) (.bool false) (exec_eql_nilp _ _ _ _ rfl (some ⟨g1, 0, none⟩) rfl rfl ptr_vs) ?_
 simp only [Act.put, pu]
 refine pw_pick (by rfl) false (v := .bool false) rfl rfl rfl ?_
 simp only [Act.put, pu]
 refine pw_nil ?_
 replace r1 : Row _ g1 (voC 4 vA0) 51 := r1
 (repeat ((fail_if_success with_reducible refine rg ?_); go_step))
 refine wp_region_pw ?_
 refine pw_mv (by rfl) rfl rfl ?_
 simp only [Act.put, pu]
 refine pw_callB (by rfl) 16 _ _ rfl Try.func16 (by kernel_rfl) #[.int .i64 5, .int .i64 2] rfl _ (of_any 5 2 _) ?_
 intro z4001 k
 simp only [Act.put, pu]
 replace r1 := k.row r1 (by simp <;> omega)
 replace sb := sb.trans (k.below w.heap.size sb.size (by simp <;> omega))
 clear k
 refine pw_callE (by rfl) 10 _ _ rfl Try.func10 (by kernel_rfl) #[.pointer (some ⟨g1, 0, none⟩), .int .i64 1, .agg (tsC 5 2), .string ⟨#[100]⟩] rfl (aw1 _ _ r1) ?_
 have cr1 := r1.lt
 clear r1
 rintro _ z4002 ⟨rfl, r1, k⟩
 refine ⟨_, rfl, ?_⟩
 simp only [Act.put, pu]
 clear cr1
 replace sb := sb.trans (k.below w.heap.size sb.size (by simp <;> omega))
 clear k
 refine pw_mv (by rfl) rfl rfl ?_
 simp only [Act.put, pu]
 refine pw_mv (by rfl) rfl rfl ?_
 simp only [Act.put, pu]
 refine pw_callB (by rfl) 16 _ _ rfl Try.func16 (by kernel_rfl) #[.int .i64 6, .int .i64 2] rfl _ (of_any 6 2 _) ?_
 intro z4005 k
 simp only [Act.put, pu]
 replace r1 := k.row r1 (by simp <;> omega)
 replace sb := sb.trans (k.below w.heap.size sb.size (by simp <;> omega))
 clear k
 refine pw_callE (by rfl) 10 _ _ rfl Try.func10 (by kernel_rfl) #[.pointer (some ⟨g1, 0, none⟩), .int .i64 1, .agg (tsC 6 2), .string ⟨#[101]⟩] rfl (aw2 _ _ r1) ?_
 have cr1 := r1.lt
 clear r1
 rintro _ z4006 ⟨rfl, r1, k⟩
 refine ⟨_, rfl, ?_⟩
 simp only [Act.put, pu]
 clear cr1
 replace sb := sb.trans (k.below w.heap.size sb.size (by simp <;> omega))
 clear k
 refine pw_pick (by rfl) true (v := .bool true) rfl rfl rfl ?_
 simp only [Act.put, pu]
 refine pw_mv (by rfl) rfl rfl ?_
 simp only [Act.put, pu]
 refine pw_mv (by rfl) rfl rfl ?_
 simp only [Act.put, pu]
 refine pw_callB (by rfl) 16 _ _ rfl Try.func16 (by kernel_rfl) #[.int .i64 5, .int .i64 2] rfl _ (of_any 5 2 _) ?_
 intro z4010 k
 simp only [Act.put, pu]
 replace r1 := k.row r1 (by simp <;> omega)
 replace sb := sb.trans (k.below w.heap.size sb.size (by simp <;> omega))
 clear k
 refine pw_callE (by rfl) 10 _ _ rfl Try.func10 (by kernel_rfl) #[.pointer (some ⟨g1, 0, none⟩), .int .i64 3, .agg (tsC 5 2), .string ⟨#[100]⟩] rfl (aw3 _ _ r1) ?_
 have cr1 := r1.lt
 clear r1
 rintro _ z4011 ⟨rfl, r1, k⟩
 refine ⟨_, rfl, ?_⟩
 simp only [Act.put, pu]
 clear cr1
 replace sb := sb.trans (k.below w.heap.size sb.size (by simp <;> omega))
 clear k
 refine pw_pick (by rfl) true (v := .bool true) rfl rfl rfl ?_
 simp only [Act.put, pu]
 refine pw_mv (by rfl) rfl rfl ?_
 simp only [Act.put, pu]
 refine pw_mv (by rfl) rfl rfl ?_
 simp only [Act.put, pu]
 refine pw_callB (by rfl) 16 _ _ rfl Try.func16 (by kernel_rfl) #[.int .i64 5, .int .i64 2] rfl _ (of_any 5 2 _) ?_
 intro z4015 k
 simp only [Act.put, pu]
 replace r1 := k.row r1 (by simp <;> omega)
 replace sb := sb.trans (k.below w.heap.size sb.size (by simp <;> omega))
 clear k
 refine pw_callE (by rfl) 10 _ _ rfl Try.func10 (by kernel_rfl) #[.pointer (some ⟨g1, 0, none⟩), .int .i64 1, .agg (tsC 5 2), .string ⟨#[120]⟩] rfl (aw4 _ _ r1) ?_
 have cr1 := r1.lt
 clear r1
 rintro _ z4016 ⟨rfl, r1, k⟩
 refine ⟨_, rfl, ?_⟩
 simp only [Act.put, pu]
 clear cr1
 replace sb := sb.trans (k.below w.heap.size sb.size (by simp <;> omega))
 clear k
 refine pw_value (by rfl) (.bool true) (exec_not _ _ rfl false rfl) ?_
 simp only [Act.put, pu]
 refine pw_pick (by rfl) true (v := .bool true) rfl rfl rfl ?_
 simp only [Act.put, pu]
 refine pw_as (by rfl) rfl rfl ?_
 simp only [Act.put, pu]
 refine pw_nil ?_
 (repeat ((fail_if_success with_reducible refine rg ?_); go_step))
 refine wp_region_pw ?_
 refine pw_mv (by rfl) rfl rfl ?_
 simp only [Act.put, pu]
 refine pw_callB (by rfl) 16 _ _ rfl Try.func16 (by kernel_rfl) #[.int .i64 5, .int .i64 2] rfl _ (of_any 5 2 _) ?_
 intro z5001 k
 simp only [Act.put, pu]
 replace r1 := k.row r1 (by simp <;> omega)
 replace sb := sb.trans (k.below w.heap.size sb.size (by simp <;> omega))
 clear k
 refine pw_callB (by rfl) 11 _ _ rfl Try.func11 (by kernel_rfl) #[.pointer (some ⟨g1, 0, none⟩), .agg (tsC 5 2), .string ⟨#[100]⟩] rfl _ (awc1 _ _ r1) ?_
 intro z5002 k
 simp only [Act.put, pu]
 replace r1 := k.row r1 (by simp <;> omega)
 replace sb := sb.trans (k.below w.heap.size sb.size (by simp <;> omega))
 clear k
 refine pw_as (by rfl) rfl rfl ?_
 simp only [Act.put, pu]
 refine pw_nil ?_
 (repeat ((fail_if_success with_reducible refine rg ?_); go_step))
 refine wp_region_pw ?_
 refine pw_mv (by rfl) rfl rfl ?_
 simp only [Act.put, pu]
 refine pw_callB (by rfl) 13 _ _ rfl Try.func13 (by kernel_rfl) #[.pointer (some ⟨g1, 0, none⟩), .int .i64 1, .int .i64 2, .int .i64 0] rfl _ (awa _ _ r1) ?_
 intro z6001 k
 simp only [Act.put, pu]
 replace r1 := k.row r1 (by simp <;> omega)
 replace sb := sb.trans (k.below w.heap.size sb.size (by simp <;> omega))
 clear k
 refine pw_mv (by rfl) rfl rfl ?_
 simp only [Act.put, pu]
 refine pw_ext (by rfl) rfl rfl rfl ?_
 simp only [Act.put, pu]
 refine pw_ext (by rfl) rfl rfl rfl ?_
 simp only [Act.put, pu]
 refine pw_new (by rfl) 32 rfl _ zero_st ?_
 intro g5 z6005 n0 r5 k
 simp only [Act.put, pu]
 have d1x5 := Nat.lt_of_lt_of_le r1.lt n0
 have b5 := Nat.le_trans sb.size n0
 clear n0
 replace r1 := k.row r1 (by simp <;> omega)
 replace sb := sb.trans (k.below w.heap.size sb.size (by simp <;> omega))
 clear k
 refine pw_put (by rfl) 32 _ _ rfl _ rfl r5 (tsC 6 2) rfl (by exact size_st) (by rfl) (st_one _ _) ?_
 clear r5
 intro z6006 r5 k
 simp only [Act.put]
 replace r1 := k.row r1 (by simp <;> omega)
 replace sb := sb.trans (k.below w.heap.size sb.size (by simp <;> omega))
 clear k
 refine pw_as (by rfl) rfl rfl ?_
 simp only [Act.put, pu]
 refine pw_nil ?_
 (repeat ((fail_if_success with_reducible refine rg ?_); go_step))
 apply wp_region_mixg (by kernel_rfl) [(g1, 51, voC 4 vA4)] [_, _, _, _, _, _, _, _, _, _, _, _, _, _, _, _, _, _, _, _, _, _, _, _, _, _] ⟨r1, trivial⟩ (by simp <;> omega)
 ·intro p
  refine mg_step (by rfl) (mx_move rfl rfl (mx_end ?_))
  simp only [Act.put, pu]
  refine mg_step (by rfl) (mx_move rfl rfl (mx_end ?_))
  simp only [Act.put, pu]
  refine mg_step (by rfl) (mx_move rfl rfl (mx_end ?_))
  simp only [Act.put, pu]
  refine mg_step (by rfl) (mx_val (.bool true) (exec_eql_k .i64 _ _ _ _ rfl (2) (2) rfl rfl true (decide_eq_true rfl)) (mx_end ?_))
  simp only [Act.put, pu]
  refine mg_step (by rfl) (mx_pick true (v := .bool true) rfl rfl rfl (mx_end ?_))
  simp only [Act.put, pu]
  refine mg_step (by rfl) (mx_move rfl rfl (mx_end ?_))
  simp only [Act.put, pu]
  refine mg_step (by rfl) (mx_loadm 32 _ rfl _ (0) rfl r5 (by simp <;> omega) ((tsC 6 2)) (part_all _) _ Try.underlying32 rfl size_st (mx_end ?_))
  simp only [Act.put, pu]
  refine mg_step (by rfl) (mx_call 16 _ _ rfl Try.func16 (by kernel_rfl) #[.int .i64 6, .int .i64 2] rfl _ (of_any 6 2) (mx_end ?_))
  simp only [Act.put, pu]
  refine mg_step (by rfl) (mx_val (.bool true) (exec_eql_st _ _ _ rfl 6 2 6 2 rfl rfl true (by decide)) (mx_end ?_))
  simp only [Act.put, pu]
  refine mg_step (by rfl) (mx_pick true (v := .bool true) rfl rfl rfl (mx_end ?_))
  simp only [Act.put, pu]
  refine mg_step (by rfl) (mx_move rfl rfl (mx_end ?_))
  simp only [Act.put, pu]
  refine mg_step (by rfl) (mx_move rfl rfl (mx_end ?_))
  simp only [Act.put, pu]
  refine mg_step (by rfl) (mx_val (.bool true) (y_eqS _ _ _ _ rfl [101] [101] rfl rfl true (by decide)) (mx_end ?_))
  simp only [Act.put, pu]
  refine mg_step (by rfl) (mx_pick true (v := .bool true) rfl rfl rfl (mx_end ?_))
  simp only [Act.put, pu]
  refine mg_step (by rfl) (mx_move rfl rfl (mx_end ?_))
  simp only [Act.put, pu]
  refine mg_step (by rfl) (mx_move rfl rfl (mx_end ?_))
  simp only [Act.put, pu]
  refine mg_step (by rfl) (mx_call 16 _ _ rfl Try.func16 (by kernel_rfl) #[.int .i64 7, .int .i64 2] rfl _ (of_any 7 2) (mx_end ?_))
  simp only [Act.put, pu]
  refine mg_step (by rfl) (mx_callF 10 _ _ rfl Try.func10 (by kernel_rfl) #[.pointer (some ⟨g1, 0, none⟩), .int .i64 1, .agg (tsC 7 2), .string ⟨#[102]⟩] rfl (.bool true) 0 (voC 4 vA5) rfl (fun w' _ r => aw5 _ w' r) (mx_end ?_))
  simp only [Act.put, pu]
  refine mg_step (by rfl) (mx_pick true (v := .bool true) rfl rfl rfl (mx_end ?_))
  simp only [Act.put, pu]
  refine mg_step (by rfl) (mx_move rfl rfl (mx_end ?_))
  simp only [Act.put, pu]
  refine mg_step (by rfl) (mx_move rfl rfl (mx_end ?_))
  simp only [Act.put, pu]
  refine mg_step (by rfl) (mx_call 16 _ _ rfl Try.func16 (by kernel_rfl) #[.int .i64 5, .int .i64 2] rfl _ (of_any 5 2) (mx_end ?_))
  simp only [Act.put, pu]
  refine mg_step (by rfl) (mx_callT 11 _ _ rfl Try.func11 (by kernel_rfl) #[.pointer (some ⟨g1, 0, none⟩), .agg (tsC 5 2), .string ⟨#[100]⟩] rfl (.int .i64 1) [0] (fun w' _ hr => awc2 _ w' (hr 0 (List.mem_singleton.2 rfl) (51, voC 4 vA5) rfl)) (mx_end ?_))
  simp only [Act.put, pu]
  refine mg_step (by rfl) (mx_val (.bool true) (exec_eql_k .i64 _ _ _ _ rfl (1) (1) rfl rfl true (decide_eq_true rfl)) (mx_end ?_))
  simp only [Act.put, pu]
  refine mg_step (by rfl) (mx_pick true (v := .bool true) rfl rfl rfl (mx_end ?_))
  simp only [Act.put, pu]
  refine mg_step (by rfl) (mx_asg rfl rfl (mx_end ?_))
  simp only [Act.put, List.setIfInBounds_toArray, List.set_cons_zero]
  refine mg_end ?_
  intro w7 hkw hrw hnew hdis
  have zr1 : Row w7 (g1) (voC 4 vA5) 51 := hrw 0 (51, voC 4 vA5) rfl
  replace sb := sb.trans (hkw.below w.heap.size sb.size (by simp <;> omega))
  clear hkw hrw hnew hdis r1
  have r1 := zr1
  clear zr1
  go_wp2
  go_ret
  exact ⟨rfl, sb⟩
 ·kernel_rfl
end Go.Proofs.Ytdbcikhineghcaa
