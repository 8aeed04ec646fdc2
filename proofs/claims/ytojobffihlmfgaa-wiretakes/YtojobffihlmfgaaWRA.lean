/- Messages in memory; calls that panic; wire's insist, Key, isOp, isStamp, isBare, isDealt. -/
import Derived.Test.YtojobffihlmfgaaMA
import Derived.Test.YtojobffihlmfgaaSH
import Derived.Recover
import Derived.Test.YtojobffihlmfgaaCW
import Derived.Shelf.Strings.BuilderK
namespace Go.Proofs.Ytojobffihlmfgaa
open Go.RowKit
set_option linter.unusedVariables false
section
variable {P : Program} {ops : Array Oper} {Q : Exit → Act → World → Prop} {rest : List Oper} {o : Oper} {a : Act} {w : World}
/-- A call that panics. -/
theorem pw_callP {fn : Func} (hw : Region.wanted o (yielded ops a.tmps) = true) (f : FuncId) (args : Array Operand) (ts : Array TypeId)
  (ho : o.op = .call { callee := .value (.func f), args := args, argTypes := ts }) (hf : P.funcs[f]? = some fn) (hb : (fn.name == "runtime.NumGoroutine" || fn.body.isNone) = false)
  (vs : Array Value) (hv' : args.toList.map a.eval = vs.toList) {ch : List PanicEntry} {R : World → Prop} (hc : Calls P f vs w fun e w' => e = .panicked ch ∧ R w')
  (h : ∀ w', R w' → Q (.panic ch) a w') : PW P ops Q (o :: rest) a w := by
 refine ⟨?_⟩
 unfold wpList
 rw [if_pos hw]
 left
 have hv : args.map a.eval = vs := by apply Array.toList_inj.1; rw [Array.toList_map]; exact hv'
 have hr := run_callFunc_body (P := P) hf hb vs w
 have hd : (execOp a.eval o).run P w = .ok (.enter f vs) w := by
  unfold execOp
  simp only [ho, resolve, hv, Act.eval]
  simp [Deferred.ofValue, invoke, hr]
 unfold Oper.wp
 rw [hd, Oper.upon_enter]
 refine hc.mono ?_
 rintro e w' ⟨rfl, hb'⟩
 exact h w' hb'
/-- A call of a closure that panics. -/
theorem pw_callCP {fn : Func} (hw : Region.wanted o (yielded ops a.tmps) = true) (f : FuncId) (t : Tmp) (args : Array Operand) (ts : Array TypeId)
  (ho : o.op = .call { callee := .value (.tmp t), args := args, argTypes := ts }) (caps : Array Value) (hcl : a.eval (.tmp t) = .func (.func f) #[] caps) (hf : P.funcs[f]? = some fn) (hb : (fn.name == "runtime.NumGoroutine" || fn.body.isNone) = false)
  (vs : Array Value) (hv' : args.toList.map a.eval = vs.toList) {ch : List PanicEntry} {R : World → Prop} (hc : Calls P f (vs ++ caps) w fun e w' => e = .panicked ch ∧ R w')
  (h : ∀ w', R w' → Q (.panic ch) a w') : PW P ops Q (o :: rest) a w := by
 refine ⟨?_⟩
 unfold wpList
 rw [if_pos hw]
 left
 have hv : args.map a.eval = vs := by apply Array.toList_inj.1; rw [Array.toList_map]; exact hv'
 have hr := run_callFunc_body (P := P) hf hb (vs ++ caps) w
 have hd : (execOp a.eval o).run P w = .ok (.enter f (vs ++ caps)) w := by
  unfold execOp
  simp only [ho, resolve, hv, hcl]
  simp [Deferred.ofValue, invoke, hr]
 unfold Oper.wp
 rw [hd, Oper.upon_enter]
 refine hc.mono ?_
 rintro e w' ⟨rfl, hb'⟩
 exact h w' hb'
/-- panic. -/
theorem pw_pan (hw : Region.wanted o (yielded ops a.tmps) = true) (v : Value) (hr : (execOp a.eval o).run P w = .halt (.panic v) w) (h : Q (.panic [{ v := v, recovered := false }]) a w) : PW P ops Q (o :: rest) a w := by
 refine ⟨?_⟩
 unfold wpList
 rw [if_pos hw]
 left
 unfold Oper.wp
 rw [hr, Oper.upon_panic]
 exact h
end
section
variable {P : Program} {o : Oper} {ρ : Operand → Value}
theorem w_ge (t : TypeId) (x y : Operand) (u : TypeId) (ho : o.op = .binOp .geq t x y u) (n m : Int) (hx : ρ x = .int .i64 n) (hy : ρ y = .int .i64 m) (b : Bool) (hb : decide (m ≤ n) = b) (w : World) :
  (execOp ρ o).run P w = .ok (.value (.bool b)) w := by
 subst hb
 unfold execOp
 simp only [ho, hx, hy]
 simp [go_sem]
theorem w_le (t : TypeId) (x y : Operand) (u : TypeId) (ho : o.op = .binOp .leq t x y u) (n m : Int) (hx : ρ x = .int .i64 n) (hy : ρ y = .int .i64 m) (b : Bool) (hb : decide (n ≤ m) = b) (w : World) :
  (execOp ρ o).run P w = .ok (.value (.bool b)) w := by
 subst hb
 unfold execOp
 simp only [ho, hx, hy]
 simp [go_sem]
theorem w_pan (x : Operand) (ho : o.op = .panic x) (t : TypeId) (v : Value) (hx : ρ x = .iface t v) (w : World) : (execOp ρ o).run P w = .halt (.panic (.iface t v)) w := by
 unfold execOp
 simp only [ho, hx]
 rfl
end
/-- The cells of a stamp. -/
def tsC (sq cl : Int) : Array Value := #[.int .i64 sq, .int .i64 cl]
theorem info_st : (Try.prog.info? 24).map (fun i => (i.zero, i.size)) = some (some (.agg (tsC 0 0)), 2) := by kernel_rfl
theorem size_st : (Try.prog.info? 24).map (·.size) = some 2 := (zero_of_info info_st).2
theorem built_st0 : Try.prog.built 24 [] = some (tsC 0 0) := by kernel_rfl
theorem part_st0 (x y : Int) (w : World) : (part 3 (tsC x y) 0).run Try.prog w = .ok (.int .i64 x) w := by unfold tsC; kernel_rfl
theorem part_st1 (x y : Int) (w : World) : (part 3 (tsC x y) 1).run Try.prog w = .ok (.int .i64 y) w := by unfold tsC; kernel_rfl
theorem equal_st (x y x' y' : Int) (w : World) : (Op.equalIn 10000 24 (.agg (tsC x y)) (.agg (tsC x' y'))).run Try.prog w = .ok (decide (x = x' ∧ y = y')) w := by
 rw [run_equalIn_struct w 9999 _ _ _ (by kernel_rfl) (by kernel_rfl)]
 simp only [Program.fieldsOf, Try.underlying24, Op.eqFields]
 by_cases h1 : x = x' <;> by_cases h2 : y = y' <;>
  simp [Sem.run_bind, part_st0, part_st1, run_equalIn_int _ _ _ _ _ _ _ Try.underlying3, h1, h2]
theorem exec_eql_st {o : Oper} {ρ : Operand → Value} (p q : Operand) (u : TypeId) (ho : o.op = .binOp .eql 24 p q u) (x y x' y' : Int) (hx : ρ p = .agg (tsC x y)) (hy : ρ q = .agg (tsC x' y')) (c : Bool) (hb : decide (x = x' ∧ y = y') = c) (w : World) :
  (execOp ρ o).run Try.prog w = .ok (.value (.bool c)) w := by
 unfold execOp
 simp only [ho, hx, hy]
 simp [run_eqGuard_agg _ _ _ _ _ _ _ (show Try.prog.eqGuardType Try.prog.depth 24 = false by kernel_rfl), run_eql_struct, equal_st]
 simpa using hb
/-- The cells of a message. -/
def msC (kd op : Int) (key : List UInt8) (sq cl : Int) (dg : List UInt8) (a1 : Option Addr) (n c1 : Nat) (a2 : Option Addr) (m c2 : Nat) : Array Value := #[.int .i64 kd, .int .i64 op, .string ⟨key.toArray⟩, .int .i64 sq, .int .i64 cl, .string ⟨dg.toArray⟩, .slice a1 n c1, .slice a2 m c2]
theorem info_ms : (Try.prog.info? 29).map (fun i => (i.zero, i.size)) = some (some (.agg (msC 0 0 [] 0 0 [] none 0 0 none 0 0)), 8) := by kernel_rfl
theorem zero_ms (w : World) : (zeroValue 29).run Try.prog w = .ok (.agg (msC 0 0 [] 0 0 [] none 0 0 none 0 0)) w := (zero_of_info info_ms).1 w
theorem size_ms : (Try.prog.info? 29).map (·.size) = some 8 := (zero_of_info info_ms).2
theorem ms_one (kd op : Int) (key : List UInt8) (sq cl : Int) (dg : List UInt8) (a1 : Option Addr) (n c1 : Nat) (a2 : Option Addr) (m c2 : Nat) : (msC kd op key sq cl dg a1 n c1 a2 m c2).all (·.oneCell') = true := by simp [msC, Value.oneCell']
theorem ms_st (kd op : Int) (key : List UInt8) (sq cl : Int) (dg : List UInt8) (a1 : Option Addr) (n c1 : Nat) (a2 : Option Addr) (m c2 : Nat) : ∀ j v, (tsC sq cl).toList[j]? = some v → (msC kd op key sq cl dg a1 n c1 a2 m c2)[3 + j]? = some v := by
 intro j v h
 match j, h with
 | 0, h => exact h
 | 1, h => exact h
/-- What insist, and all that asks by it, does. -/
def wrV (n : Int) : Value := .iface 61 (.agg #[.int .i64 n])
def wrP (n : Int) : List PanicEntry := [{ v := wrV n, recovered := false }]
def insE (b : Bool) (n : Int) : Ending := if b then .returned (.tuple #[]) else .panicked (wrP n)
theorem insE_yes (n : Int) : insE true n = .returned (.tuple #[]) := rfl
theorem insE_no (n : Int) : insE false n = .panicked (wrP n) := rfl
theorem info_wr : (Try.prog.info? 61).map (fun i => (i.zero, i.size)) = some (some (.agg #[.int .i64 0]), 1) := by kernel_rfl
theorem zero_wr (w : World) : (zeroValue 61).run Try.prog w = .ok (.agg #[.int .i64 0]) w := (zero_of_info info_wr).1 w
theorem size_wr : (Try.prog.info? 61).map (·.size) = some 1 := (zero_of_info info_wr).2
theorem wr_one (x : Int) : (#[.int .i64 x] : Array Value).all (·.oneCell') = true := by simp [Value.oneCell']
theorem built_wr (x : Int) : Try.prog.built 61 [(0, .int .i64 x)] = some #[.int .i64 x] := by kernel_rfl
theorem mkif {P : Program} {o : Oper} {ρ : Operand → Value} (t : TypeId) (x : Operand) (ho : o.op = .makeInterface t x) (hc : P.concrete t = true) (v : Value) (hx : ρ x = v) (w : World) : (execOp ρ o).run P w = .ok (.value (.iface t v)) w := by
 unfold execOp
 simp only [ho, hx, Sem.run_bind, run_makeInterface w t v hc, Result.andThen_ok]
 rfl
set_option maxRecDepth 100000 in
set_option maxHeartbeats 2000000 in
theorem insist_any (b : Bool) (n : Int) (w : World) :
  Calls Try.prog 24 #[.bool b, .int .i64 n] w fun e w' => e = insE b n ∧ Below w.heap.size w w' := by
 have sb := Below.refl w.heap.size w
 cases b with
 | true =>
  rw [insE_yes]
  go_enter Try.func24, Try.ntmps24
  (repeat ((fail_if_success with_reducible refine rg ?_); go_step))
  refine wp_region_pw ?_
  refine pw_mv (by rfl) rfl rfl ?_
  simp only [Act.put, pu]
  refine pw_value (by rfl) (.bool false) (exec_not _ _ rfl true rfl) ?_
  simp only [Act.put, pu]
  refine pw_nil ?_
  go_wp2
  first | (go_ret; exact ⟨rfl, sb⟩) | exact ⟨rfl, _, results_none rfl _ _ _, rfl, sb⟩
 | false =>
  rw [insE_no]
  go_enter Try.func24, Try.ntmps24
  (repeat ((fail_if_success with_reducible refine rg ?_); go_step))
  refine wp_region_pw ?_
  refine pw_mv (by rfl) rfl rfl ?_
  simp only [Act.put, pu]
  refine pw_value (by rfl) (.bool true) (exec_not _ _ rfl false rfl) ?_
  simp only [Act.put, pu]
  refine pw_nil ?_
  (repeat ((fail_if_success with_reducible refine rg ?_); go_step))
  refine wp_region_pw ?_
  refine pw_mv (by rfl) rfl rfl ?_
  simp only [Act.put, pu]
  refine pw_value (by rfl) (.agg #[.int .i64 n]) (exec_buildv _ [(0, _)] rfl [(0, .int .i64 n)] rfl _ (built_wr n)) ?_
  simp only [Act.put, pu]
  refine pw_value (by rfl) (wrV n) (mkif _ _ rfl (by kernel_rfl) _ rfl) ?_
  simp only [Act.put, pu]
  refine pw_pan (by rfl) (wrV n) (w_pan _ rfl _ _ rfl _) ?_
  exact ⟨rfl, rfl, sb⟩
set_option maxRecDepth 100000 in
set_option maxHeartbeats 2000000 in
theorem want_yes (w : World) :
  Calls Try.prog 45 #[.bool true] w fun e w' => e = .returned (.tuple #[]) ∧ Below w.heap.size w w' := by
 have sb := Below.refl w.heap.size w
 go_enter Try.func45, Try.ntmps45
 (repeat ((fail_if_success with_reducible refine rg ?_); go_step))
 refine wp_region_pw ?_
 refine pw_mv (by rfl) rfl rfl ?_
 simp only [Act.put, pu]
 refine pw_callB (by rfl) 24 _ _ rfl Try.func24 (by kernel_rfl) #[.bool true, .int .i64 1] rfl _ (insist_any true 1 _) ?_
 intro z1 k
 simp only [Act.put, pu]
 replace sb := sb.trans (k.below w.heap.size sb.size (by simp <;> omega))
 clear k
 refine pw_nil ?_
 go_wp2
 first | (go_ret; exact ⟨rfl, sb⟩) | exact ⟨rfl, _, results_none rfl _ _ _, rfl, sb⟩
set_option maxRecDepth 100000 in
set_option maxHeartbeats 2000000 in
theorem want_no (w : World) :
  Calls Try.prog 45 #[.bool false] w fun e w' => e = .panicked (wrP 1) ∧ Below w.heap.size w w' := by
 have sb := Below.refl w.heap.size w
 go_enter Try.func45, Try.ntmps45
 (repeat ((fail_if_success with_reducible refine rg ?_); go_step))
 refine wp_region_pw ?_
 refine pw_mv (by rfl) rfl rfl ?_
 simp only [Act.put, pu]
 refine pw_callP (by rfl) 24 _ _ rfl Try.func24 (by kernel_rfl) #[.bool false, .int .i64 1] rfl (insist_any false 1 _) ?_
 intro z1 hb
 exact ⟨rfl, rfl, below_on sb (Nat.le_refl _) hb⟩
def keyB (s : List UInt8) : Bool := decide (1 ≤ s.length ∧ s.length ≤ 8)
def opB (kd op : Int) : Bool := if kd = 5 ∨ kd = 6 then decide (op = 0) else decide (1 ≤ op ∧ op ≤ 1048576)
def zsB (sq cl : Int) : Bool := decide (sq = 0 ∧ cl = 0)
def stB (sq cl : Int) : Bool := decide (1 ≤ sq ∧ sq ≤ 1099511627776 ∧ 1 ≤ cl ∧ cl ≤ 4)
def nlB (s : List UInt8) : Bool := decide (s = [])
def g32 (s : List UInt8) : Bool := decide ((s.length : Int) = 32)
def brB (n m : Nat) : Bool := decide (n = 0 ∧ m = 0)
def dlB (n m : Nat) (x : List UInt8) : Bool := decide (m = n ∧ x ≠ [])
set_option maxRecDepth 100000 in
set_option maxHeartbeats 2000000 in
theorem wkey_any (s : List UInt8) (w : World) (hs : s.length < 9223372036854775808) :
  Calls Try.prog 12 #[.string ⟨s.toArray⟩] w fun e w' => e = .returned (.bool (keyB s)) ∧ Below w.heap.size w w' := by
 by_cases h1 : 1 ≤ s.length
 rotate_left
 ·rw [show keyB s = false from decide_eq_false (by omega)]
  go_enter Try.func12, Try.ntmps12
  (repeat ((fail_if_success with_reducible refine rg ?_); go_step))
  refine wp_region_pw ?_
  refine pw_value (by rfl) (.bool false) (fun _ => rfl) ?_
  simp only [Act.put, pu]
  refine pw_nil ?_
  have sb := Below.refl w.heap.size w
  (repeat ((fail_if_success with_reducible refine rg ?_); go_step))
  refine wp_region_pw ?_
  refine pw_mv (by rfl) rfl rfl ?_
  simp only [Act.put, pu]
  refine pw_value (by rfl) (.int .i64 (s.length : Nat)) (y_lenS _ _ rfl s rfl Try.underlying9) ?_
  simp only [Act.put, pu]
  refine pw_value (by rfl) (.bool false) (w_ge _ _ _ _ rfl (s.length : Nat) 1 rfl rfl false (decide_eq_false (by omega))) ?_
  simp only [Act.put, pu]
  refine pw_mv (by rfl) rfl rfl ?_
  simp only [Act.put, pu]
  refine pw_skip (by rfl) ?_
  simp only [Act.put, pu]
  refine pw_skip (by rfl) ?_
  simp only [Act.put, pu]
  refine pw_skip (by rfl) ?_
  simp only [Act.put, pu]
  refine pw_pick (by rfl) false (v := .bool false) rfl rfl rfl ?_
  simp only [Act.put, pu]
  refine pw_as (by rfl) rfl rfl ?_
  simp only [Act.put, pu]
  refine pw_nil ?_
  go_wp2
  go_ret
  exact ⟨rfl, sb⟩
 by_cases h2 : s.length ≤ 8
 ·rw [show keyB s = true from decide_eq_true ⟨h1, h2⟩]
  go_enter Try.func12, Try.ntmps12
  (repeat ((fail_if_success with_reducible refine rg ?_); go_step))
  refine wp_region_pw ?_
  refine pw_value (by rfl) (.bool false) (fun _ => rfl) ?_
  simp only [Act.put, pu]
  refine pw_nil ?_
  have sb := Below.refl w.heap.size w
  (repeat ((fail_if_success with_reducible refine rg ?_); go_step))
  refine wp_region_pw ?_
  refine pw_mv (by rfl) rfl rfl ?_
  simp only [Act.put, pu]
  refine pw_value (by rfl) (.int .i64 (s.length : Nat)) (y_lenS _ _ rfl s rfl Try.underlying9) ?_
  simp only [Act.put, pu]
  refine pw_value (by rfl) (.bool true) (w_ge _ _ _ _ rfl (s.length : Nat) 1 rfl rfl true (decide_eq_true (by omega))) ?_
  simp only [Act.put, pu]
  refine pw_mv (by rfl) rfl rfl ?_
  simp only [Act.put, pu]
  refine pw_mv (by rfl) rfl rfl ?_
  simp only [Act.put, pu]
  refine pw_value (by rfl) (.int .i64 (s.length : Nat)) (y_lenS _ _ rfl s rfl Try.underlying9) ?_
  simp only [Act.put, pu]
  refine pw_value (by rfl) (.bool true) (w_le _ _ _ _ rfl (s.length : Nat) 8 rfl rfl true (decide_eq_true (by omega))) ?_
  simp only [Act.put, pu]
  refine pw_pick (by rfl) true (v := .bool true) rfl rfl rfl ?_
  simp only [Act.put, pu]
  refine pw_as (by rfl) rfl rfl ?_
  simp only [Act.put, pu]
  refine pw_nil ?_
  go_wp2
  go_ret
  exact ⟨rfl, sb⟩
 ·rw [show keyB s = false from decide_eq_false (by omega)]
  go_enter Try.func12, Try.ntmps12
  (repeat ((fail_if_success with_reducible refine rg ?_); go_step))
  refine wp_region_pw ?_
  refine pw_value (by rfl) (.bool false) (fun _ => rfl) ?_
  simp only [Act.put, pu]
  refine pw_nil ?_
  have sb := Below.refl w.heap.size w
  (repeat ((fail_if_success with_reducible refine rg ?_); go_step))
  refine wp_region_pw ?_
  refine pw_mv (by rfl) rfl rfl ?_
  simp only [Act.put, pu]
  refine pw_value (by rfl) (.int .i64 (s.length : Nat)) (y_lenS _ _ rfl s rfl Try.underlying9) ?_
  simp only [Act.put, pu]
  refine pw_value (by rfl) (.bool true) (w_ge _ _ _ _ rfl (s.length : Nat) 1 rfl rfl true (decide_eq_true (by omega))) ?_
  simp only [Act.put, pu]
  refine pw_mv (by rfl) rfl rfl ?_
  simp only [Act.put, pu]
  refine pw_mv (by rfl) rfl rfl ?_
  simp only [Act.put, pu]
  refine pw_value (by rfl) (.int .i64 (s.length : Nat)) (y_lenS _ _ rfl s rfl Try.underlying9) ?_
  simp only [Act.put, pu]
  refine pw_value (by rfl) (.bool false) (w_le _ _ _ _ rfl (s.length : Nat) 8 rfl rfl false (decide_eq_false (by omega))) ?_
  simp only [Act.put, pu]
  refine pw_pick (by rfl) true (v := .bool false) rfl rfl rfl ?_
  simp only [Act.put, pu]
  refine pw_as (by rfl) rfl rfl ?_
  simp only [Act.put, pu]
  refine pw_nil ?_
  go_wp2
  go_ret
  exact ⟨rfl, sb⟩
set_option maxRecDepth 100000 in
set_option maxHeartbeats 2000000 in
theorem wop_any (kd op : Int) (w : World) :
  Calls Try.prog 46 #[.int .i64 kd, .int .i64 op] w fun e w' => e = .returned (.bool (opB kd op)) ∧ Below w.heap.size w w' := by
 by_cases h5 : kd = 5
 ·rw [show opB kd op = decide (op = 0) from if_pos (.inl h5)]
  go_enter Try.func46, Try.ntmps46
  (repeat ((fail_if_success with_reducible refine rg ?_); go_step))
  refine wp_region_pw ?_
  refine pw_value (by rfl) (.bool false) (fun _ => rfl) ?_
  simp only [Act.put, pu]
  refine pw_nil ?_
  have sb := Below.refl w.heap.size w
  (repeat ((fail_if_success with_reducible refine rg ?_); go_step))
  refine wp_region_pw ?_
  refine pw_mv (by rfl) rfl rfl ?_
  simp only [Act.put, pu]
  refine pw_value (by rfl) (.bool true) (x_eqI _ _ _ _ rfl .i64 kd 5 rfl rfl true (decide_eq_true (by omega))) ?_
  simp only [Act.put, pu]
  refine pw_mv (by rfl) rfl rfl ?_
  simp only [Act.put, pu]
  refine pw_skip (by rfl) ?_
  simp only [Act.put, pu]
  refine pw_skip (by rfl) ?_
  simp only [Act.put, pu]
  refine pw_pick (by rfl) true (v := .bool true) rfl rfl rfl ?_
  simp only [Act.put, pu]
  refine pw_nil ?_
  (repeat ((fail_if_success with_reducible refine rg ?_); go_step))
  refine wp_region_pw ?_
  refine pw_mv (by rfl) rfl rfl ?_
  simp only [Act.put, pu]
  refine pw_value (by rfl) (.bool (decide (op = 0))) (x_eqI _ _ _ _ rfl .i64 op 0 rfl rfl _ rfl) ?_
  simp only [Act.put, pu]
  refine pw_as (by rfl) rfl rfl ?_
  simp only [Act.put, pu]
  refine pw_nil ?_
  go_wp2
  go_ret
  exact ⟨rfl, sb⟩
 by_cases h6 : kd = 6
 ·rw [show opB kd op = decide (op = 0) from if_pos (.inr h6)]
  go_enter Try.func46, Try.ntmps46
  (repeat ((fail_if_success with_reducible refine rg ?_); go_step))
  refine wp_region_pw ?_
  refine pw_value (by rfl) (.bool false) (fun _ => rfl) ?_
  simp only [Act.put, pu]
  refine pw_nil ?_
  have sb := Below.refl w.heap.size w
  (repeat ((fail_if_success with_reducible refine rg ?_); go_step))
  refine wp_region_pw ?_
  refine pw_mv (by rfl) rfl rfl ?_
  simp only [Act.put, pu]
  refine pw_value (by rfl) (.bool false) (x_eqI _ _ _ _ rfl .i64 kd 5 rfl rfl false (decide_eq_false (by omega))) ?_
  simp only [Act.put, pu]
  refine pw_mv (by rfl) rfl rfl ?_
  simp only [Act.put, pu]
  refine pw_mv (by rfl) rfl rfl ?_
  simp only [Act.put, pu]
  refine pw_value (by rfl) (.bool true) (x_eqI _ _ _ _ rfl .i64 kd 6 rfl rfl true (decide_eq_true (by omega))) ?_
  simp only [Act.put, pu]
  refine pw_pick (by rfl) false (v := .bool true) rfl rfl rfl ?_
  simp only [Act.put, pu]
  refine pw_nil ?_
  (repeat ((fail_if_success with_reducible refine rg ?_); go_step))
  refine wp_region_pw ?_
  refine pw_mv (by rfl) rfl rfl ?_
  simp only [Act.put, pu]
  refine pw_value (by rfl) (.bool (decide (op = 0))) (x_eqI _ _ _ _ rfl .i64 op 0 rfl rfl _ rfl) ?_
  simp only [Act.put, pu]
  refine pw_as (by rfl) rfl rfl ?_
  simp only [Act.put, pu]
  refine pw_nil ?_
  go_wp2
  go_ret
  exact ⟨rfl, sb⟩
 rw [show opB kd op = decide (1 ≤ op ∧ op ≤ 1048576) from if_neg (by omega)]
 by_cases h1 : 1 ≤ op
 rotate_left
 ·rw [decide_eq_false (show ¬ (1 ≤ op ∧ op ≤ 1048576) by omega)]
  go_enter Try.func46, Try.ntmps46
  (repeat ((fail_if_success with_reducible refine rg ?_); go_step))
  refine wp_region_pw ?_
  refine pw_value (by rfl) (.bool false) (fun _ => rfl) ?_
  simp only [Act.put, pu]
  refine pw_nil ?_
  have sb := Below.refl w.heap.size w
  (repeat ((fail_if_success with_reducible refine rg ?_); go_step))
  refine wp_region_pw ?_
  refine pw_mv (by rfl) rfl rfl ?_
  simp only [Act.put, pu]
  refine pw_value (by rfl) (.bool false) (x_eqI _ _ _ _ rfl .i64 kd 5 rfl rfl false (decide_eq_false (by omega))) ?_
  simp only [Act.put, pu]
  refine pw_mv (by rfl) rfl rfl ?_
  simp only [Act.put, pu]
  refine pw_mv (by rfl) rfl rfl ?_
  simp only [Act.put, pu]
  refine pw_value (by rfl) (.bool false) (x_eqI _ _ _ _ rfl .i64 kd 6 rfl rfl false (decide_eq_false (by omega))) ?_
  simp only [Act.put, pu]
  refine pw_pick (by rfl) false (v := .bool false) rfl rfl rfl ?_
  simp only [Act.put, pu]
  refine pw_nil ?_
  (repeat ((fail_if_success with_reducible refine rg ?_); go_step))
  refine wp_region_pw ?_
  refine pw_mv (by rfl) rfl rfl ?_
  simp only [Act.put, pu]
  refine pw_value (by rfl) (.bool false) (w_ge _ _ _ _ rfl op 1 rfl rfl false (decide_eq_false (by omega))) ?_
  simp only [Act.put, pu]
  refine pw_mv (by rfl) rfl rfl ?_
  simp only [Act.put, pu]
  refine pw_skip (by rfl) ?_
  simp only [Act.put, pu]
  refine pw_skip (by rfl) ?_
  simp only [Act.put, pu]
  refine pw_pick (by rfl) false (v := .bool false) rfl rfl rfl ?_
  simp only [Act.put, pu]
  refine pw_as (by rfl) rfl rfl ?_
  simp only [Act.put, pu]
  refine pw_nil ?_
  go_wp2
  go_ret
  exact ⟨rfl, sb⟩
 by_cases h2 : op ≤ 1048576
 ·rw [decide_eq_true (show 1 ≤ op ∧ op ≤ 1048576 by omega)]
  go_enter Try.func46, Try.ntmps46
  (repeat ((fail_if_success with_reducible refine rg ?_); go_step))
  refine wp_region_pw ?_
  refine pw_value (by rfl) (.bool false) (fun _ => rfl) ?_
  simp only [Act.put, pu]
  refine pw_nil ?_
  have sb := Below.refl w.heap.size w
  (repeat ((fail_if_success with_reducible refine rg ?_); go_step))
  refine wp_region_pw ?_
  refine pw_mv (by rfl) rfl rfl ?_
  simp only [Act.put, pu]
  refine pw_value (by rfl) (.bool false) (x_eqI _ _ _ _ rfl .i64 kd 5 rfl rfl false (decide_eq_false (by omega))) ?_
  simp only [Act.put, pu]
  refine pw_mv (by rfl) rfl rfl ?_
  simp only [Act.put, pu]
  refine pw_mv (by rfl) rfl rfl ?_
  simp only [Act.put, pu]
  refine pw_value (by rfl) (.bool false) (x_eqI _ _ _ _ rfl .i64 kd 6 rfl rfl false (decide_eq_false (by omega))) ?_
  simp only [Act.put, pu]
  refine pw_pick (by rfl) false (v := .bool false) rfl rfl rfl ?_
  simp only [Act.put, pu]
  refine pw_nil ?_
  (repeat ((fail_if_success with_reducible refine rg ?_); go_step))
  refine wp_region_pw ?_
  refine pw_mv (by rfl) rfl rfl ?_
  simp only [Act.put, pu]
  refine pw_value (by rfl) (.bool true) (w_ge _ _ _ _ rfl op 1 rfl rfl true (decide_eq_true (by omega))) ?_
  simp only [Act.put, pu]
  refine pw_mv (by rfl) rfl rfl ?_
  simp only [Act.put, pu]
  refine pw_mv (by rfl) rfl rfl ?_
  simp only [Act.put, pu]
  refine pw_value (by rfl) (.bool true) (w_le _ _ _ _ rfl op 1048576 rfl rfl true (decide_eq_true (by omega))) ?_
  simp only [Act.put, pu]
  refine pw_pick (by rfl) true (v := .bool true) rfl rfl rfl ?_
  simp only [Act.put, pu]
  refine pw_as (by rfl) rfl rfl ?_
  simp only [Act.put, pu]
  refine pw_nil ?_
  go_wp2
  go_ret
  exact ⟨rfl, sb⟩
 ·rw [decide_eq_false (show ¬ (1 ≤ op ∧ op ≤ 1048576) by omega)]
  go_enter Try.func46, Try.ntmps46
  (repeat ((fail_if_success with_reducible refine rg ?_); go_step))
  refine wp_region_pw ?_
  refine pw_value (by rfl) (.bool false) (fun _ => rfl) ?_
  simp only [Act.put, pu]
  refine pw_nil ?_
  have sb := Below.refl w.heap.size w
  (repeat ((fail_if_success with_reducible refine rg ?_); go_step))
  refine wp_region_pw ?_
  refine pw_mv (by rfl) rfl rfl ?_
  simp only [Act.put, pu]
  refine pw_value (by rfl) (.bool false) (x_eqI _ _ _ _ rfl .i64 kd 5 rfl rfl false (decide_eq_false (by omega))) ?_
  simp only [Act.put, pu]
  refine pw_mv (by rfl) rfl rfl ?_
  simp only [Act.put, pu]
  refine pw_mv (by rfl) rfl rfl ?_
  simp only [Act.put, pu]
  refine pw_value (by rfl) (.bool false) (x_eqI _ _ _ _ rfl .i64 kd 6 rfl rfl false (decide_eq_false (by omega))) ?_
  simp only [Act.put, pu]
  refine pw_pick (by rfl) false (v := .bool false) rfl rfl rfl ?_
  simp only [Act.put, pu]
  refine pw_nil ?_
  (repeat ((fail_if_success with_reducible refine rg ?_); go_step))
  refine wp_region_pw ?_
  refine pw_mv (by rfl) rfl rfl ?_
  simp only [Act.put, pu]
  refine pw_value (by rfl) (.bool true) (w_ge _ _ _ _ rfl op 1 rfl rfl true (decide_eq_true (by omega))) ?_
  simp only [Act.put, pu]
  refine pw_mv (by rfl) rfl rfl ?_
  simp only [Act.put, pu]
  refine pw_mv (by rfl) rfl rfl ?_
  simp only [Act.put, pu]
  refine pw_value (by rfl) (.bool false) (w_le _ _ _ _ rfl op 1048576 rfl rfl false (decide_eq_false (by omega))) ?_
  simp only [Act.put, pu]
  refine pw_pick (by rfl) true (v := .bool false) rfl rfl rfl ?_
  simp only [Act.put, pu]
  refine pw_as (by rfl) rfl rfl ?_
  simp only [Act.put, pu]
  refine pw_nil ?_
  go_wp2
  go_ret
  exact ⟨rfl, sb⟩
set_option maxRecDepth 100000 in
set_option maxHeartbeats 2000000 in
theorem wst_any (sq cl : Int) (w : World) :
  Calls Try.prog 48 #[.agg (tsC sq cl)] w fun e w' => e = .returned (.bool (stB sq cl)) ∧ Below w.heap.size w w' := by
 by_cases h0 : 1 ≤ sq
 rotate_left
 ·rw [show stB sq cl = false from decide_eq_false (by omega)]
  go_enter Try.func48, Try.ntmps48
  (repeat ((fail_if_success with_reducible refine rg ?_); go_step))
  refine wp_region_pw ?_
  refine pw_boxr (by rfl) 24 _ rfl (tsC sq cl) rfl ?_
  intro g1 z0 n0 r1 k
  simp only [Act.put, pu]
  have b1 : w.heap.size ≤ g1 := n0
  clear n0
  have sb := k.below w.heap.size (Nat.le_refl _) (by simp)
  clear k
  refine pw_value (by rfl) (.bool false) (fun _ => rfl) ?_
  simp only [Act.put, pu]
  refine pw_nil ?_
  (repeat ((fail_if_success with_reducible refine rg ?_); go_step))
  refine wp_region_pw ?_
  refine pw_value (by rfl) (.pointer (some ⟨g1, 0, none⟩)) (exec_field 24 _ 0 rfl g1 0 rfl _ Try.underlying24 _ rfl 0 Try.sizeOf3) ?_
  simp only [Act.put, pu]
  refine pw_loadk (by rfl) 3 _ rfl _ (0) rfl r1.r (.int .i64 sq) rfl Try.isAgg3 ?_
  simp only [Act.put, pu]
  refine pw_value (by rfl) (.bool false) (w_ge _ _ _ _ rfl sq 1 rfl rfl false (decide_eq_false (by omega))) ?_
  simp only [Act.put, pu]
  refine pw_mv (by rfl) rfl rfl ?_
  simp only [Act.put, pu]
  refine pw_skip (by rfl) ?_
  simp only [Act.put, pu]
  refine pw_skip (by rfl) ?_
  simp only [Act.put, pu]
  refine pw_skip (by rfl) ?_
  simp only [Act.put, pu]
  refine pw_pick (by rfl) false (v := .bool false) rfl rfl rfl ?_
  simp only [Act.put, pu]
  refine pw_mv (by rfl) rfl rfl ?_
  simp only [Act.put, pu]
  refine pw_skip (by rfl) ?_
  simp only [Act.put, pu]
  refine pw_skip (by rfl) ?_
  simp only [Act.put, pu]
  refine pw_skip (by rfl) ?_
  simp only [Act.put, pu]
  refine pw_pick (by rfl) false (v := .bool false) rfl rfl rfl ?_
  simp only [Act.put, pu]
  refine pw_mv (by rfl) rfl rfl ?_
  simp only [Act.put, pu]
  refine pw_skip (by rfl) ?_
  simp only [Act.put, pu]
  refine pw_skip (by rfl) ?_
  simp only [Act.put, pu]
  refine pw_skip (by rfl) ?_
  simp only [Act.put, pu]
  refine pw_pick (by rfl) false (v := .bool false) rfl rfl rfl ?_
  simp only [Act.put, pu]
  refine pw_as (by rfl) rfl rfl ?_
  simp only [Act.put, pu]
  refine pw_nil ?_
  go_wp2
  go_ret
  exact ⟨rfl, sb⟩
 by_cases h1 : sq ≤ 1099511627776
 rotate_left
 ·rw [show stB sq cl = false from decide_eq_false (by omega)]
  go_enter Try.func48, Try.ntmps48
  (repeat ((fail_if_success with_reducible refine rg ?_); go_step))
  refine wp_region_pw ?_
  refine pw_boxr (by rfl) 24 _ rfl (tsC sq cl) rfl ?_
  intro g1 z0 n0 r1 k
  simp only [Act.put, pu]
  have b1 : w.heap.size ≤ g1 := n0
  clear n0
  have sb := k.below w.heap.size (Nat.le_refl _) (by simp)
  clear k
  refine pw_value (by rfl) (.bool false) (fun _ => rfl) ?_
  simp only [Act.put, pu]
  refine pw_nil ?_
  (repeat ((fail_if_success with_reducible refine rg ?_); go_step))
  refine wp_region_pw ?_
  refine pw_value (by rfl) (.pointer (some ⟨g1, 0, none⟩)) (exec_field 24 _ 0 rfl g1 0 rfl _ Try.underlying24 _ rfl 0 Try.sizeOf3) ?_
  simp only [Act.put, pu]
  refine pw_loadk (by rfl) 3 _ rfl _ (0) rfl r1.r (.int .i64 sq) rfl Try.isAgg3 ?_
  simp only [Act.put, pu]
  refine pw_value (by rfl) (.bool true) (w_ge _ _ _ _ rfl sq 1 rfl rfl true (decide_eq_true (by omega))) ?_
  simp only [Act.put, pu]
  refine pw_mv (by rfl) rfl rfl ?_
  simp only [Act.put, pu]
  refine pw_value (by rfl) (.pointer (some ⟨g1, 0, none⟩)) (exec_field 24 _ 0 rfl g1 0 rfl _ Try.underlying24 _ rfl 0 Try.sizeOf3) ?_
  simp only [Act.put, pu]
  refine pw_loadk (by rfl) 3 _ rfl _ (0) rfl r1.r (.int .i64 sq) rfl Try.isAgg3 ?_
  simp only [Act.put, pu]
  refine pw_value (by rfl) (.bool false) (w_le _ _ _ _ rfl sq 1099511627776 rfl rfl false (decide_eq_false (by omega))) ?_
  simp only [Act.put, pu]
  refine pw_pick (by rfl) true (v := .bool false) rfl rfl rfl ?_
  simp only [Act.put, pu]
  refine pw_mv (by rfl) rfl rfl ?_
  simp only [Act.put, pu]
  refine pw_skip (by rfl) ?_
  simp only [Act.put, pu]
  refine pw_skip (by rfl) ?_
  simp only [Act.put, pu]
  refine pw_skip (by rfl) ?_
  simp only [Act.put, pu]
  refine pw_pick (by rfl) false (v := .bool false) rfl rfl rfl ?_
  simp only [Act.put, pu]
  refine pw_mv (by rfl) rfl rfl ?_
  simp only [Act.put, pu]
  refine pw_skip (by rfl) ?_
  simp only [Act.put, pu]
  refine pw_skip (by rfl) ?_
  simp only [Act.put, pu]
  refine pw_skip (by rfl) ?_
  simp only [Act.put, pu]
  refine pw_pick (by rfl) false (v := .bool false) rfl rfl rfl ?_
  simp only [Act.put, pu]
  refine pw_as (by rfl) rfl rfl ?_
  simp only [Act.put, pu]
  refine pw_nil ?_
  go_wp2
  go_ret
  exact ⟨rfl, sb⟩
 by_cases h2 : 1 ≤ cl
 rotate_left
 ·rw [show stB sq cl = false from decide_eq_false (by omega)]
  go_enter Try.func48, Try.ntmps48
  (repeat ((fail_if_success with_reducible refine rg ?_); go_step))
  refine wp_region_pw ?_
  refine pw_boxr (by rfl) 24 _ rfl (tsC sq cl) rfl ?_
  intro g1 z0 n0 r1 k
  simp only [Act.put, pu]
  have b1 : w.heap.size ≤ g1 := n0
  clear n0
  have sb := k.below w.heap.size (Nat.le_refl _) (by simp)
  clear k
  refine pw_value (by rfl) (.bool false) (fun _ => rfl) ?_
  simp only [Act.put, pu]
  refine pw_nil ?_
  (repeat ((fail_if_success with_reducible refine rg ?_); go_step))
  refine wp_region_pw ?_
  refine pw_value (by rfl) (.pointer (some ⟨g1, 0, none⟩)) (exec_field 24 _ 0 rfl g1 0 rfl _ Try.underlying24 _ rfl 0 Try.sizeOf3) ?_
  simp only [Act.put, pu]
  refine pw_loadk (by rfl) 3 _ rfl _ (0) rfl r1.r (.int .i64 sq) rfl Try.isAgg3 ?_
  simp only [Act.put, pu]
  refine pw_value (by rfl) (.bool true) (w_ge _ _ _ _ rfl sq 1 rfl rfl true (decide_eq_true (by omega))) ?_
  simp only [Act.put, pu]
  refine pw_mv (by rfl) rfl rfl ?_
  simp only [Act.put, pu]
  refine pw_value (by rfl) (.pointer (some ⟨g1, 0, none⟩)) (exec_field 24 _ 0 rfl g1 0 rfl _ Try.underlying24 _ rfl 0 Try.sizeOf3) ?_
  simp only [Act.put, pu]
  refine pw_loadk (by rfl) 3 _ rfl _ (0) rfl r1.r (.int .i64 sq) rfl Try.isAgg3 ?_
  simp only [Act.put, pu]
  refine pw_value (by rfl) (.bool true) (w_le _ _ _ _ rfl sq 1099511627776 rfl rfl true (decide_eq_true (by omega))) ?_
  simp only [Act.put, pu]
  refine pw_pick (by rfl) true (v := .bool true) rfl rfl rfl ?_
  simp only [Act.put, pu]
  refine pw_mv (by rfl) rfl rfl ?_
  simp only [Act.put, pu]
  refine pw_value (by rfl) (.pointer (some ⟨g1, 1, none⟩)) (exec_field 24 _ 1 rfl g1 0 rfl _ Try.underlying24 _ rfl 0 Try.sizeOf3) ?_
  simp only [Act.put, pu]
  refine pw_loadk (by rfl) 3 _ rfl _ (1) rfl r1.r (.int .i64 cl) rfl Try.isAgg3 ?_
  simp only [Act.put, pu]
  refine pw_value (by rfl) (.bool false) (w_ge _ _ _ _ rfl cl 1 rfl rfl false (decide_eq_false (by omega))) ?_
  simp only [Act.put, pu]
  refine pw_pick (by rfl) true (v := .bool false) rfl rfl rfl ?_
  simp only [Act.put, pu]
  refine pw_mv (by rfl) rfl rfl ?_
  simp only [Act.put, pu]
  refine pw_skip (by rfl) ?_
  simp only [Act.put, pu]
  refine pw_skip (by rfl) ?_
  simp only [Act.put, pu]
  refine pw_skip (by rfl) ?_
  simp only [Act.put, pu]
  refine pw_pick (by rfl) false (v := .bool false) rfl rfl rfl ?_
  simp only [Act.put, pu]
  refine pw_as (by rfl) rfl rfl ?_
  simp only [Act.put, pu]
  refine pw_nil ?_
  go_wp2
  go_ret
  exact ⟨rfl, sb⟩
 by_cases h3 : cl ≤ 4
 rotate_left
 ·rw [show stB sq cl = false from decide_eq_false (by omega)]
  go_enter Try.func48, Try.ntmps48
  (repeat ((fail_if_success with_reducible refine rg ?_); go_step))
  refine wp_region_pw ?_
  refine pw_boxr (by rfl) 24 _ rfl (tsC sq cl) rfl ?_
  intro g1 z0 n0 r1 k
  simp only [Act.put, pu]
  have b1 : w.heap.size ≤ g1 := n0
  clear n0
  have sb := k.below w.heap.size (Nat.le_refl _) (by simp)
  clear k
  refine pw_value (by rfl) (.bool false) (fun _ => rfl) ?_
  simp only [Act.put, pu]
  refine pw_nil ?_
  (repeat ((fail_if_success with_reducible refine rg ?_); go_step))
  refine wp_region_pw ?_
  refine pw_value (by rfl) (.pointer (some ⟨g1, 0, none⟩)) (exec_field 24 _ 0 rfl g1 0 rfl _ Try.underlying24 _ rfl 0 Try.sizeOf3) ?_
  simp only [Act.put, pu]
  refine pw_loadk (by rfl) 3 _ rfl _ (0) rfl r1.r (.int .i64 sq) rfl Try.isAgg3 ?_
  simp only [Act.put, pu]
  refine pw_value (by rfl) (.bool true) (w_ge _ _ _ _ rfl sq 1 rfl rfl true (decide_eq_true (by omega))) ?_
  simp only [Act.put, pu]
  refine pw_mv (by rfl) rfl rfl ?_
  simp only [Act.put, pu]
  refine pw_value (by rfl) (.pointer (some ⟨g1, 0, none⟩)) (exec_field 24 _ 0 rfl g1 0 rfl _ Try.underlying24 _ rfl 0 Try.sizeOf3) ?_
  simp only [Act.put, pu]
  refine pw_loadk (by rfl) 3 _ rfl _ (0) rfl r1.r (.int .i64 sq) rfl Try.isAgg3 ?_
  simp only [Act.put, pu]
  refine pw_value (by rfl) (.bool true) (w_le _ _ _ _ rfl sq 1099511627776 rfl rfl true (decide_eq_true (by omega))) ?_
  simp only [Act.put, pu]
  refine pw_pick (by rfl) true (v := .bool true) rfl rfl rfl ?_
  simp only [Act.put, pu]
  refine pw_mv (by rfl) rfl rfl ?_
  simp only [Act.put, pu]
  refine pw_value (by rfl) (.pointer (some ⟨g1, 1, none⟩)) (exec_field 24 _ 1 rfl g1 0 rfl _ Try.underlying24 _ rfl 0 Try.sizeOf3) ?_
  simp only [Act.put, pu]
  refine pw_loadk (by rfl) 3 _ rfl _ (1) rfl r1.r (.int .i64 cl) rfl Try.isAgg3 ?_
  simp only [Act.put, pu]
  refine pw_value (by rfl) (.bool true) (w_ge _ _ _ _ rfl cl 1 rfl rfl true (decide_eq_true (by omega))) ?_
  simp only [Act.put, pu]
  refine pw_pick (by rfl) true (v := .bool true) rfl rfl rfl ?_
  simp only [Act.put, pu]
  refine pw_mv (by rfl) rfl rfl ?_
  simp only [Act.put, pu]
  refine pw_value (by rfl) (.pointer (some ⟨g1, 1, none⟩)) (exec_field 24 _ 1 rfl g1 0 rfl _ Try.underlying24 _ rfl 0 Try.sizeOf3) ?_
  simp only [Act.put, pu]
  refine pw_loadk (by rfl) 3 _ rfl _ (1) rfl r1.r (.int .i64 cl) rfl Try.isAgg3 ?_
  simp only [Act.put, pu]
  refine pw_value (by rfl) (.bool false) (w_le _ _ _ _ rfl cl 4 rfl rfl false (decide_eq_false (by omega))) ?_
  simp only [Act.put, pu]
  refine pw_pick (by rfl) true (v := .bool false) rfl rfl rfl ?_
  simp only [Act.put, pu]
  refine pw_as (by rfl) rfl rfl ?_
  simp only [Act.put, pu]
  refine pw_nil ?_
  go_wp2
  go_ret
  exact ⟨rfl, sb⟩
 rw [show stB sq cl = true from decide_eq_true ⟨h0, h1, h2, h3⟩]
 go_enter Try.func48, Try.ntmps48
 (repeat ((fail_if_success with_reducible refine rg ?_); go_step))
 refine wp_region_pw ?_
 refine pw_boxr (by rfl) 24 _ rfl (tsC sq cl) rfl ?_
 intro g1 z0 n0 r1 k
 simp only [Act.put, pu]
 have b1 : w.heap.size ≤ g1 := n0
 clear n0
 have sb := k.below w.heap.size (Nat.le_refl _) (by simp)
 clear k
 refine pw_value (by rfl) (.bool false) (fun _ => rfl) ?_
 simp only [Act.put, pu]
 refine pw_nil ?_
 (repeat ((fail_if_success with_reducible refine rg ?_); go_step))
 refine wp_region_pw ?_
 refine pw_value (by rfl) (.pointer (some ⟨g1, 0, none⟩)) (exec_field 24 _ 0 rfl g1 0 rfl _ Try.underlying24 _ rfl 0 Try.sizeOf3) ?_
 simp only [Act.put, pu]
 refine pw_loadk (by rfl) 3 _ rfl _ (0) rfl r1.r (.int .i64 sq) rfl Try.isAgg3 ?_
 simp only [Act.put, pu]
 refine pw_value (by rfl) (.bool true) (w_ge _ _ _ _ rfl sq 1 rfl rfl true (decide_eq_true (by omega))) ?_
 simp only [Act.put, pu]
 refine pw_mv (by rfl) rfl rfl ?_
 simp only [Act.put, pu]
 refine pw_value (by rfl) (.pointer (some ⟨g1, 0, none⟩)) (exec_field 24 _ 0 rfl g1 0 rfl _ Try.underlying24 _ rfl 0 Try.sizeOf3) ?_
 simp only [Act.put, pu]
 refine pw_loadk (by rfl) 3 _ rfl _ (0) rfl r1.r (.int .i64 sq) rfl Try.isAgg3 ?_
 simp only [Act.put, pu]
 refine pw_value (by rfl) (.bool true) (w_le _ _ _ _ rfl sq 1099511627776 rfl rfl true (decide_eq_true (by omega))) ?_
 simp only [Act.put, pu]
 refine pw_pick (by rfl) true (v := .bool true) rfl rfl rfl ?_
 simp only [Act.put, pu]
 refine pw_mv (by rfl) rfl rfl ?_
 simp only [Act.put, pu]
 refine pw_value (by rfl) (.pointer (some ⟨g1, 1, none⟩)) (exec_field 24 _ 1 rfl g1 0 rfl _ Try.underlying24 _ rfl 0 Try.sizeOf3) ?_
 simp only [Act.put, pu]
 refine pw_loadk (by rfl) 3 _ rfl _ (1) rfl r1.r (.int .i64 cl) rfl Try.isAgg3 ?_
 simp only [Act.put, pu]
 refine pw_value (by rfl) (.bool true) (w_ge _ _ _ _ rfl cl 1 rfl rfl true (decide_eq_true (by omega))) ?_
 simp only [Act.put, pu]
 refine pw_pick (by rfl) true (v := .bool true) rfl rfl rfl ?_
 simp only [Act.put, pu]
 refine pw_mv (by rfl) rfl rfl ?_
 simp only [Act.put, pu]
 refine pw_value (by rfl) (.pointer (some ⟨g1, 1, none⟩)) (exec_field 24 _ 1 rfl g1 0 rfl _ Try.underlying24 _ rfl 0 Try.sizeOf3) ?_
 simp only [Act.put, pu]
 refine pw_loadk (by rfl) 3 _ rfl _ (1) rfl r1.r (.int .i64 cl) rfl Try.isAgg3 ?_
 simp only [Act.put, pu]
 refine pw_value (by rfl) (.bool true) (w_le _ _ _ _ rfl cl 4 rfl rfl true (decide_eq_true (by omega))) ?_
 simp only [Act.put, pu]
 refine pw_pick (by rfl) true (v := .bool true) rfl rfl rfl ?_
 simp only [Act.put, pu]
 refine pw_as (by rfl) rfl rfl ?_
 simp only [Act.put, pu]
 refine pw_nil ?_
 go_wp2
 go_ret
 exact ⟨rfl, sb⟩
theorem sl_mw : Try.prog.underlying 26 = some (.slice (Try.prog.elem 26)) := by kernel_rfl
theorem sl_yw : Try.prog.underlying 27 = some (.slice (Try.prog.elem 27)) := by kernel_rfl
set_option maxRecDepth 100000 in
set_option maxHeartbeats 2000000 in
theorem wbare_any (kd op : Int) (key : List UInt8) (sq cl : Int) (dg : List UInt8) (a1 : Option Addr) (n c1 : Nat) (a2 : Option Addr) (m c2 : Nat) (w : World) :
  Calls Try.prog 47 #[.agg (msC kd op key sq cl dg a1 n c1 a2 m c2)] w fun e w' => e = .returned (.bool (brB n m)) ∧ Below w.heap.size w w' := by
 by_cases h1 : n = 0
 rotate_left
 ·rw [show brB n m = false from decide_eq_false (by omega)]
  go_enter Try.func47, Try.ntmps47
  (repeat ((fail_if_success with_reducible refine rg ?_); go_step))
  refine wp_region_pw ?_
  refine pw_boxr (by rfl) 29 _ rfl (msC kd op key sq cl dg a1 n c1 a2 m c2) rfl ?_
  intro g1 z0 n0 r1 k
  simp only [Act.put, pu]
  have b1 : w.heap.size ≤ g1 := n0
  clear n0
  have sb := k.below w.heap.size (Nat.le_refl _) (by simp)
  clear k
  refine pw_value (by rfl) (.bool false) (fun _ => rfl) ?_
  simp only [Act.put, pu]
  refine pw_nil ?_
  (repeat ((fail_if_success with_reducible refine rg ?_); go_step))
  refine wp_region_pw ?_
  refine pw_value (by rfl) (.pointer (some ⟨g1, 6, none⟩)) (exec_field 29 _ 5 rfl g1 0 rfl _ Try.underlying29 _ rfl 0 Try.sizeOf26) ?_
  simp only [Act.put, pu]
  refine pw_loadk (by rfl) 26 _ rfl _ (6) rfl r1.r (.slice a1 n c1) rfl Try.isAgg26 ?_
  simp only [Act.put, pu]
  refine pw_value (by rfl) (.int .i64 (n : Nat)) (exec_len_s 26 _ rfl a1 n c1 rfl sl_mw) ?_
  simp only [Act.put, pu]
  refine pw_value (by rfl) (.bool false) (x_eqI _ _ _ _ rfl .i64 (n : Nat) 0 rfl rfl false (decide_eq_false (by omega))) ?_
  simp only [Act.put, pu]
  refine pw_mv (by rfl) rfl rfl ?_
  simp only [Act.put, pu]
  refine pw_skip (by rfl) ?_
  simp only [Act.put, pu]
  refine pw_skip (by rfl) ?_
  simp only [Act.put, pu]
  refine pw_skip (by rfl) ?_
  simp only [Act.put, pu]
  refine pw_skip (by rfl) ?_
  simp only [Act.put, pu]
  refine pw_pick (by rfl) false (v := .bool false) rfl rfl rfl ?_
  simp only [Act.put, pu]
  refine pw_as (by rfl) rfl rfl ?_
  simp only [Act.put, pu]
  refine pw_nil ?_
  go_wp2
  go_ret
  exact ⟨rfl, sb⟩
 by_cases h2 : m = 0
 ·rw [show brB n m = true from decide_eq_true ⟨h1, h2⟩]
  go_enter Try.func47, Try.ntmps47
  (repeat ((fail_if_success with_reducible refine rg ?_); go_step))
  refine wp_region_pw ?_
  refine pw_boxr (by rfl) 29 _ rfl (msC kd op key sq cl dg a1 n c1 a2 m c2) rfl ?_
  intro g1 z0 n0 r1 k
  simp only [Act.put, pu]
  have b1 : w.heap.size ≤ g1 := n0
  clear n0
  have sb := k.below w.heap.size (Nat.le_refl _) (by simp)
  clear k
  refine pw_value (by rfl) (.bool false) (fun _ => rfl) ?_
  simp only [Act.put, pu]
  refine pw_nil ?_
  (repeat ((fail_if_success with_reducible refine rg ?_); go_step))
  refine wp_region_pw ?_
  refine pw_value (by rfl) (.pointer (some ⟨g1, 6, none⟩)) (exec_field 29 _ 5 rfl g1 0 rfl _ Try.underlying29 _ rfl 0 Try.sizeOf26) ?_
  simp only [Act.put, pu]
  refine pw_loadk (by rfl) 26 _ rfl _ (6) rfl r1.r (.slice a1 n c1) rfl Try.isAgg26 ?_
  simp only [Act.put, pu]
  refine pw_value (by rfl) (.int .i64 (n : Nat)) (exec_len_s 26 _ rfl a1 n c1 rfl sl_mw) ?_
  simp only [Act.put, pu]
  refine pw_value (by rfl) (.bool true) (x_eqI _ _ _ _ rfl .i64 (n : Nat) 0 rfl rfl true (decide_eq_true (by omega))) ?_
  simp only [Act.put, pu]
  refine pw_mv (by rfl) rfl rfl ?_
  simp only [Act.put, pu]
  refine pw_value (by rfl) (.pointer (some ⟨g1, 7, none⟩)) (exec_field 29 _ 6 rfl g1 0 rfl _ Try.underlying29 _ rfl 0 Try.sizeOf27) ?_
  simp only [Act.put, pu]
  refine pw_loadk (by rfl) 27 _ rfl _ (7) rfl r1.r (.slice a2 m c2) rfl Try.isAgg27 ?_
  simp only [Act.put, pu]
  refine pw_value (by rfl) (.int .i64 (m : Nat)) (exec_len_s 27 _ rfl a2 m c2 rfl sl_yw) ?_
  simp only [Act.put, pu]
  refine pw_value (by rfl) (.bool true) (x_eqI _ _ _ _ rfl .i64 (m : Nat) 0 rfl rfl true (decide_eq_true (by omega))) ?_
  simp only [Act.put, pu]
  refine pw_pick (by rfl) true (v := .bool true) rfl rfl rfl ?_
  simp only [Act.put, pu]
  refine pw_as (by rfl) rfl rfl ?_
  simp only [Act.put, pu]
  refine pw_nil ?_
  go_wp2
  go_ret
  exact ⟨rfl, sb⟩
 ·rw [show brB n m = false from decide_eq_false (by omega)]
  go_enter Try.func47, Try.ntmps47
  (repeat ((fail_if_success with_reducible refine rg ?_); go_step))
  refine wp_region_pw ?_
  refine pw_boxr (by rfl) 29 _ rfl (msC kd op key sq cl dg a1 n c1 a2 m c2) rfl ?_
  intro g1 z0 n0 r1 k
  simp only [Act.put, pu]
  have b1 : w.heap.size ≤ g1 := n0
  clear n0
  have sb := k.below w.heap.size (Nat.le_refl _) (by simp)
  clear k
  refine pw_value (by rfl) (.bool false) (fun _ => rfl) ?_
  simp only [Act.put, pu]
  refine pw_nil ?_
  (repeat ((fail_if_success with_reducible refine rg ?_); go_step))
  refine wp_region_pw ?_
  refine pw_value (by rfl) (.pointer (some ⟨g1, 6, none⟩)) (exec_field 29 _ 5 rfl g1 0 rfl _ Try.underlying29 _ rfl 0 Try.sizeOf26) ?_
  simp only [Act.put, pu]
  refine pw_loadk (by rfl) 26 _ rfl _ (6) rfl r1.r (.slice a1 n c1) rfl Try.isAgg26 ?_
  simp only [Act.put, pu]
  refine pw_value (by rfl) (.int .i64 (n : Nat)) (exec_len_s 26 _ rfl a1 n c1 rfl sl_mw) ?_
  simp only [Act.put, pu]
  refine pw_value (by rfl) (.bool true) (x_eqI _ _ _ _ rfl .i64 (n : Nat) 0 rfl rfl true (decide_eq_true (by omega))) ?_
  simp only [Act.put, pu]
  refine pw_mv (by rfl) rfl rfl ?_
  simp only [Act.put, pu]
  refine pw_value (by rfl) (.pointer (some ⟨g1, 7, none⟩)) (exec_field 29 _ 6 rfl g1 0 rfl _ Try.underlying29 _ rfl 0 Try.sizeOf27) ?_
  simp only [Act.put, pu]
  refine pw_loadk (by rfl) 27 _ rfl _ (7) rfl r1.r (.slice a2 m c2) rfl Try.isAgg27 ?_
  simp only [Act.put, pu]
  refine pw_value (by rfl) (.int .i64 (m : Nat)) (exec_len_s 27 _ rfl a2 m c2 rfl sl_yw) ?_
  simp only [Act.put, pu]
  refine pw_value (by rfl) (.bool false) (x_eqI _ _ _ _ rfl .i64 (m : Nat) 0 rfl rfl false (decide_eq_false (by omega))) ?_
  simp only [Act.put, pu]
  refine pw_pick (by rfl) true (v := .bool false) rfl rfl rfl ?_
  simp only [Act.put, pu]
  refine pw_as (by rfl) rfl rfl ?_
  simp only [Act.put, pu]
  refine pw_nil ?_
  go_wp2
  go_ret
  exact ⟨rfl, sb⟩
/-- A matrix in memory. -/
def MtA (w : World) (a1 : Option Addr) (n : Nat) (N : Nat → Nat) (M : Nat → Nat → Nat) : Prop := ∃ (S : Nat → Value) (gb ob : Nat) (bcs : Array Value) (tb : TypeId), VsAt w a1 n S gb ob bcs tb ∧ ∀ i, i < n → NrAt w (S i) (N i) (M i)
theorem MtA.below {w w2 : World} {a1 : Option Addr} {n : Nat} {N : Nat → Nat} {M : Nat → Nat → Nat} (h : MtA w a1 n N M) (hb : Below w.heap.size w w2) : MtA w2 a1 n N M := by
 obtain ⟨S, gb, ob, bcs, tb, h1, h2⟩ := h
 exact ⟨S, gb, ob, bcs, tb, h1.below hb, fun i hi => (h2 i hi).below hb⟩
def YsA (w : World) (a2 : Option Addr) (m : Nat) (Y : Nat → Nat) : Prop := ∃ (gb ob : Nat) (bcs : Array Value) (tb : TypeId), NatsAt w a2 m Y gb ob bcs tb
theorem YsA.below {w w2 : World} {a2 : Option Addr} {m : Nat} {Y : Nat → Nat} (h : YsA w a2 m Y) (hb : Below w.heap.size w w2) : YsA w2 a2 m Y := by
 obtain ⟨gb, ob, bcs, tb, h1⟩ := h
 exact ⟨gb, ob, bcs, tb, h1.below hb⟩
theorem mby_any (a1 : Option Addr) (n c1 : Nat) (N : Nat → Nat) (M : Nat → Nat → Nat) (w : World) (hn : n < 4611686018427387904) (h : MtA w a1 n N M) :
  Calls Try.prog 54 #[.slice a1 n c1] w fun e w' => e = .returned (.string ⟨(xmB n N M).toArray⟩) ∧ Below w.heap.size w w' := by
 obtain ⟨S, gb, ob, bcs, tb, h1, h2⟩ := h
 exact mbytes_any a1 n c1 S gb ob bcs tb N M w hn h1 h2
set_option maxRecDepth 100000 in
set_option maxHeartbeats 2000000 in
theorem wdealt_any (kd op : Int) (key : List UInt8) (sq cl : Int) (dg : List UInt8) (a1 : Option Addr) (n c1 : Nat) (a2 : Option Addr) (m c2 : Nat) (N : Nat → Nat) (M : Nat → Nat → Nat) (X : List UInt8) (w : World) (hX : xmB n N M = X) (hn : n < 4611686018427387904) (hM : MtA w a1 n N M) :
  Calls Try.prog 49 #[.agg (msC kd op key sq cl dg a1 n c1 a2 m c2)] w fun e w' => e = .returned (.bool (dlB n m X)) ∧ Below w.heap.size w w' := by
 have hB : ∀ w', Below w.heap.size w w' → Calls Try.prog 54 #[.slice a1 n c1] w' fun e w2 => e = .returned (.string ⟨X.toArray⟩) ∧ Below w'.heap.size w' w2 := fun w' hb => by
  have := mby_any a1 n c1 N M w' hn (hM.below hb)
  rw [hX] at this
  exact this
 clear hX hM
 by_cases h1 : m = n
 rotate_left
 ·rw [show dlB n m X = false from decide_eq_false (fun h => h1 h.1)]
  go_enter Try.func49, Try.ntmps49
  (repeat ((fail_if_success with_reducible refine rg ?_); go_step))
  refine wp_region_pw ?_
  refine pw_boxr (by rfl) 29 _ rfl (msC kd op key sq cl dg a1 n c1 a2 m c2) rfl ?_
  intro g1 z0 n0 r1 k
  simp only [Act.put, pu]
  have b1 : w.heap.size ≤ g1 := n0
  clear n0
  have sb := k.below w.heap.size (Nat.le_refl _) (by simp)
  clear k
  refine pw_value (by rfl) (.bool false) (fun _ => rfl) ?_
  simp only [Act.put, pu]
  refine pw_nil ?_
  (repeat ((fail_if_success with_reducible refine rg ?_); go_step))
  refine wp_region_pw ?_
  refine pw_value (by rfl) (.pointer (some ⟨g1, 7, none⟩)) (exec_field 29 _ 6 rfl g1 0 rfl _ Try.underlying29 _ rfl 0 Try.sizeOf27) ?_
  simp only [Act.put, pu]
  refine pw_loadk (by rfl) 27 _ rfl _ (7) rfl r1.r (.slice a2 m c2) rfl Try.isAgg27 ?_
  simp only [Act.put, pu]
  refine pw_value (by rfl) (.int .i64 (m : Nat)) (exec_len_s 27 _ rfl a2 m c2 rfl sl_yw) ?_
  simp only [Act.put, pu]
  refine pw_value (by rfl) (.pointer (some ⟨g1, 6, none⟩)) (exec_field 29 _ 5 rfl g1 0 rfl _ Try.underlying29 _ rfl 0 Try.sizeOf26) ?_
  simp only [Act.put, pu]
  refine pw_loadk (by rfl) 26 _ rfl _ (6) rfl r1.r (.slice a1 n c1) rfl Try.isAgg26 ?_
  simp only [Act.put, pu]
  refine pw_value (by rfl) (.int .i64 (n : Nat)) (exec_len_s 26 _ rfl a1 n c1 rfl sl_mw) ?_
  simp only [Act.put, pu]
  refine pw_value (by rfl) (.bool false) (x_eqI _ _ _ _ rfl .i64 (m : Nat) (n : Nat) rfl rfl false (decide_eq_false (by omega))) ?_
  simp only [Act.put, pu]
  refine pw_mv (by rfl) rfl rfl ?_
  simp only [Act.put, pu]
  refine pw_skip (by rfl) ?_
  simp only [Act.put, pu]
  refine pw_skip (by rfl) ?_
  simp only [Act.put, pu]
  refine pw_skip (by rfl) ?_
  simp only [Act.put, pu]
  refine pw_skip (by rfl) ?_
  simp only [Act.put, pu]
  refine pw_pick (by rfl) false (v := .bool false) rfl rfl rfl ?_
  simp only [Act.put, pu]
  refine pw_as (by rfl) rfl rfl ?_
  simp only [Act.put, pu]
  refine pw_nil ?_
  go_wp2
  go_ret
  exact ⟨rfl, sb⟩
 by_cases h2 : X = []
 ·rw [show dlB n m X = false from decide_eq_false (fun h => h.2 h2)]
  go_enter Try.func49, Try.ntmps49
  (repeat ((fail_if_success with_reducible refine rg ?_); go_step))
  refine wp_region_pw ?_
  refine pw_boxr (by rfl) 29 _ rfl (msC kd op key sq cl dg a1 n c1 a2 m c2) rfl ?_
  intro g1 z0 n0 r1 k
  simp only [Act.put, pu]
  have b1 : w.heap.size ≤ g1 := n0
  clear n0
  have sb := k.below w.heap.size (Nat.le_refl _) (by simp)
  clear k
  refine pw_value (by rfl) (.bool false) (fun _ => rfl) ?_
  simp only [Act.put, pu]
  refine pw_nil ?_
  (repeat ((fail_if_success with_reducible refine rg ?_); go_step))
  refine wp_region_pw ?_
  refine pw_value (by rfl) (.pointer (some ⟨g1, 7, none⟩)) (exec_field 29 _ 6 rfl g1 0 rfl _ Try.underlying29 _ rfl 0 Try.sizeOf27) ?_
  simp only [Act.put, pu]
  refine pw_loadk (by rfl) 27 _ rfl _ (7) rfl r1.r (.slice a2 m c2) rfl Try.isAgg27 ?_
  simp only [Act.put, pu]
  refine pw_value (by rfl) (.int .i64 (m : Nat)) (exec_len_s 27 _ rfl a2 m c2 rfl sl_yw) ?_
  simp only [Act.put, pu]
  refine pw_value (by rfl) (.pointer (some ⟨g1, 6, none⟩)) (exec_field 29 _ 5 rfl g1 0 rfl _ Try.underlying29 _ rfl 0 Try.sizeOf26) ?_
  simp only [Act.put, pu]
  refine pw_loadk (by rfl) 26 _ rfl _ (6) rfl r1.r (.slice a1 n c1) rfl Try.isAgg26 ?_
  simp only [Act.put, pu]
  refine pw_value (by rfl) (.int .i64 (n : Nat)) (exec_len_s 26 _ rfl a1 n c1 rfl sl_mw) ?_
  simp only [Act.put, pu]
  refine pw_value (by rfl) (.bool true) (x_eqI _ _ _ _ rfl .i64 (m : Nat) (n : Nat) rfl rfl true (decide_eq_true (by omega))) ?_
  simp only [Act.put, pu]
  refine pw_mv (by rfl) rfl rfl ?_
  simp only [Act.put, pu]
  refine pw_value (by rfl) (.pointer (some ⟨g1, 6, none⟩)) (exec_field 29 _ 5 rfl g1 0 rfl _ Try.underlying29 _ rfl 0 Try.sizeOf26) ?_
  simp only [Act.put, pu]
  refine pw_loadk (by rfl) 26 _ rfl _ (6) rfl r1.r (.slice a1 n c1) rfl Try.isAgg26 ?_
  simp only [Act.put, pu]
  refine pw_callB (by rfl) 54 _ _ rfl Try.func54 (by kernel_rfl) #[.slice a1 n c1] rfl _ (hB _ sb) ?_
  intro z1010 k
  simp only [Act.put, pu]
  replace r1 := k.row r1 (by simp <;> omega)
  replace sb := sb.trans (k.below w.heap.size sb.size (by simp <;> omega))
  clear k
  refine pw_value (by rfl) (.bool false) (y_neS _ _ _ _ rfl X [] rfl rfl false (by simp [h2])) ?_
  simp only [Act.put, pu]
  refine pw_pick (by rfl) true (v := .bool false) rfl rfl rfl ?_
  simp only [Act.put, pu]
  refine pw_as (by rfl) rfl rfl ?_
  simp only [Act.put, pu]
  refine pw_nil ?_
  go_wp2
  go_ret
  exact ⟨rfl, sb⟩
 ·rw [show dlB n m X = true from decide_eq_true ⟨h1, h2⟩]
  go_enter Try.func49, Try.ntmps49
  (repeat ((fail_if_success with_reducible refine rg ?_); go_step))
  refine wp_region_pw ?_
  refine pw_boxr (by rfl) 29 _ rfl (msC kd op key sq cl dg a1 n c1 a2 m c2) rfl ?_
  intro g1 z0 n0 r1 k
  simp only [Act.put, pu]
  have b1 : w.heap.size ≤ g1 := n0
  clear n0
  have sb := k.below w.heap.size (Nat.le_refl _) (by simp)
  clear k
  refine pw_value (by rfl) (.bool false) (fun _ => rfl) ?_
  simp only [Act.put, pu]
  refine pw_nil ?_
  (repeat ((fail_if_success with_reducible refine rg ?_); go_step))
  refine wp_region_pw ?_
  refine pw_value (by rfl) (.pointer (some ⟨g1, 7, none⟩)) (exec_field 29 _ 6 rfl g1 0 rfl _ Try.underlying29 _ rfl 0 Try.sizeOf27) ?_
  simp only [Act.put, pu]
  refine pw_loadk (by rfl) 27 _ rfl _ (7) rfl r1.r (.slice a2 m c2) rfl Try.isAgg27 ?_
  simp only [Act.put, pu]
  refine pw_value (by rfl) (.int .i64 (m : Nat)) (exec_len_s 27 _ rfl a2 m c2 rfl sl_yw) ?_
  simp only [Act.put, pu]
  refine pw_value (by rfl) (.pointer (some ⟨g1, 6, none⟩)) (exec_field 29 _ 5 rfl g1 0 rfl _ Try.underlying29 _ rfl 0 Try.sizeOf26) ?_
  simp only [Act.put, pu]
  refine pw_loadk (by rfl) 26 _ rfl _ (6) rfl r1.r (.slice a1 n c1) rfl Try.isAgg26 ?_
  simp only [Act.put, pu]
  refine pw_value (by rfl) (.int .i64 (n : Nat)) (exec_len_s 26 _ rfl a1 n c1 rfl sl_mw) ?_
  simp only [Act.put, pu]
  refine pw_value (by rfl) (.bool true) (x_eqI _ _ _ _ rfl .i64 (m : Nat) (n : Nat) rfl rfl true (decide_eq_true (by omega))) ?_
  simp only [Act.put, pu]
  refine pw_mv (by rfl) rfl rfl ?_
  simp only [Act.put, pu]
  refine pw_value (by rfl) (.pointer (some ⟨g1, 6, none⟩)) (exec_field 29 _ 5 rfl g1 0 rfl _ Try.underlying29 _ rfl 0 Try.sizeOf26) ?_
  simp only [Act.put, pu]
  refine pw_loadk (by rfl) 26 _ rfl _ (6) rfl r1.r (.slice a1 n c1) rfl Try.isAgg26 ?_
  simp only [Act.put, pu]
  refine pw_callB (by rfl) 54 _ _ rfl Try.func54 (by kernel_rfl) #[.slice a1 n c1] rfl _ (hB _ sb) ?_
  intro z1010 k
  simp only [Act.put, pu]
  replace r1 := k.row r1 (by simp <;> omega)
  replace sb := sb.trans (k.below w.heap.size sb.size (by simp <;> omega))
  clear k
  refine pw_value (by rfl) (.bool true) (y_neS _ _ _ _ rfl X [] rfl rfl true (by simp [h2])) ?_
  simp only [Act.put, pu]
  refine pw_pick (by rfl) true (v := .bool true) rfl rfl rfl ?_
  simp only [Act.put, pu]
  refine pw_as (by rfl) rfl rfl ?_
  simp only [Act.put, pu]
  refine pw_nil ?_
  go_wp2
  go_ret
  exact ⟨rfl, sb⟩
end Go.Proofs.Ytojobffihlmfgaa
/- Messages that came in as arguments, opened. -/
namespace Go.Proofs.Ytojobffihlmfgaa
open Go.ChangeShapes Go.WideShapes Go.ChangeAt Go.RowKit
set_option linter.unusedVariables false
end Go.Proofs.Ytojobffihlmfgaa
/- wire.caught: what is given up by a panic is told by an error. -/
namespace Go.Proofs.Ytojobffihlmfgaa
open Go.RowKit
set_option linter.unusedVariables false
section
variable {P : Program} {o : Oper} {ρ : Operand → Value}
theorem x_tas (xT t : TypeId) (x : Operand) (ho : o.op = .typeAssert x xT t true) (fs : Array Field) (h : P.underlying t = some (.struct fs)) (v : Value) (hx : ρ x = .iface t v) (w : World) : (execOp ρ o).run P w = .ok (.value (.tuple #[v, .bool true])) w := by
 unfold execOp
 simp only [ho, hx]
 simp [Instr.typeAssert, run_underlying h, go_sem, Result.andThen]
theorem x_tan (xT t : TypeId) (x : Operand) (ho : o.op = .typeAssert x xT t true) (fs : Array Field) (h : P.underlying t = some (.struct fs)) (z : Value) (hz : ∀ w, (zeroValue t).run P w = .ok z w) (hx : ρ x = .nilIface) (w : World) : (execOp ρ o).run P w = .ok (.value (.tuple #[z, .bool false])) w := by
 unfold execOp
 simp only [ho, hx]
 simp [Instr.typeAssert, run_underlying h, go_sem, Result.andThen, hz]
theorem x_mkf (f : FuncId) (caps : Array Operand) (ho : o.op = .makeFunc (.func f) #[] caps) (vs : Array Value) (hv : caps.toList.map ρ = vs.toList) (w : World) : (execOp ρ o).run P w = .ok (.value (.func (.func f) #[] vs)) w := by
 have hv' : caps.map ρ = vs := by apply Array.toList_inj.1; rw [Array.toList_map]; exact hv
 unfold execOp
 simp only [ho, hv', Array.map_empty]
 rfl
end
section
variable {P : Program} {ops : Array Oper} {Q : Exit → Act → World → Prop} {rest : List Oper} {o : Oper} {a : Act} {w : World}
/-- A call of a closure that returns, or panics. -/
theorem pw_callCQ {fn : Func} (hw : Region.wanted o (yielded ops a.tmps) = true) (f : FuncId) (t : Tmp) (args : Array Operand) (ts : Array TypeId)
  (ho : o.op = .call { callee := .value (.tmp t), args := args, argTypes := ts }) (caps : Array Value) (hcl : a.eval (.tmp t) = .func (.func f) #[] caps) (hf : P.funcs[f]? = some fn) (hb : (fn.name == "runtime.NumGoroutine" || fn.body.isNone) = false)
  (vs : Array Value) (hv' : args.toList.map a.eval = vs.toList) {R : Ending → World → Prop} (hc : Calls P f (vs ++ caps) w R)
  (h : ∀ e w', R e w' → (∃ v, e = .returned v ∧ PW P ops Q rest (a.put o.dst v) w') ∨ (∃ ch, e = .panicked ch ∧ Q (.panic ch) a w')) : PW P ops Q (o :: rest) a w := by
 refine ⟨?_⟩
 unfold wpList
 rw [if_pos hw]
 left
 have hv : args.map a.eval = vs := by apply Array.toList_inj.1; rw [Array.toList_map]; exact hv'
 have hr := run_callFunc_body (P := P) hf hb (vs ++ caps) w
 have hd : (execOp a.eval o).run P w = .ok (.enter f (vs ++ caps)) w := by
  unfold execOp
  simp only [ho, resolve, hv, hcl]
  simp [Deferred.ofValue, invoke, hr]
 unfold Oper.wp
 rw [hd, Oper.upon_enter]
 refine hc.mono fun e w' hR => ?_
 rcases h e w' hR with ⟨v, rfl, hp⟩ | ⟨ch, rfl, hq⟩
 ·exact hp.out
 ·exact hq
theorem pw_dfr (hw : Region.wanted o (yielded ops a.tmps) = true) (d : Deferred) (hr : (execOp a.eval o).run P w = .ok (.defer d) w) (h : PW P ops Q rest ({ a with defers := d :: a.defers }.put o.dst undef) w) : PW P ops Q (o :: rest) a w := by
 refine ⟨?_⟩
 unfold wpList
 rw [if_pos hw]
 left
 unfold Oper.wp
 rw [hr, Oper.upon_defer]
 exact h.out
end
theorem x_dfr {P : Program} {o : Oper} {ρ : Operand → Value} (t : Tmp) (ho : o.op = .defer { callee := .value (.tmp t), args := #[], argTypes := #[] }) (f : FuncId) (caps : Array Value) (hx : ρ (.tmp t) = .func (.func f) #[] caps) (w : World) : (execOp ρ o).run P w = .ok (.defer { target := .fn (.func f) caps, args := #[] }) w := by
 unfold execOp
 simp only [ho, resolve, hx]
 simp [Deferred.ofValue]
theorem res_cell1 {P : Program} {fn : Func} {tmps : Array Value} {w : World} {p : Tmp} {ty t : TypeId} (hf : fn.results = #[.cell p ty]) (g : Nat) (hp : tmps.getD p undef = .pointer (some ⟨g, 0, none⟩)) (v : Value) (hr : Row w g #[v] t) (ha : ∀ w, (isAgg ty).run P w = .ok false w) : (results fn tmps).run P w = .ok v w := by
 have h1 := run_load_cell (P := P) w g 0 ty v ha (hr.r.cell 0)
 rw [Array.getD_eq_getD_getElem?] at hp
 simp [results, hf, hp, asAddr, h1]
theorem x_nni {P : Program} {o : Oper} {ρ : Operand → Value} (t : TypeId) (x : Operand) (u : TypeId) (ho : o.op = .binOp .neq t x (.const .nilIface) u) (hx : ρ x = .nilIface) (hy : ρ (.const .nilIface) = .nilIface) (hu : P.underlying t = some (.interface (P.methodsAt t))) (w : World) : (execOp ρ o).run P w = .ok (.value (.bool false)) w := by
 unfold execOp
 simp only [ho, hx, hy]
 simp [eqGuard, go_sem, run_neq_nil_nil _ _ hu]
theorem zero_er (w : World) : (zeroValue 30).run Try.prog w = .ok (.int .i64 0) w := by
 have h : (Try.prog.info? 30).map (fun i => (i.zero, i.size)) = some (some (.int .i64 0), 1) := by kernel_rfl
 exact (zero_of_info h).1 w
theorem size1tapirrno : (Try.prog.info? 30).map (·.size) = some 1 := by kernel_rfl
set_option maxRecDepth 100000 in
set_option maxHeartbeats 2000000 in
theorem cgt_panic (g0 : Nat) (n : Int) (older : List PanicEntry) (w : World) (x : Int) (r0 : Row w g0 #[.int .i64 x] 30) :
  CallsD Try.prog 29 #[.pointer (some ⟨g0, 0, none⟩)] (.panicking ({ v := wrV n, recovered := false } :: older)) w fun e u' w' => e = .returned (.tuple #[]) ∧ u' = .panicking ({ v := wrV n, recovered := true } :: older) ∧ Row w' g0 #[.int .i64 n] 30 ∧ Kept [g0] w w' := by
 refine callsD_of_wpS Try.func29 rfl fun c₀ cs hu => ?_
 apply wpS_seq
 apply wpS_region
 simp [wpOpsS, go_sem, recoverD, hu, Try.ntmps29, Exit.thenS]
 refine wpS_of_wp ?_
 rw [show (#[Value.pointer (some ⟨g0, 0, none⟩)] ++ ((Array.replicate 15 undef).setIfInBounds 3 (wrV n)).setIfInBounds 0 (wrV n)) = #[.pointer (some ⟨g0, 0, none⟩), wrV n, undef, undef, wrV n, undef, undef, undef, undef, undef, undef, undef, undef, undef, undef, undef] from rfl]
 have sk := Kept.refl [g0] w
 have l0 := r0.lt
 (repeat ((fail_if_success with_reducible refine rg ?_); go_step))
 refine wp_region_pw ?_
 refine pw_mv (by rfl) rfl rfl ?_
 simp only [Act.put, pu]
 refine pw_value (by rfl) (.tuple #[.agg #[.int .i64 n], .bool true]) (x_tas _ _ _ rfl _ Try.underlying61 _ rfl) ?_
 simp only [Act.put, pu]
 refine pw_mv (by rfl) rfl rfl ?_
 simp only [Act.put, pu]
 refine pw_ext (by rfl) rfl rfl rfl ?_
 simp only [Act.put, pu]
 refine pw_ext (by rfl) rfl rfl rfl ?_
 simp only [Act.put, pu]
 refine pw_new (by rfl) 61 rfl _ zero_wr ?_
 intro g2 z1005 n0 r2 k
 simp only [Act.put, pu]
 have d0x2 := Nat.lt_of_lt_of_le r0.lt n0
 have b2 := Nat.le_trans sk.size n0
 clear n0
 replace r0 := k.row r0 (by simp <;> omega)
 replace sk := sk.trans k (by simp <;> omega)
 clear k
 refine pw_put (by rfl) 61 _ _ rfl _ rfl r2 (#[.int .i64 n]) rfl (by exact size_wr) (by rfl) (wr_one _) ?_
 clear r2
 intro z1006 r2 k
 simp only [Act.put]
 replace r0 := k.row r0 (by simp <;> omega)
 replace sk := sk.trans k (by simp <;> omega)
 clear k
 refine pw_as (by rfl) rfl rfl ?_
 simp only [Act.put, pu]
 refine pw_nil ?_
 (repeat ((fail_if_success with_reducible refine rg ?_); go_step))
 refine wp_region_pw ?_
 refine pw_mv (by rfl) rfl rfl ?_
 simp only [Act.put, pu]
 refine pw_nil ?_
 (repeat ((fail_if_success with_reducible refine rg ?_); go_step))
 refine wp_region_pw ?_
 refine pw_value (by rfl) (.pointer (some ⟨g2, 0, none⟩)) (exec_field 61 _ 0 rfl g2 0 rfl _ Try.underlying61 _ rfl 0 Try.sizeOf30) ?_
 simp only [Act.put, pu]
 refine pw_loadk (by rfl) 30 _ rfl _ (0) rfl r2.r (.int .i64 n) rfl Try.isAgg30 ?_
 simp only [Act.put, pu]
 refine pw_putv (by rfl) 30 _ _ rfl _ (0) rfl r0 (.int .i64 n) rfl rfl rfl size1tapirrno (by exact Nat.one_pos) (#[.int .i64 n]) rfl ?_
 clear r0
 intro z3002 r0 k
 simp only [Act.put]
 replace r2 := k.row r2 (by simp <;> omega)
 replace sk := sk.trans k (by simp <;> omega)
 clear k
 refine pw_nil ?_
 go_wp2
 exact ⟨rfl, _, rfl, _, results_none rfl _ _ _, rfl, rfl, r0, sk⟩
set_option maxRecDepth 100000 in
set_option maxHeartbeats 2000000 in
theorem cgt_idle (g0 : Nat) (w : World) (x : Int) (r0 : Row w g0 #[.int .i64 x] 30) :
  CallsD Try.prog 29 #[.pointer (some ⟨g0, 0, none⟩)] .returning w fun e u' w' => e = .returned (.tuple #[]) ∧ u' = .returning ∧ Row w' g0 #[.int .i64 x] 30 ∧ Kept [g0] w w' := by
 refine callsD_of_wpS Try.func29 rfl fun c₀ cs hu => ?_
 apply wpS_seq
 apply wpS_region
 simp [wpOpsS, go_sem, recoverD, hu, Try.ntmps29, Exit.thenS]
 refine wpS_of_wp ?_
 rw [show (#[Value.pointer (some ⟨g0, 0, none⟩)] ++ ((Array.replicate 15 undef).setIfInBounds 3 (.nilIface)).setIfInBounds 0 (.nilIface)) = #[.pointer (some ⟨g0, 0, none⟩), .nilIface, undef, undef, .nilIface, undef, undef, undef, undef, undef, undef, undef, undef, undef, undef, undef] from rfl]
 have sk := Kept.refl [g0] w
 have l0 := r0.lt
 have hc0 : c₀ = { c₀ with mode := .returning } := by cases c₀; simp at hu; simp [hu]
 (repeat ((fail_if_success with_reducible refine rg ?_); go_step))
 refine wp_region_pw ?_
 refine pw_mv (by rfl) rfl rfl ?_
 simp only [Act.put, pu]
 refine pw_value (by rfl) (.tuple #[.agg #[.int .i64 0], .bool false]) (x_tan _ _ _ rfl _ Try.underlying61 _ zero_wr rfl) ?_
 simp only [Act.put, pu]
 refine pw_mv (by rfl) rfl rfl ?_
 simp only [Act.put, pu]
 refine pw_ext (by rfl) rfl rfl rfl ?_
 simp only [Act.put, pu]
 refine pw_ext (by rfl) rfl rfl rfl ?_
 simp only [Act.put, pu]
 refine pw_new (by rfl) 61 rfl _ zero_wr ?_
 intro g2 z1005 n0 r2 k
 simp only [Act.put, pu]
 have d0x2 := Nat.lt_of_lt_of_le r0.lt n0
 have b2 := Nat.le_trans sk.size n0
 clear n0
 replace r0 := k.row r0 (by simp <;> omega)
 replace sk := sk.trans k (by simp <;> omega)
 clear k
 refine pw_put (by rfl) 61 _ _ rfl _ rfl r2 (#[.int .i64 0]) rfl (by exact size_wr) (by rfl) (wr_one _) ?_
 clear r2
 intro z1006 r2 k
 simp only [Act.put]
 replace r0 := k.row r0 (by simp <;> omega)
 replace sk := sk.trans k (by simp <;> omega)
 clear k
 refine pw_as (by rfl) rfl rfl ?_
 simp only [Act.put, pu]
 refine pw_nil ?_
 (repeat ((fail_if_success with_reducible refine rg ?_); go_step))
 refine wp_region_pw ?_
 refine pw_mv (by rfl) rfl rfl ?_
 simp only [Act.put, pu]
 refine pw_nil ?_
 (repeat ((fail_if_success with_reducible refine rg ?_); go_step))
 refine wp_region_pw ?_
 refine pw_mv (by rfl) rfl rfl ?_
 simp only [Act.put, pu]
 refine pw_value (by rfl) (.bool false) (x_nni _ _ _ rfl rfl rfl (by kernel_rfl)) ?_
 simp only [Act.put, pu]
 refine pw_nil ?_
 go_wp2
 exact ⟨rfl, .returning, by rw [← hc0], _, results_none rfl _ _ _, rfl, rfl, r0, sk⟩
set_option maxRecDepth 100000 in
set_option maxHeartbeats 2000000 in
theorem caught_any (f : FuncId) (caps : Array Value) {fn : Func} (hf : Try.prog.funcs[f]? = some fn) (hb : (fn.name == "runtime.NumGoroutine" || fn.body.isNone) = false) (S : List Nat) (A : Int → World → World → Prop) (w : World) (hS : ∀ g ∈ S, g < w.heap.size)
  (hc : ∀ w1, Below w.heap.size w w1 → Calls Try.prog f caps w1 fun e w2 => Kept S w1 w2 ∧ ((e = .returned (.tuple #[]) ∧ A 0 w1 w2) ∨ ∃ n, e = .panicked (wrP n) ∧ A n w1 w2)) :
  Calls Try.prog 13 #[.func (.func f) #[] caps] w fun e w3 => ∃ n w1 w2 g, e = .returned (.int .i64 n) ∧ Below w.heap.size w w1 ∧ w.heap.size ≤ g ∧ g < w1.heap.size ∧ Kept S w1 w2 ∧ A n w1 w2 ∧ Kept [g] w2 w3 := by
 go_enter_defers Try.func13, Try.ntmps13
 have sb := Below.refl w.heap.size w
 (repeat ((fail_if_success with_reducible refine rg ?_); go_step))
 refine wp_region_pw ?_
 refine pw_newv (by rfl) 30 rfl (.int .i64 0) zero_er rfl ?_
 intro g2 z0 n0 r2 k
 simp only [Act.put, pu]
 have b2 := Nat.le_trans sb.size n0
 clear n0
 replace sb := sb.trans (k.below w.heap.size sb.size (by simp <;> omega))
 clear k
 refine pw_nil ?_
 (repeat ((fail_if_success with_reducible refine rg ?_); go_step))
 refine wp_region_pw ?_
 refine pw_value (by rfl) (.func (.func 29) #[] #[.pointer (some ⟨g2, 0, none⟩)]) (x_mkf _ _ rfl _ rfl) ?_
 simp only [Act.put, pu]
 refine pw_dfr (by rfl) _ (x_dfr _ rfl 29 #[.pointer (some ⟨g2, 0, none⟩)] rfl _) ?_
 simp only [Act.put]
 refine pw_nil ?_
 have l2 := r2.lt
 have hnS : g2 ∉ S := fun h => by have := hS g2 h; omega
 (repeat ((fail_if_success with_reducible refine rg ?_); go_step))
 refine wp_region_pw ?_
 refine pw_mv (by rfl) rfl rfl ?_
 simp only [Act.put, pu]
 refine pw_callCQ (by rfl) f _ _ _ rfl caps rfl hf hb #[] rfl (by simpa using hc _ sb) ?_
 rintro e w2 ⟨hk, h⟩
 replace r2 := hk.row r2 hnS
 rcases h with ⟨rfl, hA⟩ | ⟨n, rfl, hA⟩
 ·left
  refine ⟨_, rfl, ?_⟩
  simp only [Act.put, pu]
  refine pw_nil ?_
  have sk := Kept.refl [g2] w2
  (repeat ((fail_if_success with_reducible refine rg ?_); go_step))
  refine wp_region_pw ?_
  refine pw_putv (by rfl) 30 _ _ rfl _ (0) rfl r2 (.int .i64 0) rfl rfl rfl size1tapirrno (by exact Nat.one_pos) (#[.int .i64 0]) rfl ?_
  clear r2
  intro z3000 r2 k
  simp only [Act.put]
  replace sk := sk.trans k (by simp <;> omega)
  clear k
  refine pw_nil ?_
  go_wp2
  refine leaves_cons (f := 29) (args := #[.pointer (some ⟨g2, 0, none⟩)]) (by simp) (by simp [go_sem]) ?_
  refine (cgt_idle g2 _ 0 r2).mono ?_
  rintro e u' w4 ⟨rfl, rfl, r4, k4⟩
  exact ⟨.int .i64 0, res_cell1 rfl g2 rfl _ r4 Try.isAgg30, 0, _, w2, g2, rfl, sb, b2, l2, hk, hA, sk.trans k4 (by simp)⟩
 ·right
  refine ⟨_, rfl, ?_⟩
  refine leaves_cons (f := 29) (args := #[.pointer (some ⟨g2, 0, none⟩)]) (by simp) (by simp [go_sem]) ?_
  refine (cgt_panic g2 n [] _ 0 r2).mono ?_
  rintro e u' w4 ⟨rfl, rfl, r4, k4⟩
  exact ⟨.int .i64 n, res_cell1 rfl g2 rfl _ r4 Try.isAgg30, n, _, w2, g2, rfl, sb, b2, l2, hk, hA, k4⟩
end Go.Proofs.Ytojobffihlmfgaa
/- A Builder beside rows that stay; wire.bytesOf: a message's bytes. -/
namespace Go.Proofs.Ytojobffihlmfgaa
open Go.RowKit
set_option linter.unusedVariables false
set_option linter.unusedSimpArgs false
/-- A builder of the call's own, and its bytes; other rows that are none of bytes stay as they are. -/
def BfAt (w : World) (B b : Nat) (l : List UInt8) : Prop := Lib.IsBuilderF 83 5 B b (Lib.byteCells l) w
def OkB (b : Nat) (w w' : World) : Prop := Lib.OthersKept 5 (some b) w w'
theorem OkB.trans {b : Nat} {w w1 w2 : World} (h : OkB b w w1) (k : OkB b w1 w2) : OkB b w w2 := Lib.OthersKept.trans h k
theorem OkB.refl (b : Nat) (w : World) : OkB b w w := Lib.OthersKept.refl _ _ w
theorem OkB.of {b : Nat} {w w' : World} (hb : Below w.heap.size w w') : OkB b w w' := fun k o hk _ _ => by
 rw [hb.block k (Array.getElem?_eq_some_iff.1 hk).1]; exact hk
theorem OkB.row {b g : Nat} {w w' : World} {c : Array Value} {t : TypeId} (h : OkB b w w') (r : Row w g c t) (hg : g ≠ b) (ht : t ≠ 5) : Row w' g c t :=
 h g _ r (fun e => hg (Option.some.inj e)) (fun c' fz e => by cases e; exact ht rfl)
theorem bf_belowF {B g0 : Nat} {p : Value} {bs : List Value} {w w' : World} (h : Lib.BuilderAtF 83 5 B g0 p bs w) (hb : Below w.heap.size w w') : Lib.BuilderAtF 83 5 B g0 p bs w' := by
 obtain ⟨hB, v, hbk, hown, hne⟩ := h
 refine ⟨hB, v, (hb.block g0 (Array.getElem?_eq_some_iff.1 hbk).1).trans hbk, ?_, hne⟩
 exact hown.kept (row := none) ⟨hb.os, hb.tape, hb.output, hb.size, fun k hk _ => hb.block k hk⟩ (by cases v.ownBlock <;> simp)
theorem BfAt.below {B b : Nat} {l : List UInt8} {w w' : World} (h : BfAt w B b l) (hb : Below w.heap.size w w') : BfAt w' B b l := h.imp (fun h => bf_belowF h hb) (fun h => bf_belowF h hb)
theorem BfAt.fresh {B b : Nat} {w : World} (hB : B ≤ b) (h : Row w b #[.pointer none, .slice none 0 0] 83) : BfAt w B b [] :=
 Lib.IsBuilderF.of (Or.inl ⟨hB, .slice none 0 0, h, World.ownsRow_nil _ _ _ _, by simp [Value.ownBlock]⟩)
theorem wstrK (B b : Nat) (l s : List UInt8) (w : World) (h : BfAt w B b l) (hlen : l.length + s.length ≤ 100000) (hBw : B ≤ w.heap.size) :
  Calls Try.prog 53 #[.pointer (some ⟨b, 0, none⟩), .string ⟨s.toArray⟩] w fun e w' => e = .returned (.tuple #[.int .i64 s.length, .nilIface]) ∧ BfAt w' B b (l ++ s) ∧ Below B w w' ∧ OkB b w w' := by
 have hs : (⟨s.toArray⟩ : ByteArray).size = s.length := by simp [ByteArray.size]
 have h1 := Any.Builder_WriteString_k bu166 bu_x B b (Lib.byteCells l) ⟨s.toArray⟩ w h (by rw [Lib.byteCells_length, hs]; omega) hBw
 rw [hs] at h1
 refine h1.mono fun e w' ⟨he, hb, hl, ho⟩ => ⟨he, .inr ?_, hl, ho⟩
 have e2 : Lib.byteCells l ++ Lib.strCells ⟨s.toArray⟩ = Lib.byteCells (l ++ s) := by simp [Lib.byteCells, Lib.strCells]
 rw [← e2]
 exact hb
theorem bstrK (B b : Nat) (l : List UInt8) (w : World) (h : BfAt w B b l) (hBw : B ≤ w.heap.size) :
  Calls Try.prog 56 #[.pointer (some ⟨b, 0, none⟩)] w fun e w' => e = .returned (.string ⟨l.toArray⟩) ∧ Below B w w' :=
 (Any.Builder_String_any_k bu169 bu_x B b l w h hBw).mono fun e w' hh => ⟨hh.1, hh.2.2.1⟩
theorem wbytK (B b c : Nat) (l : List UInt8) (w : World) (h : BfAt w B b l) (hc : c < 256) (hlen : l.length + 1 ≤ 100000) (hBw : B ≤ w.heap.size) :
  Calls Try.prog 51 #[.pointer (some ⟨b, 0, none⟩), .int .u8 c] w fun e w' => e = .returned .nilIface ∧ BfAt w' B b (l ++ [UInt8.ofNat c]) ∧ Below B w w' ∧ OkB b w w' := by
 have h1 := Any.Builder_WriteByte_k bu167 bu_x B b (Lib.byteCells l) c w h (by rw [Lib.byteCells_length]; omega) hBw
 refine h1.mono fun e w' ⟨he, hb, hl, ho⟩ => ⟨he, .inr ?_, hl, ho⟩
 have e2 : Lib.byteCells l ++ [Value.int .u8 c] = Lib.byteCells (l ++ [UInt8.ofNat c]) := by
  simp [Lib.byteCells, Nat.mod_eq_of_lt hc]
 rw [← e2]
 exact hb
/-- A number as so many bytes, the highest first. -/
def nuL (n s : Nat) : List UInt8 := (List.range s).map fun k => UInt8.ofNat (n / 2 ^ ((s - 1 - k) * 8) % 256)
theorem nuL_length (n s : Nat) : (nuL n s).length = s := by simp [nuL]
theorem nuL_take (n s k : Nat) (h : k < s) : (nuL n s).take k ++ [UInt8.ofNat (n / 2 ^ ((s - 1 - k) * 8) % 256)] = (nuL n s).take (k + 1) := by
 have h1 : k < (nuL n s).length := by rw [nuL_length]; exact h
 rw [List.take_succ_eq_append_getElem h1]
 congr 2
 simp [nuL]
set_option maxRecDepth 100000 in
set_option maxHeartbeats 2000000 in
theorem numw_any (B g2 n s : Nat) (l : List UInt8) (w : World) (hB : BfAt w B g2 l) (hn : n < 9223372036854775808) (hs : s ≤ 8) (hl : l.length ≤ 90000) (hBw : B ≤ w.heap.size) :
  Calls Try.prog 50 #[.int .i64 (n : Nat), .int .i64 (s : Nat), .pointer (some ⟨g2, 0, none⟩)] w fun e w' => e = .returned (.tuple #[]) ∧ BfAt w' B g2 (l ++ nuL n s) ∧ Below B w w' ∧ OkB g2 w w' := by
 have HL : Hid (∀ k, ((nuL n s).take k).length ≤ 8) := fun k => by rw [List.length_take, nuL_length]; omega
 have HT : Hid (∀ k, k < s → (nuL n s).take k ++ [UInt8.ofNat (n / 2 ^ ((s - 1 - k) * 8) % 256)] = (nuL n s).take (k + 1)) := nuL_take n s
 have HE : Hid ((nuL n s).take s = nuL n s) := List.take_of_length_le (by rw [nuL_length]; exact Nat.le_refl _)
 have sb := Below.refl B w
 have ok := OkB.refl g2 w
 obtain ⟨T, hT0⟩ : ∃ T, nuL n s = T := ⟨_, rfl⟩
 rw [hT0] at HL HT HE ⊢
 clear hT0
 go_enter Try.func50, Try.ntmps50
 (repeat ((fail_if_success with_reducible refine rg ?_); go_step))
 refine wp_region_pw ?_
 refine pw_mv (by rfl) rfl rfl ?_
 simp only [Act.put, pu]
 refine pw_value (by rfl) (.int .i64 0) (fun _ => rfl) ?_
 simp only [Act.put, pu]
 refine pw_nil ?_
 have hB0 : BfAt w B g2 (l ++ T.take 0) := by rw [List.take_zero, List.append_nil]; exact hB
 clear hB
 go_wp2_with fail
 go_loopg [5, 7] s (fun x s5 s7 wr => ∃ i : Nat, i + x = s ∧ s7 = .int .i64 i ∧ BfAt wr B g2 (l ++ T.take i) ∧ Below B w wr ∧ OkB g2 w wr)
 case atStart => exact ⟨0, by omega, rfl, hB0, sb, ok⟩
 case round =>
  clear hB0 sb ok
  obtain ⟨i, hi, rfl, hB, sb, ok⟩ := hrel
  cases gk with
  | zero =>
   obtain rfl : i = s := by omega
   clear hi HT HL
   (repeat ((fail_if_success with_reducible refine rg ?_); go_step))
   refine wp_region_pw ?_
   refine pw_value (by rfl) (.bool false) (exec_lt_b _ _ _ _ rfl i i rfl rfl false (decide_eq_false (Int.lt_irrefl _))) ?_
   simp only [Act.put, pu]
   refine pw_nil ?_
   go_wp2
   first | (go_ret; exact ⟨rfl, by rw [← HE.out]; exact hB, sb, ok⟩) | exact ⟨rfl, _, results_none rfl _ _ _, rfl, by rw [← HE.out]; exact hB, sb, ok⟩
  | succ x =>
   have hT := HT.out i (by omega)
   have hll := HL.out i
   have e1 : ((s : Int) - 1 - (i : Int)) = ((s - 1 - i : Nat) : Int) := by omega
   obtain ⟨D, hD⟩ : ∃ D, n / 2 ^ ((s - 1 - i) * 8) = D := ⟨_, rfl⟩
   rw [hD] at hT
   have hc : D % 256 < 256 := Nat.mod_lt _ (by decide)
   obtain ⟨q, hq⟩ : ∃ q, s - 1 - i = q := ⟨_, rfl⟩
   rw [hq] at hD
   have hq8 : q * 8 ≤ 64 := by omega
   have hbl : (l ++ T.take i).length + 1 ≤ 100000 := by rw [List.length_append]; omega
   (repeat ((fail_if_success with_reducible refine rg ?_); go_step))
   refine wp_region_pw ?_
   refine pw_value (by rfl) (.bool true) (exec_lt_b _ _ _ _ rfl i s rfl rfl true (decide_eq_true (by omega))) ?_
   simp only [Act.put, pu]
   refine pw_nil ?_
   (repeat ((fail_if_success with_reducible refine rg ?_); go_step))
   refine wp_region_pw ?_
   refine pw_mv (by rfl) rfl rfl ?_
   simp only [Act.put, pu]
   refine pw_as (by rfl) rfl rfl ?_
   simp only [Act.put, pu]
   refine pw_nil ?_
   (repeat ((fail_if_success with_reducible refine rg ?_); go_step))
   refine wp_region_pw ?_
   refine pw_mv (by rfl) rfl rfl ?_
   simp only [Act.put, pu]
   refine pw_mv (by rfl) rfl rfl ?_
   simp only [Act.put, pu]
   refine pw_value (by rfl) (.int .i64 (s - 1 : Nat)) (xi_sub _ _ _ _ rfl s 1 rfl rfl (by omega) (by omega)) ?_
   simp only [Act.put, pu]
   refine pw_mv (by rfl) rfl rfl ?_
   simp only [Act.put, pu]
   refine pw_value (by rfl) (.int .i64 (q : Nat)) (fun w' => (xi_sub _ _ _ _ rfl (s - 1) i rfl rfl (by omega) (by omega) w').trans (by rw [hq])) ?_
   simp only [Act.put, pu]
   refine pw_value (by rfl) (.int .i64 (q * 8 : Nat)) (xi_mul _ _ _ _ rfl q 8 (q * 8) rfl rfl rfl (by omega)) ?_
   simp only [Act.put, pu]
   refine pw_value (by rfl) (.int .i64 (D : Nat)) (fun w' => (xi_shr _ _ _ _ rfl n (q * 8) .i64 rfl rfl hq8 w').trans (by rw [hD])) ?_
   simp only [Act.put, pu]
   refine pw_value (by rfl) (.int .u8 (D % 256 : Nat)) (x_conv _ _ _ rfl .i64 .u8 Try.underlying3 Try.underlying5 (D : Nat) _ rfl (wrp8 _ _ rfl)) ?_
   simp only [Act.put, pu]
   refine pw_callE (by rfl) 51 _ _ rfl Try.func51 (by kernel_rfl) #[.pointer (some ⟨g2, 0, none⟩), .int .u8 (D % 256 : Nat)] rfl (wbytK B g2 (D % 256) _ _ hB hc hbl (Nat.le_trans hBw sb.size)) ?_
   clear hB
   rintro _ z9 ⟨rfl, hB, hb, ok1⟩
   refine ⟨_, rfl, ?_⟩
   simp only [Act.put, pu]
   replace sb := sb.trans hb
   replace ok := ok.trans ok1
   rw [List.append_assoc, hT] at hB
   clear hb ok1
   refine pw_nil ?_
   clear hT hll e1 hD hc hq hq8 hbl
   (repeat ((fail_if_success with_reducible refine rg ?_); go_step))
   refine wp_region_pw ?_
   refine pw_value (by rfl) (.int .i64 (i + 1 : Nat)) (xi_add _ _ _ _ rfl i 1 rfl rfl (by omega)) ?_
   simp only [Act.put, pu]
   refine pw_mv (by rfl) rfl rfl ?_
   simp only [Act.put, pu]
   refine pw_nil ?_
   go_wp2
   go_roundg x
   case rel => exact ⟨i + 1, by omega, rfl, hB, sb, ok⟩
   case measure => omega
set_option maxRecDepth 100000 in
set_option maxHeartbeats 2000000 in
theorem cntw_any (B g2 g3 s : Nat) (l x : List UInt8) (w : World) (hB : BfAt w B g3 l) (r2 : Row w g2 #[.func (.func 50) #[] #[.pointer (some ⟨g3, 0, none⟩)]] 87) (hg : g2 ≠ g3) (hx : x.length < 10000) (hs : s ≤ 8) (hl : l.length ≤ 80000) (hBw : B ≤ w.heap.size) :
  Calls Try.prog 52 #[.string ⟨x.toArray⟩, .int .i64 (s : Nat), .pointer (some ⟨g2, 0, none⟩), .pointer (some ⟨g3, 0, none⟩)] w fun e w' => e = .returned (.tuple #[]) ∧ BfAt w' B g3 (l ++ (nuL x.length s ++ x)) ∧ Below B w w' ∧ OkB g3 w w' := by
 have sb := Below.refl B w
 have ok := OkB.refl g3 w
 go_enter Try.func52, Try.ntmps52
 (repeat ((fail_if_success with_reducible refine rg ?_); go_step))
 refine wp_region_pw ?_
 refine pw_loadk (by rfl) 87 _ rfl _ (0) rfl r2.r (.func (.func 50) #[] #[.pointer (some ⟨g3, 0, none⟩)]) rfl Try.isAgg87 ?_
 simp only [Act.put, pu]
 refine pw_mv (by rfl) rfl rfl ?_
 simp only [Act.put, pu]
 refine pw_value (by rfl) (.int .i64 (x.length : Nat)) (y_lenS _ _ rfl x rfl Try.underlying9) ?_
 simp only [Act.put, pu]
 refine pw_mv (by rfl) rfl rfl ?_
 simp only [Act.put, pu]
 refine pw_callCE (by rfl) 50 _ _ _ rfl #[.pointer (some ⟨g3, 0, none⟩)] rfl Try.func50 (by kernel_rfl) #[.int .i64 (x.length : Nat), .int .i64 (s : Nat)] rfl (numw_any B g3 x.length s l _ hB (by omega) hs (by omega) (Nat.le_trans hBw sb.size)) ?_
 clear hB
 rintro _ z9 ⟨rfl, hB, hb, ok1⟩
 refine ⟨_, rfl, ?_⟩
 simp only [Act.put, pu]
 replace r2 := ok1.row r2 (by omega) (by decide)
 replace sb := sb.trans hb
 replace ok := ok.trans ok1
 clear hb ok1
 refine pw_nil ?_
 have hl2 : (l ++ nuL x.length s).length + x.length ≤ 100000 := by rw [List.length_append, nuL_length]; omega
 (repeat ((fail_if_success with_reducible refine rg ?_); go_step))
 refine wp_region_pw ?_
 refine pw_mv (by rfl) rfl rfl ?_
 simp only [Act.put, pu]
 refine pw_callE (by rfl) 53 _ _ rfl Try.func53 (by kernel_rfl) #[.pointer (some ⟨g3, 0, none⟩), .string ⟨x.toArray⟩] rfl (wstrK B g3 _ x _ hB hl2 (Nat.le_trans hBw sb.size)) ?_
 clear hB
 rintro _ z8 ⟨rfl, hB, hb, ok1⟩
 refine ⟨_, rfl, ?_⟩
 simp only [Act.put, pu]
 replace r2 := ok1.row r2 (by omega) (by decide)
 replace sb := sb.trans hb
 replace ok := ok.trans ok1
 clear hb ok1
 refine pw_nil ?_
 rw [List.append_assoc] at hB
 go_wp2
 first | (go_ret; exact ⟨rfl, hB, sb, ok⟩) | exact ⟨rfl, _, results_none rfl _ _ _, rfl, hB, sb, ok⟩
/-- A natural's bytes, with how many they are ahead. -/
def byL (A : Nat) : List UInt8 := (bytesOf A).data.toList
def ptL (A : Nat) : List UInt8 := nuL (byL A).length 1 ++ byL A
def ysL (Y : Nat → Nat) : Nat → List UInt8
 | 0 => []
 | k + 1 => ysL Y k ++ ptL (Y k)
/-- A message's bytes. -/
def hdL (kd op : Nat) (key : List UInt8) (sq cl : Nat) (dg X : List UInt8) : List UInt8 :=
 [] ++ nuL kd 1 ++ nuL op 4 ++ (nuL key.length 1 ++ key) ++ nuL sq 6 ++ nuL cl 1 ++ (nuL dg.length 1 ++ dg) ++ (nuL X.length 2 ++ X)
def msL (kd op : Nat) (key : List UInt8) (sq cl : Nat) (dg X : List UInt8) (m : Nat) (Y : Nat → Nat) : List UInt8 := hdL kd op key sq cl dg X ++ ysL Y m
theorem byL_le {A : Nat} (h : A < 2 ^ 256) : (byL A).length ≤ 32 := by
 have h1 := bytesOf_size A
 have h2 := need_le A h
 have h3 : (bytesOf A).data.toList.length = (bytesOf A).size := by rw [Array.length_toList]; rfl
 unfold byL
 omega
theorem byL_is (A : Nat) : bytesOf A = ⟨(byL A).toArray⟩ := by
 unfold byL
 rw [Array.toArray_toList]
theorem nby_any (A : Nat) (w : World) (hA : A < 2 ^ 256) : Calls Try.prog 55 #[.agg (natC A)] w fun e w' => e = .returned (.string ⟨(byL A).toArray⟩) ∧ Below w.heap.size w w' := by
 rw [← byL_is]
 exact nbytes_any A w hA
theorem ysL_le {Y : Nat → Nat} {m : Nat} (h : ∀ j, j < m → Y j < 2 ^ 256) : ∀ k, k ≤ m → (ysL Y k).length ≤ 33 * k
 | 0, _ => Nat.le_refl _
 | k + 1, hk => by
  have h1 := ysL_le h k (by omega)
  have h2 := byL_le (h k (by omega))
  unfold ysL ptL
  rw [List.length_append, List.length_append, nuL_length]
  omega
theorem x_mkw {P : Program} {o : Oper} {ρ : Operand → Value} (f : FuncId) (caps : Array Operand) (ho : o.op = .makeFunc (.func f) #[] caps) (vs : Array Value) (hv : caps.toList.map ρ = vs.toList) (w : World) : (execOp ρ o).run P w = .ok (.value (.func (.func f) #[] vs)) w := by
 have hv' : caps.map ρ = vs := by apply Array.toList_inj.1; rw [Array.toList_map]; exact hv
 unfold execOp
 simp only [ho, hv', Array.map_empty]
 rfl
theorem zero_fn (w : World) : (zeroValue 87).run Try.prog w = .ok .nilFunc w := by
 have h : (Try.prog.info? 87).map (fun i => (i.zero, i.size)) = some (some .nilFunc, 1) := by kernel_rfl
 exact (zero_of_info h).1 w
theorem size1tfuncintint : (Try.prog.info? 87).map (·.size) = some 1 := by kernel_rfl
set_option maxRecDepth 100000 in
set_option maxHeartbeats 2000000 in
theorem bof_any (kd op : Nat) (key : List UInt8) (sq cl : Nat) (dg : List UInt8) (a1 : Option Addr) (n c1 : Nat) (a2 : Option Addr) (m c2 : Nat) (X : List UInt8) (Y : Nat → Nat) (w : World) (hkd : kd < 9223372036854775808) (hop : op < 9223372036854775808) (hsq : sq < 9223372036854775808) (hcl : cl < 9223372036854775808)
  (hkey : key.length ≤ 100) (hdg : dg.length ≤ 100) (hX : X.length < 10000) (hm : m ≤ 1000) (hY : YsA w a2 m Y)
  (hXc : ∀ w', Below w.heap.size w w' → Calls Try.prog 54 #[.slice a1 n c1] w' fun e w2 => e = .returned (.string ⟨X.toArray⟩) ∧ Below w'.heap.size w' w2) :
  Calls Try.prog 23 #[.agg (msC (kd : Nat) (op : Nat) key (sq : Nat) (cl : Nat) dg a1 n c1 a2 m c2)] w fun e w' => e = .returned (.string ⟨(msL kd op key sq cl dg X m Y).toArray⟩) ∧ Below w.heap.size w w' := by
 obtain ⟨gb, ob, bcs, tb, hna⟩ := hY
 have HB : Hid (NatsAt w a2 m Y gb ob bcs tb) := hna
 have HL : Hid (∀ k, k ≤ m → (ysL Y k).length ≤ 33 * k) := ysL_le (fun j hj => hna.lt j hj)
 have HYl : Hid (∀ k, k < m → Y k < 2 ^ 256) := fun j hj => hna.lt j hj
 have hH : (hdL kd op key sq cl dg X).length ≤ 11000 := by
  unfold hdL
  simp only [List.length_append, nuL_length, List.length_nil]
  omega
 have hHe : Hid (hdL kd op key sq cl dg X = [] ++ nuL kd 1 ++ nuL op 4 ++ (nuL key.length 1 ++ key) ++ nuL sq 6 ++ nuL cl 1 ++ (nuL dg.length 1 ++ dg) ++ (nuL X.length 2 ++ X)) := rfl
 unfold msL
 obtain ⟨H, hH0⟩ : ∃ H, hdL kd op key sq cl dg X = H := ⟨_, rfl⟩
 rw [hH0] at hH hHe ⊢
 clear hH0 hna
 go_enter Try.func23, Try.ntmps23
 (repeat ((fail_if_success with_reducible refine rg ?_); go_step))
 refine wp_region_pw ?_
 refine pw_boxr (by rfl) 29 _ rfl (msC (kd : Nat) (op : Nat) key (sq : Nat) (cl : Nat) dg a1 n c1 a2 m c2) rfl ?_
 intro g1 z0 n0 r1 k
 simp only [Act.put, pu]
 have b1 : w.heap.size ≤ g1 := n0
 clear n0
 have sb := k.below w.heap.size (Nat.le_refl _) (by simp)
 clear k
 refine pw_move (by rfl) (.inr rfl) rfl ?_
 simp only [Act.put, pu]
 refine pw_nil ?_
 (repeat ((fail_if_success with_reducible refine rg ?_); go_step))
 refine wp_region_pw ?_
 refine pw_new (by rfl) 83 rfl _ zero_bux ?_
 intro g3 z1000 n0 r3 k
 simp only [Act.put, pu]
 have d1x3 := Nat.lt_of_lt_of_le r1.lt n0
 have b3 := Nat.le_trans sb.size n0
 clear n0
 replace r1 := k.row r1 (by simp <;> omega)
 replace sb := sb.trans (k.below w.heap.size sb.size (by simp <;> omega))
 clear k
 refine pw_nil ?_
 (repeat ((fail_if_success with_reducible refine rg ?_); go_step))
 refine wp_region_pw ?_
 refine pw_value (by rfl) (.func (.func 50) #[] #[.pointer (some ⟨g3, 0, none⟩)]) (x_mkw _ _ rfl _ rfl) ?_
 simp only [Act.put, pu]
 refine pw_newv (by rfl) 87 rfl .nilFunc zero_fn rfl ?_
 intro g4 z2001 n0 r4 k
 simp only [Act.put, pu]
 have d1x4 := Nat.lt_of_lt_of_le r1.lt n0
 have d3x4 := Nat.lt_of_lt_of_le r3.lt n0
 have b4 := Nat.le_trans sb.size n0
 clear n0
 replace r1 := k.row r1 (by simp <;> omega)
 replace r3 := k.row r3 (by simp <;> omega)
 replace sb := sb.trans (k.below w.heap.size sb.size (by simp <;> omega))
 clear k
 refine pw_putv (by rfl) 87 _ _ rfl _ (0) rfl r4 (.func (.func 50) #[] #[.pointer (some ⟨g3, 0, none⟩)]) rfl rfl rfl size1tfuncintint (by exact Nat.one_pos) (#[.func (.func 50) #[] #[.pointer (some ⟨g3, 0, none⟩)]]) rfl ?_
 clear r4
 intro z2002 r4 k
 simp only [Act.put]
 replace r1 := k.row r1 (by simp <;> omega)
 replace r3 := k.row r3 (by simp <;> omega)
 replace sb := sb.trans (k.below w.heap.size sb.size (by simp <;> omega))
 clear k
 refine pw_nil ?_
 (repeat ((fail_if_success with_reducible refine rg ?_); go_step))
 refine wp_region_pw ?_
 refine pw_value (by rfl) (.func (.func 52) #[] #[.pointer (some ⟨g4, 0, none⟩), .pointer (some ⟨g3, 0, none⟩)]) (x_mkw _ _ rfl _ rfl) ?_
 simp only [Act.put, pu]
 refine pw_as (by rfl) rfl rfl ?_
 simp only [Act.put, pu]
 refine pw_nil ?_
 have hB := BfAt.fresh b3 r3
 clear r3
 (repeat ((fail_if_success with_reducible refine rg ?_); go_step))
 refine wp_region_pw ?_
 refine pw_loadk (by rfl) 87 _ rfl _ (0) rfl r4.r (.func (.func 50) #[] #[.pointer (some ⟨g3, 0, none⟩)]) rfl Try.isAgg87 ?_
 simp only [Act.put, pu]
 refine pw_value (by rfl) (.pointer (some ⟨g1, 0, none⟩)) (exec_field 29 _ 0 rfl g1 0 rfl _ Try.underlying29 _ rfl 0 Try.sizeOf3) ?_
 simp only [Act.put, pu]
 refine pw_loadk (by rfl) 3 _ rfl _ (0) rfl r1.r (.int .i64 (kd : Nat)) rfl Try.isAgg3 ?_
 simp only [Act.put, pu]
 refine pw_callCE (by rfl) 50 _ _ _ rfl #[.pointer (some ⟨g3, 0, none⟩)] rfl Try.func50 (by kernel_rfl) #[.int .i64 (kd : Nat), .int .i64 1] rfl (numw_any w.heap.size g3 kd 1 _ _ hB hkd (by decide) (by simp only [List.length_append, nuL_length, List.length_nil]; omega) sb.size) ?_
 clear hB
 rintro _ z9 ⟨rfl, hB, hb, ok1⟩
 refine ⟨_, rfl, ?_⟩
 simp only [Act.put, pu]
 replace r1 := ok1.row r1 (by omega) (by decide)
 replace r4 := ok1.row r4 (by omega) (by decide)
 replace sb := sb.trans hb
 clear hb ok1
 refine pw_nil ?_
 (repeat ((fail_if_success with_reducible refine rg ?_); go_step))
 refine wp_region_pw ?_
 refine pw_loadk (by rfl) 87 _ rfl _ (0) rfl r4.r (.func (.func 50) #[] #[.pointer (some ⟨g3, 0, none⟩)]) rfl Try.isAgg87 ?_
 simp only [Act.put, pu]
 refine pw_value (by rfl) (.pointer (some ⟨g1, 1, none⟩)) (exec_field 29 _ 1 rfl g1 0 rfl _ Try.underlying29 _ rfl 0 Try.sizeOf3) ?_
 simp only [Act.put, pu]
 refine pw_loadk (by rfl) 3 _ rfl _ (1) rfl r1.r (.int .i64 (op : Nat)) rfl Try.isAgg3 ?_
 simp only [Act.put, pu]
 refine pw_callCE (by rfl) 50 _ _ _ rfl #[.pointer (some ⟨g3, 0, none⟩)] rfl Try.func50 (by kernel_rfl) #[.int .i64 (op : Nat), .int .i64 4] rfl (numw_any w.heap.size g3 op 4 _ _ hB hop (by decide) (by simp only [List.length_append, nuL_length, List.length_nil]; omega) sb.size) ?_
 clear hB
 rintro _ z9 ⟨rfl, hB, hb, ok1⟩
 refine ⟨_, rfl, ?_⟩
 simp only [Act.put, pu]
 replace r1 := ok1.row r1 (by omega) (by decide)
 replace r4 := ok1.row r4 (by omega) (by decide)
 replace sb := sb.trans hb
 clear hb ok1
 refine pw_nil ?_
 (repeat ((fail_if_success with_reducible refine rg ?_); go_step))
 refine wp_region_pw ?_
 refine pw_mv (by rfl) rfl rfl ?_
 simp only [Act.put, pu]
 refine pw_value (by rfl) (.pointer (some ⟨g1, 2, none⟩)) (exec_field 29 _ 2 rfl g1 0 rfl _ Try.underlying29 _ rfl 0 Try.sizeOf9) ?_
 simp only [Act.put, pu]
 refine pw_loadk (by rfl) 9 _ rfl _ (2) rfl r1.r (.string ⟨key.toArray⟩) rfl Try.isAgg9 ?_
 simp only [Act.put, pu]
 refine pw_callCE (by rfl) 52 _ _ _ rfl #[.pointer (some ⟨g4, 0, none⟩), .pointer (some ⟨g3, 0, none⟩)] rfl Try.func52 (by kernel_rfl) #[.string ⟨(key).toArray⟩, .int .i64 1] rfl (cntw_any w.heap.size g4 g3 1 _ (key) _ hB r4 (by omega) (by omega) (by decide) (by simp only [List.length_append, nuL_length, List.length_nil]; omega) sb.size) ?_
 clear hB
 rintro _ z9 ⟨rfl, hB, hb, ok1⟩
 refine ⟨_, rfl, ?_⟩
 simp only [Act.put, pu]
 replace r1 := ok1.row r1 (by omega) (by decide)
 replace r4 := ok1.row r4 (by omega) (by decide)
 replace sb := sb.trans hb
 clear hb ok1
 refine pw_nil ?_
 (repeat ((fail_if_success with_reducible refine rg ?_); go_step))
 refine wp_region_pw ?_
 refine pw_loadk (by rfl) 87 _ rfl _ (0) rfl r4.r (.func (.func 50) #[] #[.pointer (some ⟨g3, 0, none⟩)]) rfl Try.isAgg87 ?_
 simp only [Act.put, pu]
 refine pw_value (by rfl) (.pointer (some ⟨g1, 3, none⟩)) (exec_field 29 _ 3 rfl g1 0 rfl _ Try.underlying29 _ rfl 1 Try.sizeOf24) ?_
 simp only [Act.put, pu]
 refine pw_value (by rfl) (.pointer (some ⟨g1, 3, none⟩)) (exec_field 24 _ 0 rfl g1 3 rfl _ Try.underlying24 _ rfl 0 Try.sizeOf3) ?_
 simp only [Act.put, pu]
 refine pw_loadk (by rfl) 3 _ rfl _ (3) rfl r1.r (.int .i64 (sq : Nat)) rfl Try.isAgg3 ?_
 simp only [Act.put, pu]
 refine pw_callCE (by rfl) 50 _ _ _ rfl #[.pointer (some ⟨g3, 0, none⟩)] rfl Try.func50 (by kernel_rfl) #[.int .i64 (sq : Nat), .int .i64 6] rfl (numw_any w.heap.size g3 sq 6 _ _ hB hsq (by decide) (by simp only [List.length_append, nuL_length, List.length_nil]; omega) sb.size) ?_
 clear hB
 rintro _ z9 ⟨rfl, hB, hb, ok1⟩
 refine ⟨_, rfl, ?_⟩
 simp only [Act.put, pu]
 replace r1 := ok1.row r1 (by omega) (by decide)
 replace r4 := ok1.row r4 (by omega) (by decide)
 replace sb := sb.trans hb
 clear hb ok1
 refine pw_nil ?_
 (repeat ((fail_if_success with_reducible refine rg ?_); go_step))
 refine wp_region_pw ?_
 refine pw_loadk (by rfl) 87 _ rfl _ (0) rfl r4.r (.func (.func 50) #[] #[.pointer (some ⟨g3, 0, none⟩)]) rfl Try.isAgg87 ?_
 simp only [Act.put, pu]
 refine pw_value (by rfl) (.pointer (some ⟨g1, 3, none⟩)) (exec_field 29 _ 3 rfl g1 0 rfl _ Try.underlying29 _ rfl 1 Try.sizeOf24) ?_
 simp only [Act.put, pu]
 refine pw_value (by rfl) (.pointer (some ⟨g1, 4, none⟩)) (exec_field 24 _ 1 rfl g1 3 rfl _ Try.underlying24 _ rfl 0 Try.sizeOf3) ?_
 simp only [Act.put, pu]
 refine pw_loadk (by rfl) 3 _ rfl _ (4) rfl r1.r (.int .i64 (cl : Nat)) rfl Try.isAgg3 ?_
 simp only [Act.put, pu]
 refine pw_callCE (by rfl) 50 _ _ _ rfl #[.pointer (some ⟨g3, 0, none⟩)] rfl Try.func50 (by kernel_rfl) #[.int .i64 (cl : Nat), .int .i64 1] rfl (numw_any w.heap.size g3 cl 1 _ _ hB hcl (by decide) (by simp only [List.length_append, nuL_length, List.length_nil]; omega) sb.size) ?_
 clear hB
 rintro _ z9 ⟨rfl, hB, hb, ok1⟩
 refine ⟨_, rfl, ?_⟩
 simp only [Act.put, pu]
 replace r1 := ok1.row r1 (by omega) (by decide)
 replace r4 := ok1.row r4 (by omega) (by decide)
 replace sb := sb.trans hb
 clear hb ok1
 refine pw_nil ?_
 (repeat ((fail_if_success with_reducible refine rg ?_); go_step))
 refine wp_region_pw ?_
 refine pw_mv (by rfl) rfl rfl ?_
 simp only [Act.put, pu]
 refine pw_value (by rfl) (.pointer (some ⟨g1, 5, none⟩)) (exec_field 29 _ 4 rfl g1 0 rfl _ Try.underlying29 _ rfl 0 Try.sizeOf9) ?_
 simp only [Act.put, pu]
 refine pw_loadk (by rfl) 9 _ rfl _ (5) rfl r1.r (.string ⟨dg.toArray⟩) rfl Try.isAgg9 ?_
 simp only [Act.put, pu]
 refine pw_callCE (by rfl) 52 _ _ _ rfl #[.pointer (some ⟨g4, 0, none⟩), .pointer (some ⟨g3, 0, none⟩)] rfl Try.func52 (by kernel_rfl) #[.string ⟨(dg).toArray⟩, .int .i64 1] rfl (cntw_any w.heap.size g4 g3 1 _ (dg) _ hB r4 (by omega) (by omega) (by decide) (by simp only [List.length_append, nuL_length, List.length_nil]; omega) sb.size) ?_
 clear hB
 rintro _ z9 ⟨rfl, hB, hb, ok1⟩
 refine ⟨_, rfl, ?_⟩
 simp only [Act.put, pu]
 replace r1 := ok1.row r1 (by omega) (by decide)
 replace r4 := ok1.row r4 (by omega) (by decide)
 replace sb := sb.trans hb
 clear hb ok1
 refine pw_nil ?_
 (repeat ((fail_if_success with_reducible refine rg ?_); go_step))
 refine wp_region_pw ?_
 refine pw_mv (by rfl) rfl rfl ?_
 simp only [Act.put, pu]
 refine pw_value (by rfl) (.pointer (some ⟨g1, 6, none⟩)) (exec_field 29 _ 5 rfl g1 0 rfl _ Try.underlying29 _ rfl 0 Try.sizeOf26) ?_
 simp only [Act.put, pu]
 refine pw_loadk (by rfl) 26 _ rfl _ (6) rfl r1.r (.slice a1 n c1) rfl Try.isAgg26 ?_
 simp only [Act.put, pu]
 refine pw_callB (by rfl) 54 _ _ rfl Try.func54 (by kernel_rfl) #[.slice a1 n c1] rfl _ (hXc _ sb) ?_
 intro z10003 k
 simp only [Act.put, pu]
 replace r1 := k.row r1 (by simp <;> omega)
 replace r4 := k.row r4 (by simp <;> omega)
 replace hB := hB.below k.nil
 replace sb := sb.trans (k.below w.heap.size sb.size (by simp <;> omega))
 clear k
 refine pw_callCE (by rfl) 52 _ _ _ rfl #[.pointer (some ⟨g4, 0, none⟩), .pointer (some ⟨g3, 0, none⟩)] rfl Try.func52 (by kernel_rfl) #[.string ⟨(X).toArray⟩, .int .i64 2] rfl (cntw_any w.heap.size g4 g3 2 _ (X) _ hB r4 (by omega) hX (by decide) (by simp only [List.length_append, nuL_length, List.length_nil]; omega) sb.size) ?_
 clear hB
 rintro _ z9 ⟨rfl, hB, hb, ok1⟩
 refine ⟨_, rfl, ?_⟩
 simp only [Act.put, pu]
 replace r1 := ok1.row r1 (by omega) (by decide)
 replace r4 := ok1.row r4 (by omega) (by decide)
 replace sb := sb.trans hb
 clear hb ok1
 refine pw_nil ?_
 rw [← hHe.out] at hB
 clear hHe hXc
 (repeat ((fail_if_success with_reducible refine rg ?_); go_step))
 refine wp_region_pw ?_
 refine pw_value (by rfl) (.pointer (some ⟨g1, 7, none⟩)) (exec_field 29 _ 6 rfl g1 0 rfl _ Try.underlying29 _ rfl 0 Try.sizeOf27) ?_
 simp only [Act.put, pu]
 refine pw_loadk (by rfl) 27 _ rfl _ (7) rfl r1.r (.slice a2 m c2) rfl Try.isAgg27 ?_
 simp only [Act.put, pu]
 refine pw_value (by rfl) (.int .i64 (m : Nat)) (exec_len_s 27 _ rfl a2 m c2 rfl sl_yw) ?_
 simp only [Act.put, pu]
 refine pw_value (by rfl) (.int .i64 0) (fun _ => rfl) ?_
 simp only [Act.put, pu]
 refine pw_nil ?_
 rw [show H = H ++ ysL Y 0 from (List.append_nil H).symm] at hB
 have hB0 := hB
 clear hB r1
 go_wp2_with fail
 go_loopg [7, 44] m (fun x s7 s44 wr => ∃ i : Nat, i + x = m ∧ s44 = .int .i64 i ∧ BfAt wr w.heap.size g3 (H ++ ysL Y i) ∧ Row wr g4 #[.func (.func 50) #[] #[.pointer (some ⟨g3, 0, none⟩)]] 87 ∧ Below w.heap.size w wr)
 case atStart => exact ⟨0, by omega, rfl, hB0, r4, sb⟩
 case round =>
  clear hB0 sb r4
  obtain ⟨i, hi, rfl, hB, r4, sb⟩ := hrel
  cases gk with
  | zero =>
   obtain rfl : i = m := by omega
   clear hi HL HB HYl
   (repeat ((fail_if_success with_reducible refine rg ?_); go_step))
   refine wp_region_pw ?_
   refine pw_value (by rfl) (.bool false) (exec_lt_b _ _ _ _ rfl i i rfl rfl false (decide_eq_false (Int.lt_irrefl _))) ?_
   simp only [Act.put, pu]
   refine pw_nil ?_
   (repeat ((fail_if_success with_reducible refine rg ?_); go_step))
   refine wp_region_pw ?_
   refine pw_callE (by rfl) 56 _ _ rfl Try.func56 (by kernel_rfl) #[.pointer (some ⟨g3, 0, none⟩)] rfl (bstrK w.heap.size g3 _ _ hB sb.size) ?_
   rintro _ z16000 ⟨rfl, hb⟩
   refine ⟨_, rfl, ?_⟩
   simp only [Act.put, pu]
   replace sb := sb.trans hb
   clear hb
   refine pw_as (by rfl) rfl rfl ?_
   simp only [Act.put, pu]
   refine pw_nil ?_
   go_wp2
   go_ret
   exact ⟨rfl, sb⟩
  | succ x =>
   obtain hx | ⟨ha, rB, hbt⟩ := (HB.out.below sb).at'
   ·exact absurd hx (by omega)
   have hbi := hbt i (by omega)
   have hYi := HYl.out i (by omega)
   have hLi := HL.out i (by omega)
   have hyl := byL_le hYi
   have hyb : (byL (Y i)).length < 10000 := by omega
   have e1 : H ++ ysL Y i ++ (nuL (byL (Y i)).length 1 ++ byL (Y i)) = H ++ ysL Y (i + 1) := by rw [List.append_assoc]; rfl
   have hlb : (H ++ ysL Y i).length ≤ 80000 := by rw [List.length_append]; omega
   clear hbt hLi
   have l4 := r4.lt
   (repeat ((fail_if_success with_reducible refine rg ?_); go_step))
   refine wp_region_pw ?_
   refine pw_value (by rfl) (.bool true) (exec_lt_b _ _ _ _ rfl i m rfl rfl true (decide_eq_true (by omega))) ?_
   simp only [Act.put, pu]
   refine pw_nil ?_
   have cb := below_self sb
   (repeat ((fail_if_success with_reducible refine rg ?_); go_step))
   refine wp_region_pw ?_
   refine pw_value (by rfl) (.pointer (some ⟨gb, ob + i * 4, none⟩)) (exec_index_s 27 _ _ rfl gb ob m c2 (congrArg (fun z => Value.slice z m c2) ha) i rfl (by omega) _ Try.underlying27 4 Try.sizeOf51) ?_
   simp only [Act.put, pu]
   refine pw_loadm (by rfl) 51 _ rfl _ (ob + i * 4) rfl rB (natC (Y i)) hbi _ Try.underlying51 rfl size_nat ?_
   simp only [Act.put, pu]
   refine pw_new (by rfl) 51 rfl _ zero_nat ?_
   intro g7 z13002 n0 r7 k
   simp only [Act.put, pu]
   have d4x7 := Nat.lt_of_lt_of_le r4.lt n0
   have bcbx7 := Nat.le_trans cb.size n0
   have b7 := Nat.le_trans sb.size n0
   clear n0
   replace r4 := k.row r4 (by simp <;> omega)
   replace cb := cb.trans (k.below _ cb.size (by simp <;> omega))
   replace sb := sb.trans (k.below w.heap.size sb.size (by simp <;> omega))
   clear k
   refine pw_put (by rfl) 51 _ _ rfl _ rfl r7 (natC (Y i)) rfl (by exact size_nat) (by simp only [natC_size]) (natC_one _) ?_
   clear r7
   intro z13003 r7 k
   simp only [Act.put]
   replace r4 := k.row r4 (by simp <;> omega)
   replace cb := cb.trans (k.below _ cb.size (by simp <;> omega))
   replace sb := sb.trans (k.below w.heap.size sb.size (by simp <;> omega))
   clear k
   refine pw_nil ?_
   replace hB := hB.below cb
   clear cb
   (repeat ((fail_if_success with_reducible refine rg ?_); go_step))
   refine wp_region_pw ?_
   refine pw_mv (by rfl) rfl rfl ?_
   simp only [Act.put, pu]
   refine pw_loadm (by rfl) 51 _ rfl _ 0 rfl r7.r _ (part_all _) _ Try.underlying51 rfl size_nat ?_
   simp only [Act.put, pu]
   refine pw_callB (by rfl) 55 _ _ rfl Try.func55 (by kernel_rfl) #[.agg (natC (Y i))] rfl _ (nby_any (Y i) _ hYi) ?_
   intro z14002 k
   simp only [Act.put, pu]
   replace r4 := k.row r4 (by simp <;> omega)
   replace r7 := k.row r7 (by simp <;> omega)
   replace hB := hB.below k.nil
   replace sb := sb.trans (k.below w.heap.size sb.size (by simp <;> omega))
   clear k
   refine pw_callCE (by rfl) 52 _ _ _ rfl #[.pointer (some ⟨g4, 0, none⟩), .pointer (some ⟨g3, 0, none⟩)] rfl Try.func52 (by kernel_rfl) #[.string ⟨(byL (Y i)).toArray⟩, .int .i64 1] rfl (cntw_any w.heap.size g4 g3 1 _ (byL (Y i)) _ hB r4 (by omega) hyb (by decide) hlb sb.size) ?_
   clear hB
   rintro _ z9 ⟨rfl, hB, hb, ok1⟩
   refine ⟨_, rfl, ?_⟩
   simp only [Act.put, pu]
   replace r4 := ok1.row r4 (by omega) (by decide)
   replace sb := sb.trans hb
   clear hb ok1
   refine pw_nil ?_
   rw [e1] at hB
   clear e1 hlb hyb hyl hYi hbi r7 rB ha
   (repeat ((fail_if_success with_reducible refine rg ?_); go_step))
   refine wp_region_pw ?_
   refine pw_value (by rfl) (.int .i64 (i + 1 : Nat)) (xi_add _ _ _ _ rfl i 1 rfl rfl (by omega)) ?_
   simp only [Act.put, pu]
   refine pw_mv (by rfl) rfl rfl ?_
   simp only [Act.put, pu]
   refine pw_nil ?_
   go_wp2
   go_roundg x
   case rel => exact ⟨i + 1, by omega, rfl, hB, r4, sb⟩
   case measure => omega
end Go.Proofs.Ytojobffihlmfgaa
