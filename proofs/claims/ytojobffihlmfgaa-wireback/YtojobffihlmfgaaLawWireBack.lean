/- WireBack: for every message, any place, any bytes: what is put is taken as it was; cut anywhere, or with more behind, it is none; no condition. -/
import Derived.Test.YtojobffihlmfgaaWRH
import Derived.Test.YtojobffihlmfgaaWRA
import Derived.Test.YtojobffihlmfgaaWRD
namespace Go.Proofs.Ytojobffihlmfgaa
open Go.ChangeShapes Go.WideShapes Go.ChangeAt Go.RowKit
open Go.ChangeMaps (open_string shut_string)
set_option linter.unusedVariables false
set_option linter.unusedSectionVars false
set_option linter.unusedSimpArgs false
namespace wireBackP
theorem and16 (x : Int) : ∃ c : Nat, c < 65536 ∧ bits .and .i64 x 65535 = (c : Nat) := by
 have h255 : (BitVec.ofInt 64 65535).toNat = 2 ^ 16 - 1 := by decide
 have hlt : (BitVec.ofInt 64 x &&& BitVec.ofInt 64 65535).toNat < 65536 := by
  rw [BitVec.toNat_and, h255, Nat.and_two_pow_sub_one_eq_mod]
  omega
 refine ⟨(BitVec.ofInt 64 x &&& BitVec.ofInt 64 65535).toNat, hlt, ?_⟩
 show IntKind.i64.wrap ((BitVec.ofInt 64 x &&& BitVec.ofInt 64 65535).toNat : Int) = _
 rw [IntKind.wrap_i64]
 omega
theorem x_and16 {P : Program} {o : Oper} {ρ : Operand → Value} (t : TypeId) (x y : Operand) (u : TypeId) (ho : o.op = .binOp .and t x y u) (n : Int) (c : Nat) (hc : bits .and .i64 n 65535 = (c : Nat)) (hx : ρ x = .int .i64 n) (hy : ρ y = .int .i64 65535) (w : World) :
  (execOp ρ o).run P w = .ok (.value (.int .i64 (c : Nat))) w := by
 unfold execOp
 simp only [ho, hx, hy]
 simp [go_sem]
 exact hc
theorem x_eqbb {P : Program} {o : Oper} {ρ : Operand → Value} (t : TypeId) (x y : Operand) (u : TypeId) (ho : o.op = .binOp .eql t x y u) (n : Bool) (hx : ρ x = .bool n) (hy : ρ y = .bool n) (hu : P.underlying t = some .bool) (w : World) :
  (execOp ρ o).run P w = .ok (.value (.bool true)) w := by
 unfold execOp
 simp only [ho, hx, hy]
 simp [eqGuard, go_sem, hu]
set_option maxRecDepth 100000 in
set_option maxHeartbeats 2000000 in
theorem core0 (kd op : Int) (key : List UInt8) (sq cl : Int) (dg : List UInt8) (a1 : Option Addr) (n c1 : Nat) (a2 : Option Addr) (m c2 : Nat) (a0 : Int) (b : List UInt8) (w : World) (cF : (∀ w', Below w.heap.size w w' → Calls Try.prog 10 #[.agg (msC kd op key sq cl dg a1 n c1 a2 m c2)] w' fun e w2 => e = .returned (.bool false) ∧ Below w'.heap.size w' w2)) :
  Calls Try.prog 4 #[.agg (msC kd op key sq cl dg a1 n c1 a2 m c2), .int .i64 a0, .string ⟨b.toArray⟩] w fun e w' => e = .returned (.bool true) ∧ Below w.heap.size w w' := by
 go_enter Try.func4, Try.ntmps4
 (repeat ((fail_if_success with_reducible refine rg ?_); go_step))
 refine wp_region_pw ?_
 refine pw_boxr (by rfl) 29 _ rfl (msC kd op key sq cl dg a1 n c1 a2 m c2) rfl ?_
 intro g3 z0 n0 r3 k
 simp only [Act.put, pu]
 have b3 : w.heap.size ≤ g3 := n0
 clear n0
 have sb := k.below w.heap.size (Nat.le_refl _) (by simp)
 clear k
 refine pw_value (by rfl) (.bool false) (fun _ => rfl) ?_
 simp only [Act.put, pu]
 refine pw_nil ?_
 (repeat ((fail_if_success with_reducible refine rg ?_); go_step))
 refine wp_region_pw ?_
 refine pw_loadm (by rfl) 29 _ rfl _ (0) rfl r3.r (msC kd op key sq cl dg a1 n c1 a2 m c2) (part_all _) _ Try.underlying29 rfl size_ms ?_
 simp only [Act.put, pu]
 refine pw_callB (by rfl) 10 _ _ rfl Try.func10 (by kernel_rfl) #[.agg (msC kd op key sq cl dg a1 n c1 a2 m c2)] rfl _ (cF _ sb) ?_
 intro z1001 k
 simp only [Act.put, pu]
 replace r3 := k.row r3 (by simp <;> omega)
 replace sb := sb.trans (k.below w.heap.size sb.size (by simp <;> omega))
 clear k
 refine pw_value (by rfl) (.bool true) (exec_not _ _ rfl false rfl) ?_
 simp only [Act.put, pu]
 refine pw_mv (by rfl) rfl rfl ?_
 simp only [Act.put, pu]
 refine pw_skip (by rfl) ?_
 simp only [Act.put, pu]
 refine pw_skip (by rfl) ?_
 simp only [Act.put, pu]
 refine pw_skip (by rfl) ?_
 simp only [Act.put, pu]
 refine pw_pick (by rfl) true (v := .bool true) rfl rfl rfl ?_
 simp only [Act.put, pu]
 refine pw_mv (by rfl) rfl rfl ?_
 simp only [Act.put, pu]
 refine pw_skip (by rfl) ?_
 simp only [Act.put, pu]
 refine pw_skip (by rfl) ?_
 simp only [Act.put, pu]
 refine pw_skip (by rfl) ?_
 simp only [Act.put, pu]
 refine pw_pick (by rfl) true (v := .bool true) rfl rfl rfl ?_
 simp only [Act.put, pu]
 refine pw_nil ?_
 (repeat ((fail_if_success with_reducible refine rg ?_); go_step))
 refine wp_region_pw ?_
 refine pw_callB (by rfl) 5 _ _ rfl Try.func5 (by kernel_rfl) #[] rfl _ (awake18_any _) ?_
 intro z2000 k
 simp only [Act.put, pu]
 replace sb := sb.trans (k.below w.heap.size sb.size (by simp <;> omega))
 clear k
 refine pw_as (by rfl) rfl rfl ?_
 simp only [Act.put, pu]
 refine pw_nil ?_
 go_wp2
 go_ret
 exact ⟨rfl, sb⟩
set_option maxRecDepth 100000 in
set_option maxHeartbeats 2000000 in
theorem core1 (kd op : Int) (key : List UInt8) (sq cl : Int) (dg : List UInt8) (a1 : Option Addr) (n c1 : Nat) (a2 : Option Addr) (m c2 : Nat) (a0 : Int) (b : List UInt8) (w : World) (hb : 9 < b.length) (hbl : b.length < 9223372036854775808) (cF : (∀ w', Below w.heap.size w w' → Calls Try.prog 10 #[.agg (msC kd op key sq cl dg a1 n c1 a2 m c2)] w' fun e w2 => e = .returned (.bool true) ∧ Below w'.heap.size w' w2)) :
  Calls Try.prog 4 #[.agg (msC kd op key sq cl dg a1 n c1 a2 m c2), .int .i64 a0, .string ⟨b.toArray⟩] w fun e w' => e = .returned (.bool true) ∧ Below w.heap.size w w' := by
 go_enter Try.func4, Try.ntmps4
 (repeat ((fail_if_success with_reducible refine rg ?_); go_step))
 refine wp_region_pw ?_
 refine pw_boxr (by rfl) 29 _ rfl (msC kd op key sq cl dg a1 n c1 a2 m c2) rfl ?_
 intro g3 z0 n0 r3 k
 simp only [Act.put, pu]
 have b3 : w.heap.size ≤ g3 := n0
 clear n0
 have sb := k.below w.heap.size (Nat.le_refl _) (by simp)
 clear k
 refine pw_value (by rfl) (.bool false) (fun _ => rfl) ?_
 simp only [Act.put, pu]
 refine pw_nil ?_
 (repeat ((fail_if_success with_reducible refine rg ?_); go_step))
 refine wp_region_pw ?_
 refine pw_loadm (by rfl) 29 _ rfl _ (0) rfl r3.r (msC kd op key sq cl dg a1 n c1 a2 m c2) (part_all _) _ Try.underlying29 rfl size_ms ?_
 simp only [Act.put, pu]
 refine pw_callB (by rfl) 10 _ _ rfl Try.func10 (by kernel_rfl) #[.agg (msC kd op key sq cl dg a1 n c1 a2 m c2)] rfl _ (cF _ sb) ?_
 intro z1001 k
 simp only [Act.put, pu]
 replace r3 := k.row r3 (by simp <;> omega)
 replace sb := sb.trans (k.below w.heap.size sb.size (by simp <;> omega))
 clear k
 refine pw_value (by rfl) (.bool false) (exec_not _ _ rfl true rfl) ?_
 simp only [Act.put, pu]
 refine pw_mv (by rfl) rfl rfl ?_
 simp only [Act.put, pu]
 refine pw_mv (by rfl) rfl rfl ?_
 simp only [Act.put, pu]
 refine pw_value (by rfl) (.int .i64 (b.length : Nat)) (y_lenS _ _ rfl b rfl Try.underlying9) ?_
 simp only [Act.put, pu]
 refine pw_value (by rfl) (.bool true) (x_gt _ _ _ _ rfl (b.length : Nat) 9 rfl rfl true (decide_eq_true (by omega))) ?_
 simp only [Act.put, pu]
 refine pw_pick (by rfl) false (v := .bool true) rfl rfl rfl ?_
 simp only [Act.put, pu]
 refine pw_mv (by rfl) rfl rfl ?_
 simp only [Act.put, pu]
 refine pw_skip (by rfl) ?_
 simp only [Act.put, pu]
 refine pw_skip (by rfl) ?_
 simp only [Act.put, pu]
 refine pw_skip (by rfl) ?_
 simp only [Act.put, pu]
 refine pw_pick (by rfl) true (v := .bool true) rfl rfl rfl ?_
 simp only [Act.put, pu]
 refine pw_nil ?_
 (repeat ((fail_if_success with_reducible refine rg ?_); go_step))
 refine wp_region_pw ?_
 refine pw_callB (by rfl) 5 _ _ rfl Try.func5 (by kernel_rfl) #[] rfl _ (awake18_any _) ?_
 intro z2000 k
 simp only [Act.put, pu]
 replace sb := sb.trans (k.below w.heap.size sb.size (by simp <;> omega))
 clear k
 refine pw_as (by rfl) rfl rfl ?_
 simp only [Act.put, pu]
 refine pw_nil ?_
 go_wp2
 go_ret
 exact ⟨rfl, sb⟩
set_option maxRecDepth 100000 in
set_option maxHeartbeats 2000000 in
theorem core2 (kd op : Int) (key : List UInt8) (sq cl : Int) (dg : List UInt8) (a1 : Option Addr) (n c1 : Nat) (a2 : Option Addr) (m c2 : Nat) (a0 : Int) (b : List UInt8) (w : World) (hb : b.length ≤ 9) (cF : (∀ w', Below w.heap.size w w' → Calls Try.prog 10 #[.agg (msC kd op key sq cl dg a1 n c1 a2 m c2)] w' fun e w2 => e = .returned (.bool true) ∧ Below w'.heap.size w' w2)) (cC : (∀ w', Below w.heap.size w w' → Calls Try.prog 11 #[.agg (msC kd op key sq cl dg a1 n c1 a2 m c2)] w' fun e w2 => e = .returned (.int .i64 1) ∧ Below w'.heap.size w' w2)) :
  Calls Try.prog 4 #[.agg (msC kd op key sq cl dg a1 n c1 a2 m c2), .int .i64 a0, .string ⟨b.toArray⟩] w fun e w' => e = .returned (.bool true) ∧ Below w.heap.size w w' := by
 go_enter Try.func4, Try.ntmps4
 (repeat ((fail_if_success with_reducible refine rg ?_); go_step))
 refine wp_region_pw ?_
 refine pw_boxr (by rfl) 29 _ rfl (msC kd op key sq cl dg a1 n c1 a2 m c2) rfl ?_
 intro g3 z0 n0 r3 k
 simp only [Act.put, pu]
 have b3 : w.heap.size ≤ g3 := n0
 clear n0
 have sb := k.below w.heap.size (Nat.le_refl _) (by simp)
 clear k
 refine pw_value (by rfl) (.bool false) (fun _ => rfl) ?_
 simp only [Act.put, pu]
 refine pw_nil ?_
 (repeat ((fail_if_success with_reducible refine rg ?_); go_step))
 refine wp_region_pw ?_
 refine pw_loadm (by rfl) 29 _ rfl _ (0) rfl r3.r (msC kd op key sq cl dg a1 n c1 a2 m c2) (part_all _) _ Try.underlying29 rfl size_ms ?_
 simp only [Act.put, pu]
 refine pw_callB (by rfl) 10 _ _ rfl Try.func10 (by kernel_rfl) #[.agg (msC kd op key sq cl dg a1 n c1 a2 m c2)] rfl _ (cF _ sb) ?_
 intro z1001 k
 simp only [Act.put, pu]
 replace r3 := k.row r3 (by simp <;> omega)
 replace sb := sb.trans (k.below w.heap.size sb.size (by simp <;> omega))
 clear k
 refine pw_value (by rfl) (.bool false) (exec_not _ _ rfl true rfl) ?_
 simp only [Act.put, pu]
 refine pw_mv (by rfl) rfl rfl ?_
 simp only [Act.put, pu]
 refine pw_mv (by rfl) rfl rfl ?_
 simp only [Act.put, pu]
 refine pw_value (by rfl) (.int .i64 (b.length : Nat)) (y_lenS _ _ rfl b rfl Try.underlying9) ?_
 simp only [Act.put, pu]
 refine pw_value (by rfl) (.bool false) (x_gt _ _ _ _ rfl (b.length : Nat) 9 rfl rfl false (decide_eq_false (by omega))) ?_
 simp only [Act.put, pu]
 refine pw_pick (by rfl) false (v := .bool false) rfl rfl rfl ?_
 simp only [Act.put, pu]
 refine pw_mv (by rfl) rfl rfl ?_
 simp only [Act.put, pu]
 refine pw_loadm (by rfl) 29 _ rfl _ (0) rfl r3.r (msC kd op key sq cl dg a1 n c1 a2 m c2) (part_all _) _ Try.underlying29 rfl size_ms ?_
 simp only [Act.put, pu]
 refine pw_callB (by rfl) 11 _ _ rfl Try.func11 (by kernel_rfl) #[.agg (msC kd op key sq cl dg a1 n c1 a2 m c2)] rfl _ (cC _ sb) ?_
 intro z1010 k
 simp only [Act.put, pu]
 replace r3 := k.row r3 (by simp <;> omega)
 replace sb := sb.trans (k.below w.heap.size sb.size (by simp <;> omega))
 clear k
 refine pw_value (by rfl) (.bool true) (exec_neq_k .i64 _ _ _ _ rfl (1) (0) rfl rfl true (by decide)) ?_
 simp only [Act.put, pu]
 refine pw_pick (by rfl) false (v := .bool true) rfl rfl rfl ?_
 simp only [Act.put, pu]
 refine pw_nil ?_
 (repeat ((fail_if_success with_reducible refine rg ?_); go_step))
 refine wp_region_pw ?_
 refine pw_callB (by rfl) 5 _ _ rfl Try.func5 (by kernel_rfl) #[] rfl _ (awake18_any _) ?_
 intro z2000 k
 simp only [Act.put, pu]
 replace sb := sb.trans (k.below w.heap.size sb.size (by simp <;> omega))
 clear k
 refine pw_as (by rfl) rfl rfl ?_
 simp only [Act.put, pu]
 refine pw_nil ?_
 go_wp2
 go_ret
 exact ⟨rfl, sb⟩
set_option maxRecDepth 100000 in
set_option maxHeartbeats 2000000 in
theorem core3 (d : RD) (a1 : Option Addr) (c1 : Nat) (a2 : Option Addr) (c2 : Nat) (a0 : Int) (b S : List UInt8) (c : Nat) (w : World) (hb : b.length ≤ 9) (hin : InM w d a1 a2) (hm : d.ys.length < 9223372036854775808) (hl : S.length ≤ 8192) (hpos : 0 < S.length) (htz : tz S = some d) (hc : bits .and .i64 a0 65535 = (c : Nat))
  (hbe : decide (b = []) = true) (hmore : tz (S ++ b) = some d) (cF : (∀ w', Below w.heap.size w w' → Calls Try.prog 10 #[.agg (msC (d.kd : Nat) (d.op : Nat) d.key (d.sq : Nat) (d.cl : Nat) d.dg a1 (nX d.X) c1 a2 d.ys.length c2)] w' fun e w2 => e = .returned (.bool true) ∧ Below w'.heap.size w' w2)) (cC : (∀ w', Below w.heap.size w w' → Calls Try.prog 11 #[.agg (msC (d.kd : Nat) (d.op : Nat) d.key (d.sq : Nat) (d.cl : Nat) d.dg a1 (nX d.X) c1 a2 d.ys.length c2)] w' fun e w2 => e = .returned (.int .i64 0) ∧ Below w'.heap.size w' w2)) (cP : (∀ w', Below w.heap.size w w' → Calls Try.prog 8 #[.agg (msC (d.kd : Nat) (d.op : Nat) d.key (d.sq : Nat) (d.cl : Nat) d.dg a1 (nX d.X) c1 a2 d.ys.length c2)] w' fun e w2 => e = .returned (.tuple #[.string ⟨S.toArray⟩, .int .i64 0]) ∧ Below w'.heap.size w' w2)) :
  Calls Try.prog 4 #[.agg (msC (d.kd : Nat) (d.op : Nat) d.key (d.sq : Nat) (d.cl : Nat) d.dg a1 (nX d.X) c1 a2 d.ys.length c2), .int .i64 a0, .string ⟨b.toArray⟩] w fun e w' => e = .returned (.bool true) ∧ Below w.heap.size w w' := by
 have hS4 : S.length < 4611686018427387904 := by omega
 have hcl : c % S.length < S.length := Nat.mod_lt _ hpos
 have hcut := bk_cut htz (c % S.length) hcl
 have hS5 : (S.take (c % S.length)).length < 4611686018427387904 := by rw [List.length_take]; omega
 have hS6 : (S ++ b).length < 4611686018427387904 := by rw [List.length_append]; omega
 have hbl : b.length ≤ 9 := hb
 clear hb
 go_enter Try.func4, Try.ntmps4
 (repeat ((fail_if_success with_reducible refine rg ?_); go_step))
 refine wp_region_pw ?_
 refine pw_boxr (by rfl) 29 _ rfl (msC (d.kd : Nat) (d.op : Nat) d.key (d.sq : Nat) (d.cl : Nat) d.dg a1 (nX d.X) c1 a2 d.ys.length c2) rfl ?_
 intro g3 z0 n0 r3 k
 simp only [Act.put, pu]
 have b3 : w.heap.size ≤ g3 := n0
 clear n0
 have sb := k.below w.heap.size (Nat.le_refl _) (by simp)
 clear k
 refine pw_value (by rfl) (.bool false) (fun _ => rfl) ?_
 simp only [Act.put, pu]
 refine pw_nil ?_
 (repeat ((fail_if_success with_reducible refine rg ?_); go_step))
 refine wp_region_pw ?_
 refine pw_loadm (by rfl) 29 _ rfl _ (0) rfl r3.r (msC (d.kd : Nat) (d.op : Nat) d.key (d.sq : Nat) (d.cl : Nat) d.dg a1 (nX d.X) c1 a2 d.ys.length c2) (part_all _) _ Try.underlying29 rfl size_ms ?_
 simp only [Act.put, pu]
 refine pw_callB (by rfl) 10 _ _ rfl Try.func10 (by kernel_rfl) #[.agg (msC (d.kd : Nat) (d.op : Nat) d.key (d.sq : Nat) (d.cl : Nat) d.dg a1 (nX d.X) c1 a2 d.ys.length c2)] rfl _ (cF _ sb) ?_
 intro z1001 k
 simp only [Act.put, pu]
 replace r3 := k.row r3 (by simp <;> omega)
 replace sb := sb.trans (k.below w.heap.size sb.size (by simp <;> omega))
 clear k
 refine pw_value (by rfl) (.bool false) (exec_not _ _ rfl true rfl) ?_
 simp only [Act.put, pu]
 refine pw_mv (by rfl) rfl rfl ?_
 simp only [Act.put, pu]
 refine pw_mv (by rfl) rfl rfl ?_
 simp only [Act.put, pu]
 refine pw_value (by rfl) (.int .i64 (b.length : Nat)) (y_lenS _ _ rfl b rfl Try.underlying9) ?_
 simp only [Act.put, pu]
 refine pw_value (by rfl) (.bool false) (x_gt _ _ _ _ rfl (b.length : Nat) 9 rfl rfl false (decide_eq_false (by omega))) ?_
 simp only [Act.put, pu]
 refine pw_pick (by rfl) false (v := .bool false) rfl rfl rfl ?_
 simp only [Act.put, pu]
 refine pw_mv (by rfl) rfl rfl ?_
 simp only [Act.put, pu]
 refine pw_loadm (by rfl) 29 _ rfl _ (0) rfl r3.r (msC (d.kd : Nat) (d.op : Nat) d.key (d.sq : Nat) (d.cl : Nat) d.dg a1 (nX d.X) c1 a2 d.ys.length c2) (part_all _) _ Try.underlying29 rfl size_ms ?_
 simp only [Act.put, pu]
 refine pw_callB (by rfl) 11 _ _ rfl Try.func11 (by kernel_rfl) #[.agg (msC (d.kd : Nat) (d.op : Nat) d.key (d.sq : Nat) (d.cl : Nat) d.dg a1 (nX d.X) c1 a2 d.ys.length c2)] rfl _ (cC _ sb) ?_
 intro z1010 k
 simp only [Act.put, pu]
 replace r3 := k.row r3 (by simp <;> omega)
 replace sb := sb.trans (k.below w.heap.size sb.size (by simp <;> omega))
 clear k
 refine pw_value (by rfl) (.bool false) (exec_neq_k .i64 _ _ _ _ rfl (0) (0) rfl rfl false (by decide)) ?_
 simp only [Act.put, pu]
 refine pw_pick (by rfl) false (v := .bool false) rfl rfl rfl ?_
 simp only [Act.put, pu]
 refine pw_nil ?_
 (repeat ((fail_if_success with_reducible refine rg ?_); go_step))
 refine wp_region_pw ?_
 refine pw_loadm (by rfl) 29 _ rfl _ (0) rfl r3.r (msC (d.kd : Nat) (d.op : Nat) d.key (d.sq : Nat) (d.cl : Nat) d.dg a1 (nX d.X) c1 a2 d.ys.length c2) (part_all _) _ Try.underlying29 rfl size_ms ?_
 simp only [Act.put, pu]
 refine pw_callB (by rfl) 8 _ _ rfl Try.func8 (by kernel_rfl) #[.agg (msC (d.kd : Nat) (d.op : Nat) d.key (d.sq : Nat) (d.cl : Nat) d.dg a1 (nX d.X) c1 a2 d.ys.length c2)] rfl _ (cP _ sb) ?_
 intro z3001 k
 simp only [Act.put, pu]
 replace r3 := k.row r3 (by simp <;> omega)
 replace sb := sb.trans (k.below w.heap.size sb.size (by simp <;> omega))
 clear k
 refine pw_mv (by rfl) rfl rfl ?_
 simp only [Act.put, pu]
 refine pw_ext (by rfl) rfl rfl rfl ?_
 simp only [Act.put, pu]
 refine pw_ext (by rfl) rfl rfl rfl ?_
 simp only [Act.put, pu]
 refine pw_as (by rfl) rfl rfl ?_
 simp only [Act.put, pu]
 refine pw_as (by rfl) rfl rfl ?_
 simp only [Act.put, pu]
 refine pw_nil ?_
 (repeat ((fail_if_success with_reducible refine rg ?_); go_step))
 refine wp_region_pw ?_
 refine pw_mv (by rfl) rfl rfl ?_
 simp only [Act.put, pu]
 refine pw_callE (by rfl) 6 _ _ rfl Try.func6 (by kernel_rfl) #[.string ⟨S.toArray⟩] rfl (wtk_yes S d _ hS4 htz) ?_
 rintro _ z4001 ⟨b1, e1, b2, e2, rfl, hI, hb⟩
 refine ⟨_, rfl, ?_⟩
 simp only [Act.put, pu]
 have k := Kept.ofBelow hb
 clear hb
 replace r3 := k.row r3 (by simp <;> omega)
 replace sb := sb.trans (k.below w.heap.size sb.size (by simp <;> omega))
 clear k
 have cb := sbmk z4001
 refine pw_mv (by rfl) rfl rfl ?_
 simp only [Act.put, pu]
 refine pw_ext (by rfl) rfl rfl rfl ?_
 simp only [Act.put, pu]
 refine pw_ext (by rfl) rfl rfl rfl ?_
 simp only [Act.put, pu]
 refine pw_new (by rfl) 29 rfl _ zero_ms ?_
 intro g9 z4005 n0 r9 k
 simp only [Act.put, pu]
 have d3x9 := Nat.lt_of_lt_of_le r3.lt n0
 have bcbx9 := Nat.le_trans cb.size n0
 have b9 := Nat.le_trans sb.size n0
 clear n0
 replace r3 := k.row r3 (by simp <;> omega)
 replace hI := hI.on k (by simp <;> omega)
 replace cb := cb.trans (k.below _ cb.size (by simp <;> omega))
 replace sb := sb.trans (k.below w.heap.size sb.size (by simp <;> omega))
 clear k
 refine pw_put (by rfl) 29 _ _ rfl _ rfl r9 (msC (d.kd : Nat) (d.op : Nat) d.key (d.sq : Nat) (d.cl : Nat) d.dg b1 (nX d.X) e1 b2 d.ys.length e2) rfl (by exact size_ms) (by rfl) (ms_one _ _ _ _ _ _ _ _ _ _ _ _) ?_
 clear r9
 intro z4006 r9 k
 simp only [Act.put]
 replace r3 := k.row r3 (by simp <;> omega)
 replace hI := hI.on k (by simp <;> omega)
 replace cb := cb.trans (k.below _ cb.size (by simp <;> omega))
 replace sb := sb.trans (k.below w.heap.size sb.size (by simp <;> omega))
 clear k
 refine pw_as (by rfl) rfl rfl ?_
 simp only [Act.put, pu]
 refine pw_nil ?_
 (repeat ((fail_if_success with_reducible refine rg ?_); go_step))
 refine wp_region_pw ?_
 refine pw_mv (by rfl) rfl rfl ?_
 simp only [Act.put, pu]
 refine pw_value (by rfl) (.bool false) (exec_neq_k .i64 _ _ _ _ rfl (0) (0) rfl rfl false (by decide)) ?_
 simp only [Act.put, pu]
 refine pw_mv (by rfl) rfl rfl ?_
 simp only [Act.put, pu]
 refine pw_mv (by rfl) rfl rfl ?_
 simp only [Act.put, pu]
 refine pw_value (by rfl) (.bool false) (exec_neq_k .i64 _ _ _ _ rfl (0) (0) rfl rfl false (by decide)) ?_
 simp only [Act.put, pu]
 refine pw_pick (by rfl) false (v := .bool false) rfl rfl rfl ?_
 simp only [Act.put, pu]
 refine pw_mv (by rfl) rfl rfl ?_
 simp only [Act.put, pu]
 refine pw_loadm (by rfl) 29 _ rfl _ (0) rfl r9.r (msC (d.kd : Nat) (d.op : Nat) d.key (d.sq : Nat) (d.cl : Nat) d.dg b1 (nX d.X) e1 b2 d.ys.length e2) (part_all _) _ Try.underlying29 rfl size_ms ?_
 simp only [Act.put, pu]
 refine pw_loadm (by rfl) 29 _ rfl _ (0) rfl r3.r (msC (d.kd : Nat) (d.op : Nat) d.key (d.sq : Nat) (d.cl : Nat) d.dg a1 (nX d.X) c1 a2 d.ys.length c2) (part_all _) _ Try.underlying29 rfl size_ms ?_
 simp only [Act.put, pu]
 refine pw_callB (by rfl) 9 _ _ rfl Try.func9 (by kernel_rfl) #[.agg (msC (d.kd : Nat) (d.op : Nat) d.key (d.sq : Nat) (d.cl : Nat) d.dg b1 (nX d.X) e1 b2 d.ys.length e2), .agg (msC (d.kd : Nat) (d.op : Nat) d.key (d.sq : Nat) (d.cl : Nat) d.dg a1 (nX d.X) c1 a2 d.ys.length c2)] rfl _ (dsame_any d b1 e1 b2 e2 a1 c1 a2 c2 _ hm hI.self (hin.below sb)) ?_
 intro z5009 k
 simp only [Act.put, pu]
 replace r3 := k.row r3 (by simp <;> omega)
 replace r9 := k.row r9 (by simp <;> omega)
 replace sb := sb.trans (k.below w.heap.size sb.size (by simp <;> omega))
 clear k
 refine pw_value (by rfl) (.bool false) (exec_not _ _ rfl true rfl) ?_
 simp only [Act.put, pu]
 refine pw_pick (by rfl) false (v := .bool false) rfl rfl rfl ?_
 simp only [Act.put, pu]
 refine pw_mv (by rfl) rfl rfl ?_
 simp only [Act.put, pu]
 refine pw_mv (by rfl) rfl rfl ?_
 simp only [Act.put, pu]
 refine pw_value (by rfl) (.int .i64 (S.length : Nat)) (y_lenS _ _ rfl S rfl Try.underlying9) ?_
 simp only [Act.put, pu]
 refine pw_value (by rfl) (.bool false) (x_eqI _ _ _ _ rfl .i64 (S.length : Nat) 0 rfl rfl false (decide_eq_false (by omega))) ?_
 simp only [Act.put, pu]
 refine pw_pick (by rfl) false (v := .bool false) rfl rfl rfl ?_
 simp only [Act.put, pu]
 refine pw_nil ?_
 (repeat ((fail_if_success with_reducible refine rg ?_); go_step))
 refine wp_region_pw ?_
 refine pw_mv (by rfl) rfl rfl ?_
 simp only [Act.put, pu]
 refine pw_mv (by rfl) rfl rfl ?_
 simp only [Act.put, pu]
 refine pw_value (by rfl) (.int .i64 (c : Nat)) (x_and16 _ _ _ _ rfl a0 c hc rfl rfl) ?_
 simp only [Act.put, pu]
 refine pw_mv (by rfl) rfl rfl ?_
 simp only [Act.put, pu]
 refine pw_value (by rfl) (.int .i64 (S.length : Nat)) (y_lenS _ _ rfl S rfl Try.underlying9) ?_
 simp only [Act.put, pu]
 refine pw_value (by rfl) (.int .i64 ((c % S.length : Nat) : Int)) (exec_rem_i _ _ _ _ rfl c S.length rfl rfl hpos) ?_
 simp only [Act.put, pu]
 refine pw_value (by rfl) (.string ⟨(S.take (c % S.length)).toArray⟩) (y_upto _ _ _ Try.underlying9 rfl S (c % S.length) rfl rfl (Nat.le_of_lt hcl)) ?_
 simp only [Act.put, pu]
 refine pw_callB (by rfl) 6 _ _ rfl Try.func6 (by kernel_rfl) #[.string ⟨(S.take (c % S.length)).toArray⟩] rfl _ (wtk_no _ _ hS5 hcut) ?_
 intro z7007 k
 simp only [Act.put, pu]
 replace sb := sb.trans (k.below w.heap.size sb.size (by simp <;> omega))
 clear k
 refine pw_mv (by rfl) rfl rfl ?_
 simp only [Act.put, pu]
 refine pw_ext (by rfl) rfl rfl rfl ?_
 simp only [Act.put, pu]
 refine pw_ext (by rfl) rfl rfl rfl ?_
 simp only [Act.put, pu]
 refine pw_new (by rfl) 29 rfl _ zero_ms ?_
 intro g11 z7011 n0 r11 k
 simp only [Act.put, pu]
 have b11 := Nat.le_trans sb.size n0
 clear n0
 replace sb := sb.trans (k.below w.heap.size sb.size (by simp <;> omega))
 clear k
 refine pw_put (by rfl) 29 _ _ rfl _ rfl r11 (msC 0 0 [] 0 0 [] none 0 0 none 0 0) rfl (by exact size_ms) (by rfl) (ms_one _ _ _ _ _ _ _ _ _ _ _ _) ?_
 clear r11
 intro z7012 r11 k
 simp only [Act.put]
 replace sb := sb.trans (k.below w.heap.size sb.size (by simp <;> omega))
 clear k
 refine pw_as (by rfl) rfl rfl ?_
 simp only [Act.put, pu]
 refine pw_nil ?_
 (repeat ((fail_if_success with_reducible refine rg ?_); go_step))
 refine wp_region_pw ?_
 refine pw_mv (by rfl) rfl rfl ?_
 simp only [Act.put, pu]
 refine pw_mv (by rfl) rfl rfl ?_
 simp only [Act.put, pu]
 refine pw_value (by rfl) (.string ⟨(S ++ b).toArray⟩) (yx_cat _ _ _ _ rfl S b rfl rfl (by omega)) ?_
 simp only [Act.put, pu]
 refine pw_callE (by rfl) 6 _ _ rfl Try.func6 (by kernel_rfl) #[.string ⟨(S ++ b).toArray⟩] rfl (wtk_yes (S ++ b) d _ hS6 hmore) ?_
 rintro _ z8003 ⟨q1, f1, q2, f2, rfl, hJ, hb⟩
 refine ⟨_, rfl, ?_⟩
 simp only [Act.put, pu]
 have k := Kept.ofBelow hb
 clear hb
 replace sb := sb.trans (k.below w.heap.size sb.size (by simp <;> omega))
 clear k
 refine pw_mv (by rfl) rfl rfl ?_
 simp only [Act.put, pu]
 refine pw_ext (by rfl) rfl rfl rfl ?_
 simp only [Act.put, pu]
 refine pw_ext (by rfl) rfl rfl rfl ?_
 simp only [Act.put, pu]
 refine pw_new (by rfl) 29 rfl _ zero_ms ?_
 intro g13 z8007 n0 r13 k
 simp only [Act.put, pu]
 have b13 := Nat.le_trans sb.size n0
 clear n0
 replace sb := sb.trans (k.below w.heap.size sb.size (by simp <;> omega))
 clear k
 refine pw_put (by rfl) 29 _ _ rfl _ rfl r13 (msC (d.kd : Nat) (d.op : Nat) d.key (d.sq : Nat) (d.cl : Nat) d.dg q1 (nX d.X) f1 q2 d.ys.length f2) rfl (by exact size_ms) (by rfl) (ms_one _ _ _ _ _ _ _ _ _ _ _ _) ?_
 clear r13
 intro z8008 r13 k
 simp only [Act.put]
 replace sb := sb.trans (k.below w.heap.size sb.size (by simp <;> omega))
 clear k
 refine pw_as (by rfl) rfl rfl ?_
 simp only [Act.put, pu]
 refine pw_nil ?_
 (repeat ((fail_if_success with_reducible refine rg ?_); go_step))
 refine wp_region_pw ?_
 refine pw_mv (by rfl) rfl rfl ?_
 simp only [Act.put, pu]
 refine pw_value (by rfl) (.bool true) (x_eqI _ _ _ _ rfl .i64 4 4 rfl rfl true rfl) ?_
 simp only [Act.put, pu]
 refine pw_mv (by rfl) rfl rfl ?_
 simp only [Act.put, pu]
 refine pw_mv (by rfl) rfl rfl ?_
 simp only [Act.put, pu]
 refine pw_value (by rfl) (.bool true) (x_eqI _ _ _ _ rfl .i64 0 0 rfl rfl true rfl) ?_
 simp only [Act.put, pu]
 refine pw_mv (by rfl) rfl rfl ?_
 simp only [Act.put, pu]
 refine pw_value (by rfl) (.bool true) (y_eqS _ _ _ _ rfl b [] rfl rfl true hbe) ?_
 simp only [Act.put, pu]
 refine pw_value (by rfl) (.bool true) (x_eqbb _ _ _ _ rfl true rfl rfl Try.underlying4) ?_
 simp only [Act.put, pu]
 refine pw_pick (by rfl) true (v := .bool true) rfl rfl rfl ?_
 simp only [Act.put, pu]
 refine pw_mv (by rfl) rfl rfl ?_
 simp only [Act.put, pu]
 refine pw_callB (by rfl) 5 _ _ rfl Try.func5 (by kernel_rfl) #[] rfl _ (awake18_any _) ?_
 intro z9010 k
 simp only [Act.put, pu]
 replace sb := sb.trans (k.below w.heap.size sb.size (by simp <;> omega))
 clear k
 refine pw_pick (by rfl) true (v := .bool true) rfl rfl rfl ?_
 simp only [Act.put, pu]
 refine pw_as (by rfl) rfl rfl ?_
 simp only [Act.put, pu]
 refine pw_nil ?_
 go_wp2
 go_ret
 exact ⟨rfl, sb⟩
set_option maxRecDepth 100000 in
set_option maxHeartbeats 2000000 in
theorem core4 (d : RD) (a1 : Option Addr) (c1 : Nat) (a2 : Option Addr) (c2 : Nat) (a0 : Int) (b S : List UInt8) (c : Nat) (w : World) (hb : b.length ≤ 9) (hin : InM w d a1 a2) (hm : d.ys.length < 9223372036854775808) (hl : S.length ≤ 8192) (hpos : 0 < S.length) (htz : tz S = some d) (hc : bits .and .i64 a0 65535 = (c : Nat))
  (hbe : decide (b = []) = false) (hmore : tz (S ++ b) = none) (cF : (∀ w', Below w.heap.size w w' → Calls Try.prog 10 #[.agg (msC (d.kd : Nat) (d.op : Nat) d.key (d.sq : Nat) (d.cl : Nat) d.dg a1 (nX d.X) c1 a2 d.ys.length c2)] w' fun e w2 => e = .returned (.bool true) ∧ Below w'.heap.size w' w2)) (cC : (∀ w', Below w.heap.size w w' → Calls Try.prog 11 #[.agg (msC (d.kd : Nat) (d.op : Nat) d.key (d.sq : Nat) (d.cl : Nat) d.dg a1 (nX d.X) c1 a2 d.ys.length c2)] w' fun e w2 => e = .returned (.int .i64 0) ∧ Below w'.heap.size w' w2)) (cP : (∀ w', Below w.heap.size w w' → Calls Try.prog 8 #[.agg (msC (d.kd : Nat) (d.op : Nat) d.key (d.sq : Nat) (d.cl : Nat) d.dg a1 (nX d.X) c1 a2 d.ys.length c2)] w' fun e w2 => e = .returned (.tuple #[.string ⟨S.toArray⟩, .int .i64 0]) ∧ Below w'.heap.size w' w2)) :
  Calls Try.prog 4 #[.agg (msC (d.kd : Nat) (d.op : Nat) d.key (d.sq : Nat) (d.cl : Nat) d.dg a1 (nX d.X) c1 a2 d.ys.length c2), .int .i64 a0, .string ⟨b.toArray⟩] w fun e w' => e = .returned (.bool true) ∧ Below w.heap.size w w' := by
 have hS4 : S.length < 4611686018427387904 := by omega
 have hcl : c % S.length < S.length := Nat.mod_lt _ hpos
 have hcut := bk_cut htz (c % S.length) hcl
 have hS5 : (S.take (c % S.length)).length < 4611686018427387904 := by rw [List.length_take]; omega
 have hS6 : (S ++ b).length < 4611686018427387904 := by rw [List.length_append]; omega
 have hbl : b.length ≤ 9 := hb
 clear hb
 go_enter Try.func4, Try.ntmps4
 (repeat ((fail_if_success with_reducible refine rg ?_); go_step))
 refine wp_region_pw ?_
 refine pw_boxr (by rfl) 29 _ rfl (msC (d.kd : Nat) (d.op : Nat) d.key (d.sq : Nat) (d.cl : Nat) d.dg a1 (nX d.X) c1 a2 d.ys.length c2) rfl ?_
 intro g3 z0 n0 r3 k
 simp only [Act.put, pu]
 have b3 : w.heap.size ≤ g3 := n0
 clear n0
 have sb := k.below w.heap.size (Nat.le_refl _) (by simp)
 clear k
 refine pw_value (by rfl) (.bool false) (fun _ => rfl) ?_
 simp only [Act.put, pu]
 refine pw_nil ?_
 (repeat ((fail_if_success with_reducible refine rg ?_); go_step))
 refine wp_region_pw ?_
 refine pw_loadm (by rfl) 29 _ rfl _ (0) rfl r3.r (msC (d.kd : Nat) (d.op : Nat) d.key (d.sq : Nat) (d.cl : Nat) d.dg a1 (nX d.X) c1 a2 d.ys.length c2) (part_all _) _ Try.underlying29 rfl size_ms ?_
 simp only [Act.put, pu]
 refine pw_callB (by rfl) 10 _ _ rfl Try.func10 (by kernel_rfl) #[.agg (msC (d.kd : Nat) (d.op : Nat) d.key (d.sq : Nat) (d.cl : Nat) d.dg a1 (nX d.X) c1 a2 d.ys.length c2)] rfl _ (cF _ sb) ?_
 intro z1001 k
 simp only [Act.put, pu]
 replace r3 := k.row r3 (by simp <;> omega)
 replace sb := sb.trans (k.below w.heap.size sb.size (by simp <;> omega))
 clear k
 refine pw_value (by rfl) (.bool false) (exec_not _ _ rfl true rfl) ?_
 simp only [Act.put, pu]
 refine pw_mv (by rfl) rfl rfl ?_
 simp only [Act.put, pu]
 refine pw_mv (by rfl) rfl rfl ?_
 simp only [Act.put, pu]
 refine pw_value (by rfl) (.int .i64 (b.length : Nat)) (y_lenS _ _ rfl b rfl Try.underlying9) ?_
 simp only [Act.put, pu]
 refine pw_value (by rfl) (.bool false) (x_gt _ _ _ _ rfl (b.length : Nat) 9 rfl rfl false (decide_eq_false (by omega))) ?_
 simp only [Act.put, pu]
 refine pw_pick (by rfl) false (v := .bool false) rfl rfl rfl ?_
 simp only [Act.put, pu]
 refine pw_mv (by rfl) rfl rfl ?_
 simp only [Act.put, pu]
 refine pw_loadm (by rfl) 29 _ rfl _ (0) rfl r3.r (msC (d.kd : Nat) (d.op : Nat) d.key (d.sq : Nat) (d.cl : Nat) d.dg a1 (nX d.X) c1 a2 d.ys.length c2) (part_all _) _ Try.underlying29 rfl size_ms ?_
 simp only [Act.put, pu]
 refine pw_callB (by rfl) 11 _ _ rfl Try.func11 (by kernel_rfl) #[.agg (msC (d.kd : Nat) (d.op : Nat) d.key (d.sq : Nat) (d.cl : Nat) d.dg a1 (nX d.X) c1 a2 d.ys.length c2)] rfl _ (cC _ sb) ?_
 intro z1010 k
 simp only [Act.put, pu]
 replace r3 := k.row r3 (by simp <;> omega)
 replace sb := sb.trans (k.below w.heap.size sb.size (by simp <;> omega))
 clear k
 refine pw_value (by rfl) (.bool false) (exec_neq_k .i64 _ _ _ _ rfl (0) (0) rfl rfl false (by decide)) ?_
 simp only [Act.put, pu]
 refine pw_pick (by rfl) false (v := .bool false) rfl rfl rfl ?_
 simp only [Act.put, pu]
 refine pw_nil ?_
 (repeat ((fail_if_success with_reducible refine rg ?_); go_step))
 refine wp_region_pw ?_
 refine pw_loadm (by rfl) 29 _ rfl _ (0) rfl r3.r (msC (d.kd : Nat) (d.op : Nat) d.key (d.sq : Nat) (d.cl : Nat) d.dg a1 (nX d.X) c1 a2 d.ys.length c2) (part_all _) _ Try.underlying29 rfl size_ms ?_
 simp only [Act.put, pu]
 refine pw_callB (by rfl) 8 _ _ rfl Try.func8 (by kernel_rfl) #[.agg (msC (d.kd : Nat) (d.op : Nat) d.key (d.sq : Nat) (d.cl : Nat) d.dg a1 (nX d.X) c1 a2 d.ys.length c2)] rfl _ (cP _ sb) ?_
 intro z3001 k
 simp only [Act.put, pu]
 replace r3 := k.row r3 (by simp <;> omega)
 replace sb := sb.trans (k.below w.heap.size sb.size (by simp <;> omega))
 clear k
 refine pw_mv (by rfl) rfl rfl ?_
 simp only [Act.put, pu]
 refine pw_ext (by rfl) rfl rfl rfl ?_
 simp only [Act.put, pu]
 refine pw_ext (by rfl) rfl rfl rfl ?_
 simp only [Act.put, pu]
 refine pw_as (by rfl) rfl rfl ?_
 simp only [Act.put, pu]
 refine pw_as (by rfl) rfl rfl ?_
 simp only [Act.put, pu]
 refine pw_nil ?_
 (repeat ((fail_if_success with_reducible refine rg ?_); go_step))
 refine wp_region_pw ?_
 refine pw_mv (by rfl) rfl rfl ?_
 simp only [Act.put, pu]
 refine pw_callE (by rfl) 6 _ _ rfl Try.func6 (by kernel_rfl) #[.string ⟨S.toArray⟩] rfl (wtk_yes S d _ hS4 htz) ?_
 rintro _ z4001 ⟨b1, e1, b2, e2, rfl, hI, hb⟩
 refine ⟨_, rfl, ?_⟩
 simp only [Act.put, pu]
 have k := Kept.ofBelow hb
 clear hb
 replace r3 := k.row r3 (by simp <;> omega)
 replace sb := sb.trans (k.below w.heap.size sb.size (by simp <;> omega))
 clear k
 have cb := sbmk z4001
 refine pw_mv (by rfl) rfl rfl ?_
 simp only [Act.put, pu]
 refine pw_ext (by rfl) rfl rfl rfl ?_
 simp only [Act.put, pu]
 refine pw_ext (by rfl) rfl rfl rfl ?_
 simp only [Act.put, pu]
 refine pw_new (by rfl) 29 rfl _ zero_ms ?_
 intro g9 z4005 n0 r9 k
 simp only [Act.put, pu]
 have d3x9 := Nat.lt_of_lt_of_le r3.lt n0
 have bcbx9 := Nat.le_trans cb.size n0
 have b9 := Nat.le_trans sb.size n0
 clear n0
 replace r3 := k.row r3 (by simp <;> omega)
 replace hI := hI.on k (by simp <;> omega)
 replace cb := cb.trans (k.below _ cb.size (by simp <;> omega))
 replace sb := sb.trans (k.below w.heap.size sb.size (by simp <;> omega))
 clear k
 refine pw_put (by rfl) 29 _ _ rfl _ rfl r9 (msC (d.kd : Nat) (d.op : Nat) d.key (d.sq : Nat) (d.cl : Nat) d.dg b1 (nX d.X) e1 b2 d.ys.length e2) rfl (by exact size_ms) (by rfl) (ms_one _ _ _ _ _ _ _ _ _ _ _ _) ?_
 clear r9
 intro z4006 r9 k
 simp only [Act.put]
 replace r3 := k.row r3 (by simp <;> omega)
 replace hI := hI.on k (by simp <;> omega)
 replace cb := cb.trans (k.below _ cb.size (by simp <;> omega))
 replace sb := sb.trans (k.below w.heap.size sb.size (by simp <;> omega))
 clear k
 refine pw_as (by rfl) rfl rfl ?_
 simp only [Act.put, pu]
 refine pw_nil ?_
 (repeat ((fail_if_success with_reducible refine rg ?_); go_step))
 refine wp_region_pw ?_
 refine pw_mv (by rfl) rfl rfl ?_
 simp only [Act.put, pu]
 refine pw_value (by rfl) (.bool false) (exec_neq_k .i64 _ _ _ _ rfl (0) (0) rfl rfl false (by decide)) ?_
 simp only [Act.put, pu]
 refine pw_mv (by rfl) rfl rfl ?_
 simp only [Act.put, pu]
 refine pw_mv (by rfl) rfl rfl ?_
 simp only [Act.put, pu]
 refine pw_value (by rfl) (.bool false) (exec_neq_k .i64 _ _ _ _ rfl (0) (0) rfl rfl false (by decide)) ?_
 simp only [Act.put, pu]
 refine pw_pick (by rfl) false (v := .bool false) rfl rfl rfl ?_
 simp only [Act.put, pu]
 refine pw_mv (by rfl) rfl rfl ?_
 simp only [Act.put, pu]
 refine pw_loadm (by rfl) 29 _ rfl _ (0) rfl r9.r (msC (d.kd : Nat) (d.op : Nat) d.key (d.sq : Nat) (d.cl : Nat) d.dg b1 (nX d.X) e1 b2 d.ys.length e2) (part_all _) _ Try.underlying29 rfl size_ms ?_
 simp only [Act.put, pu]
 refine pw_loadm (by rfl) 29 _ rfl _ (0) rfl r3.r (msC (d.kd : Nat) (d.op : Nat) d.key (d.sq : Nat) (d.cl : Nat) d.dg a1 (nX d.X) c1 a2 d.ys.length c2) (part_all _) _ Try.underlying29 rfl size_ms ?_
 simp only [Act.put, pu]
 refine pw_callB (by rfl) 9 _ _ rfl Try.func9 (by kernel_rfl) #[.agg (msC (d.kd : Nat) (d.op : Nat) d.key (d.sq : Nat) (d.cl : Nat) d.dg b1 (nX d.X) e1 b2 d.ys.length e2), .agg (msC (d.kd : Nat) (d.op : Nat) d.key (d.sq : Nat) (d.cl : Nat) d.dg a1 (nX d.X) c1 a2 d.ys.length c2)] rfl _ (dsame_any d b1 e1 b2 e2 a1 c1 a2 c2 _ hm hI.self (hin.below sb)) ?_
 intro z5009 k
 simp only [Act.put, pu]
 replace r3 := k.row r3 (by simp <;> omega)
 replace r9 := k.row r9 (by simp <;> omega)
 replace sb := sb.trans (k.below w.heap.size sb.size (by simp <;> omega))
 clear k
 refine pw_value (by rfl) (.bool false) (exec_not _ _ rfl true rfl) ?_
 simp only [Act.put, pu]
 refine pw_pick (by rfl) false (v := .bool false) rfl rfl rfl ?_
 simp only [Act.put, pu]
 refine pw_mv (by rfl) rfl rfl ?_
 simp only [Act.put, pu]
 refine pw_mv (by rfl) rfl rfl ?_
 simp only [Act.put, pu]
 refine pw_value (by rfl) (.int .i64 (S.length : Nat)) (y_lenS _ _ rfl S rfl Try.underlying9) ?_
 simp only [Act.put, pu]
 refine pw_value (by rfl) (.bool false) (x_eqI _ _ _ _ rfl .i64 (S.length : Nat) 0 rfl rfl false (decide_eq_false (by omega))) ?_
 simp only [Act.put, pu]
 refine pw_pick (by rfl) false (v := .bool false) rfl rfl rfl ?_
 simp only [Act.put, pu]
 refine pw_nil ?_
 (repeat ((fail_if_success with_reducible refine rg ?_); go_step))
 refine wp_region_pw ?_
 refine pw_mv (by rfl) rfl rfl ?_
 simp only [Act.put, pu]
 refine pw_mv (by rfl) rfl rfl ?_
 simp only [Act.put, pu]
 refine pw_value (by rfl) (.int .i64 (c : Nat)) (x_and16 _ _ _ _ rfl a0 c hc rfl rfl) ?_
 simp only [Act.put, pu]
 refine pw_mv (by rfl) rfl rfl ?_
 simp only [Act.put, pu]
 refine pw_value (by rfl) (.int .i64 (S.length : Nat)) (y_lenS _ _ rfl S rfl Try.underlying9) ?_
 simp only [Act.put, pu]
 refine pw_value (by rfl) (.int .i64 ((c % S.length : Nat) : Int)) (exec_rem_i _ _ _ _ rfl c S.length rfl rfl hpos) ?_
 simp only [Act.put, pu]
 refine pw_value (by rfl) (.string ⟨(S.take (c % S.length)).toArray⟩) (y_upto _ _ _ Try.underlying9 rfl S (c % S.length) rfl rfl (Nat.le_of_lt hcl)) ?_
 simp only [Act.put, pu]
 refine pw_callB (by rfl) 6 _ _ rfl Try.func6 (by kernel_rfl) #[.string ⟨(S.take (c % S.length)).toArray⟩] rfl _ (wtk_no _ _ hS5 hcut) ?_
 intro z7007 k
 simp only [Act.put, pu]
 replace sb := sb.trans (k.below w.heap.size sb.size (by simp <;> omega))
 clear k
 refine pw_mv (by rfl) rfl rfl ?_
 simp only [Act.put, pu]
 refine pw_ext (by rfl) rfl rfl rfl ?_
 simp only [Act.put, pu]
 refine pw_ext (by rfl) rfl rfl rfl ?_
 simp only [Act.put, pu]
 refine pw_new (by rfl) 29 rfl _ zero_ms ?_
 intro g11 z7011 n0 r11 k
 simp only [Act.put, pu]
 have b11 := Nat.le_trans sb.size n0
 clear n0
 replace sb := sb.trans (k.below w.heap.size sb.size (by simp <;> omega))
 clear k
 refine pw_put (by rfl) 29 _ _ rfl _ rfl r11 (msC 0 0 [] 0 0 [] none 0 0 none 0 0) rfl (by exact size_ms) (by rfl) (ms_one _ _ _ _ _ _ _ _ _ _ _ _) ?_
 clear r11
 intro z7012 r11 k
 simp only [Act.put]
 replace sb := sb.trans (k.below w.heap.size sb.size (by simp <;> omega))
 clear k
 refine pw_as (by rfl) rfl rfl ?_
 simp only [Act.put, pu]
 refine pw_nil ?_
 (repeat ((fail_if_success with_reducible refine rg ?_); go_step))
 refine wp_region_pw ?_
 refine pw_mv (by rfl) rfl rfl ?_
 simp only [Act.put, pu]
 refine pw_mv (by rfl) rfl rfl ?_
 simp only [Act.put, pu]
 refine pw_value (by rfl) (.string ⟨(S ++ b).toArray⟩) (yx_cat _ _ _ _ rfl S b rfl rfl (by omega)) ?_
 simp only [Act.put, pu]
 refine pw_callB (by rfl) 6 _ _ rfl Try.func6 (by kernel_rfl) #[.string ⟨(S ++ b).toArray⟩] rfl _ (wtk_no _ _ hS6 hmore) ?_
 intro z8003 k
 simp only [Act.put, pu]
 replace sb := sb.trans (k.below w.heap.size sb.size (by simp <;> omega))
 clear k
 refine pw_mv (by rfl) rfl rfl ?_
 simp only [Act.put, pu]
 refine pw_ext (by rfl) rfl rfl rfl ?_
 simp only [Act.put, pu]
 refine pw_ext (by rfl) rfl rfl rfl ?_
 simp only [Act.put, pu]
 refine pw_new (by rfl) 29 rfl _ zero_ms ?_
 intro g13 z8007 n0 r13 k
 simp only [Act.put, pu]
 have b13 := Nat.le_trans sb.size n0
 clear n0
 replace sb := sb.trans (k.below w.heap.size sb.size (by simp <;> omega))
 clear k
 refine pw_put (by rfl) 29 _ _ rfl _ rfl r13 (msC 0 0 [] 0 0 [] none 0 0 none 0 0) rfl (by exact size_ms) (by rfl) (ms_one _ _ _ _ _ _ _ _ _ _ _ _) ?_
 clear r13
 intro z8008 r13 k
 simp only [Act.put]
 replace sb := sb.trans (k.below w.heap.size sb.size (by simp <;> omega))
 clear k
 refine pw_as (by rfl) rfl rfl ?_
 simp only [Act.put, pu]
 refine pw_nil ?_
 (repeat ((fail_if_success with_reducible refine rg ?_); go_step))
 refine wp_region_pw ?_
 refine pw_mv (by rfl) rfl rfl ?_
 simp only [Act.put, pu]
 refine pw_value (by rfl) (.bool true) (x_eqI _ _ _ _ rfl .i64 4 4 rfl rfl true rfl) ?_
 simp only [Act.put, pu]
 refine pw_mv (by rfl) rfl rfl ?_
 simp only [Act.put, pu]
 refine pw_mv (by rfl) rfl rfl ?_
 simp only [Act.put, pu]
 refine pw_value (by rfl) (.bool false) (x_eqI _ _ _ _ rfl .i64 4 0 rfl rfl false rfl) ?_
 simp only [Act.put, pu]
 refine pw_mv (by rfl) rfl rfl ?_
 simp only [Act.put, pu]
 refine pw_value (by rfl) (.bool false) (y_eqS _ _ _ _ rfl b [] rfl rfl false hbe) ?_
 simp only [Act.put, pu]
 refine pw_value (by rfl) (.bool true) (x_eqbb _ _ _ _ rfl false rfl rfl Try.underlying4) ?_
 simp only [Act.put, pu]
 refine pw_pick (by rfl) true (v := .bool true) rfl rfl rfl ?_
 simp only [Act.put, pu]
 refine pw_mv (by rfl) rfl rfl ?_
 simp only [Act.put, pu]
 refine pw_callB (by rfl) 5 _ _ rfl Try.func5 (by kernel_rfl) #[] rfl _ (awake18_any _) ?_
 intro z9010 k
 simp only [Act.put, pu]
 replace sb := sb.trans (k.below w.heap.size sb.size (by simp <;> omega))
 clear k
 refine pw_pick (by rfl) true (v := .bool true) rfl rfl rfl ?_
 simp only [Act.put, pu]
 refine pw_as (by rfl) rfl rfl ?_
 simp only [Act.put, pu]
 refine pw_nil ?_
 go_wp2
 go_ret
 exact ⟨rfl, sb⟩
theorem walk (kd op : Int) (key : List UInt8) (sq cl : Int) (dg : List UInt8) (a1 : Option Addr) (n c1 : Nat) (a2 : Option Addr) (m c2 : Nat) (N : Nat → Nat) (M : Nat → Nat → Nat) (Y : Nat → Nat) (a0 : Int) (s : ByteArray) (w : World) (hM : MtA w a1 n N M) (hY : YsA w a2 m Y) (_ : -9223372036854775808 ≤ a0 ∧ a0 ≤ 9223372036854775807) (hs : s.size ≤ maxLen) :
  Calls Try.prog 4 #[.agg (msC kd op key sq cl dg a1 n c1 a2 m c2), .int .i64 a0, .string s] w fun e w' => e = .returned (.bool true) ∧ Below w.heap.size w w' := by
 obtain ⟨⟨b⟩⟩ := s
 have hbl : b.length < 9223372036854775808 := by
  have : (⟨b.toArray⟩ : ByteArray).size = b.length := by simp [ByteArray.size]
  have h2 : (⟨⟨b⟩⟩ : ByteArray).size ≤ maxLen := hs
  have h3 : (⟨⟨b⟩⟩ : ByteArray).size = b.length := by simp [ByteArray.size]
  unfold maxLen at h2
  omega
 have cF := fun w' (hb : Below w.heap.size w w') => rFew_any kd op key sq cl dg a1 n c1 a2 m c2 N M w' (hM.below hb)
 cases hf : fwB key dg n N m with
 | false =>
  rw [hf] at cF
  exact core0 kd op key sq cl dg a1 n c1 a2 m c2 a0 b w cF
 | true =>
  rw [hf] at cF
  by_cases hb : 9 < b.length
  ·exact core1 kd op key sq cl dg a1 n c1 a2 m c2 a0 b w hb hbl cF
  obtain ⟨f1, f2, f3, f4⟩ := fwB_is hf
  have hn : n < 4611686018427387904 := by omega
  have hkl : key.length < 9223372036854775808 := by omega
  have cP := fun w' (hb : Below w.heap.size w w') => wPut_any kd op key sq cl dg a1 n c1 a2 m c2 N M Y w' hkl hn (hM.below hb) (hY.below hb)
  have cC := fun w' (hb : Below w.heap.size w w') => wCheck_any kd op key sq cl dg a1 n c1 a2 m c2 N M w' hkl hn (hM.below hb)
  cases hW : wmB kd op key sq cl dg (brB n m) (dlB n m (xmB n N M)) with
  | false =>
   rw [hW] at cC
   exact core2 kd op key sq cl dg a1 n c1 a2 m c2 a0 b w (by omega) cF cC
  | true =>
   rw [hW] at cC cP
   obtain ⟨d, S, hS, htz, hl, hpos, F⟩ := bk_facts (mtA_lt hM) (ysA_lt hY) hW
   rw [hS] at cP
   have hpb : ptB true S = true := by unfold ptB; rw [decide_eq_true hl]; rfl
   rw [show ptT true S = S by unfold ptT; rw [hpb]; rfl, hpb] at cP
   have hin : InM w d a1 a2 := ⟨by rw [F.fn]; exact mtA_congr hM F.fN F.fM, by rw [F.fm]; exact ysA_congr hY F.fY⟩
   have hms : msC kd op key sq cl dg a1 n c1 a2 m c2 = msC (d.kd : Nat) (d.op : Nat) d.key (d.sq : Nat) (d.cl : Nat) d.dg a1 (nX d.X) c1 a2 d.ys.length c2 := by rw [F.fkd, F.fop, F.fkey, F.fsq, F.fcl, F.fdg, F.fn, F.fm]
   rw [hms] at cF cC cP ⊢
   obtain ⟨c, _, hc⟩ := and16 a0
   have hm : d.ys.length < 9223372036854775808 := by rw [F.fm]; omega
   by_cases hbe : b = []
   ·exact core3 d a1 c1 a2 c2 a0 b S c w (by omega) hin hm hl hpos htz hc (decide_eq_true hbe) (by rw [hbe, List.append_nil]; exact htz) cF cC cP
   ·exact core4 d a1 c1 a2 c2 a0 b S c w (by omega) hin hm hl hpos htz hc (decide_eq_false hbe) (bk_more htz hbe) cF cC cP
set_option maxRecDepth 100000 in
theorem lifted (os : Os) (started : os.Started) (H : Type) (enc : TypeId × Value → H) :
  ReturnsInHanded {} Try.checked os 4 .any (Rows.wireBackSpec.pre6 enc Try.prog Try.f4 Rows.wireBackRow.domain false) (Rows.wireBackSpec.post enc Try.prog Try.f4 false true false false) := by
 refine returnsInHanded_of_change (C := Try.checked) own started (by kernel_rfl) Try.func4
  (ChangeSpec.witness6 (enc := enc) (C := Try.checked) false ⟨#[], #[.agg #[.int .i64 0, .int .i64 0, .string ⟨#[]⟩, .int .i64 0, .int .i64 0, .string ⟨#[]⟩, .slice none 0 0, .slice none 0 0], .int .i64 0, .string ⟨#[]⟩], []⟩ 8 (by kernel_rfl) (by kernel_rfl) (by kernel_rfl) (by kernel_rfl)) ?_
 intro W base args ds gs before hval0 hW hcnd _
 have hval : ∀ (j : Nat) t v, Try.f4.params[j]? = some t → args[j]? = some v → Value.okWide Try.prog W .any base t v := hval0
 have hW' := hW
 obtain ⟨p, q, hA0, hV, rfl, hfz, hnd⟩ := hW
 have hA : DataW.TrodAll enc Try.prog W 0 (fun _ => true) true Try.f4.params.toList args.toList ds p := hA0
 rw [Try.params4] at hA hval
 obtain ⟨v0, vs0, d0, ds0, p0, q0, hargs, rfl, rfl, h0, r0⟩ := trodAll_cons hA
 obtain ⟨v1, vs1, d1, ds1, p1, q1, rfl, rfl, rfl, h1, r1⟩ := trodAll_cons r0
 obtain ⟨v2, vs2, d2, ds2, p2, q2, rfl, rfl, rfl, h2, r2⟩ := trodAll_cons r1
 obtain ⟨rfl, rfl, rfl⟩ := trodAll_nil r2
 obtain rfl : args = #[v0, v1, v2] := by cases args; simp_all
 obtain ⟨rfl, rfl⟩ := trodVars_none hV
 have k0 := h0
 have lt0 := lt_of_trod h0
 obtain ⟨kd0, op0, key0, sq0, cl0, dg0, aa0, n0, ca0, ab0, m0, cb0, N0, M0, Y0, rfl, hm0, hy0⟩ := open_msg (hval 0 29 v0 rfl rfl) h0
 have k1 := h1
 have lt1 := lt_of_trod h1
 obtain ⟨a1, rfl, rfl, rfl, w1⟩ := open_int Try.underlying3 (hval 1 3 v1 rfl rfl) h1
 have k2 := h2
 have lt2 := lt_of_trod h2
 obtain ⟨s2, rfl, rfl, rfl, w2⟩ := open_string Try.underlying9 (hval 2 9 v2 rfl rfl) h2
 clear hA0 hval0
 refine (walk kd0 op0 key0 sq0 cl0 dg0 aa0 n0 ca0 ab0 m0 cb0 N0 M0 Y0 a1 s2 W hm0 hy0 (bounds_i64 w1) w2).mono fun e W' ⟨he, bel⟩ => ?_
 subst he
 exact ⟨_, rfl, _, _, _, [], _, [], hW', trodAll_mk1 (shut_bool Try.underlying4 _), (trodAll_cons_mk (Below.trod laidOut (by kernel_rfl) (of_decide_eq_true (by kernel_rfl)) k0 bel lt0) (trodAll_cons_mk (Below.trod laidOut (by kernel_rfl) (of_decide_eq_true (by kernel_rfl)) k1 bel lt1) (trodAll_cons_mk (Below.trod laidOut (by kernel_rfl) (of_decide_eq_true (by kernel_rfl)) k2 bel lt2) trodAll_mk0))), rfl, bel.frame _, fun h => by cases h⟩
theorem over : Rows.wireBackRow.holds Try.pinned (OpenSpec.ofChange Rows.wireBackSpec) :=
 OpenClaim.holds_of_wide 4 Try.f4 rfl rfl rfl rfl rfl rfl rfl ⟨rfl, rfl, rfl, rfl, rfl⟩ rfl rfl rfl rfl rfl (by kernel_rfl) Try.func4 (by kernel_rfl)
  (of_decide_eq_true (by kernel_rfl)) (by unfold Func.isWrapper; first | (rw [if_pos (by decide +kernel)]; kernel_rfl) | (rw [if_neg (by decide +kernel)]; exact ⟨rfl, rfl⟩))
  (fun os started H enc _ => lifted os started H enc)
end Go.Proofs.Ytojobffihlmfgaa.wireBackP
namespace Go.Proofs.Ytojobffihlmfgaa
/-- For every message, any place, any bytes: what is put is taken as it was; cut anywhere, or with more behind, it is none; no condition. -/
theorem wireBack_holds : Rows.WireBackSaid := wireBackP.over
end Go.Proofs.Ytojobffihlmfgaa
