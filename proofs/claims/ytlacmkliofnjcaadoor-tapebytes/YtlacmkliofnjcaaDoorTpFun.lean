/- tape's functions; strings.TrimLeft where it leaves noughts out. -/
import Derived.Test.YtlacmkliofnjcaaDoorTpMath
import Derived.Test.YtlacmkliofnjcaaDoorYText
import Derived.Test.YtlacmkliofnjcaaDoorYOwnM
import Derived.Test.YtlacmkliofnjcaaDoorNTake
import Derived.Test.YtlacmkliofnjcaaDoorGW
import Derived.Test.YtlacmkliofnjcaaDoorFA
namespace Go.Proofs.YtlacmkliofnjcaaDoor
open Go.RowKit
set_option linter.unusedVariables false
theorem sbmk (w : World) : Below w.heap.size w w := Below.refl _ _
/-- The cells of a tape. -/
def tpC (m : Bool) (s : List UInt8) : Array Value := #[.bool m, .string ⟨s.toArray⟩]
theorem tp_one (m : Bool) (s : List UInt8) : (tpC m s).all (·.oneCell') = true := by simp [tpC, Value.oneCell']
theorem info_tp : (Tryd.prog.info? 62).map (fun i => (i.zero, i.size)) = some (some (.agg (tpC false [])), 2) := by kernel_rfl
theorem zero_tp (w : World) : (zeroValue 62).run Tryd.prog w = .ok (.agg (tpC false [])) w := (zero_of_info info_tp).1 w
theorem size_tp : (Tryd.prog.info? 62).map (·.size) = some 2 := (zero_of_info info_tp).2
theorem built_tp0 : Tryd.prog.built 62 [] = some (tpC false []) := by kernel_rfl
theorem built_tp (s : List UInt8) : Tryd.prog.built 62 [(0, .bool true), (1, .string ⟨s.toArray⟩)] = some (tpC true s) := by
 unfold tpC
 generalize (⟨s.toArray⟩ : ByteArray) = b
 kernel_rfl
theorem tp_put (m : Bool) (s u : List UInt8) : (tpC m s).setIfInBounds 1 (.string ⟨u.toArray⟩) = tpC m u := rfl
theorem size1tstring : (Tryd.prog.info? 9).map (·.size) = some 1 := by kernel_rfl
theorem ptr_tp : Tryd.prog.underlying 24 = some (.pointer (Tryd.prog.pointee 24)) := by kernel_rfl
theorem tp_lt8 {P : Program} {o : Oper} {ρ : Operand → Value} (t : TypeId) (x y : Operand) (u : TypeId) (ho : o.op = .binOp .lss t x y u) (n m : Int) (hx : ρ x = .int .u8 n) (hy : ρ y = .int .u8 m) (b : Bool) (hb : decide (n < m) = b) (w : World) :
  (execOp ρ o).run P w = .ok (.value (.bool b)) w := by
 subst hb
 unfold execOp
 simp only [ho, hx, hy]
 simp [go_sem]
/-- A tape that New did not give: nil, or one without the mark. -/
def TpAt (w : World) (v : Option Addr) (m : Bool) (s : List UInt8) : Prop := (v = none ∧ m = false) ∨ ∃ g, v = some ⟨g, 0, none⟩ ∧ Row w g (tpC m s) 62
theorem TpAt.below {w w' : World} {v : Option Addr} {m : Bool} {s : List UInt8} (h : TpAt w v m s) (hb : Below w.heap.size w w') : TpAt w' v m s := h.imp id fun ⟨g, h1, h2⟩ => ⟨g, h1, h2.belowAll hb⟩
set_option maxRecDepth 100000 in
set_option maxHeartbeats 2000000 in
theorem isMade_nil (w : World) :
  Calls Tryd.prog 24 #[.pointer none] w fun e w' => e = .returned (.bool false) ∧ Below w.heap.size w w' := by
 go_enter Tryd.func24, Tryd.ntmps24
 have sb := sbmk w
 (repeat ((fail_if_success with_reducible refine rg ?_); go_step))
 refine wp_region_pw ?_
 refine pw_value (by rfl) (.bool false) (fun _ => rfl) ?_
 simp only [Act.put, pu]
 refine pw_nil ?_
 (repeat ((fail_if_success with_reducible refine rg ?_); go_step))
 refine wp_region_pw ?_
 refine pw_mv (by rfl) rfl rfl ?_
 simp only [Act.put, pu]
 refine pw_value (by rfl) (.bool false) (exec_neq_nilp _ _ _ _ rfl none rfl rfl ptr_tp) ?_
 simp only [Act.put, pu]
 refine pw_mv (by rfl) rfl rfl ?_
 simp only [Act.put, pu]
 refine pw_skip (by rfl) ?_
 simp only [Act.put, pu]
 refine pw_skip (by rfl) ?_
 simp only [Act.put, pu]
 refine pw_skip (by rfl) ?_
 simp only [Act.put, pu]
 refine pw_skip (by rfl) ?_
 simp only [Act.put, pu]
 refine pw_pick (by rfl) false (v := .bool false) rfl rfl rfl ?_
 simp only [Act.put, pu]
 refine pw_as (by rfl) rfl rfl ?_
 simp only [Act.put, pu]
 refine pw_nil ?_
 go_wp2
 go_ret
 exact ⟨rfl, sb⟩
set_option maxRecDepth 100000 in
set_option maxHeartbeats 2000000 in
theorem isMade_at (g0 : Nat) (m : Bool) (s : List UInt8) (w : World) (r0 : Row w g0 (tpC m s) 62) :
  Calls Tryd.prog 24 #[.pointer (some ⟨g0, 0, none⟩)] w fun e w' => e = .returned (.bool m) ∧ Below w.heap.size w w' := by
 go_enter Tryd.func24, Tryd.ntmps24
 have sb := sbmk w
 (repeat ((fail_if_success with_reducible refine rg ?_); go_step))
 refine wp_region_pw ?_
 refine pw_value (by rfl) (.bool false) (fun _ => rfl) ?_
 simp only [Act.put, pu]
 refine pw_nil ?_
 (repeat ((fail_if_success with_reducible refine rg ?_); go_step))
 refine wp_region_pw ?_
 refine pw_mv (by rfl) rfl rfl ?_
 simp only [Act.put, pu]
 refine pw_value (by rfl) (.bool true) (exec_neq_nilp _ _ _ _ rfl (some ⟨g0, 0, none⟩) rfl rfl ptr_tp) ?_
 simp only [Act.put, pu]
 refine pw_mv (by rfl) rfl rfl ?_
 simp only [Act.put, pu]
 refine pw_mv (by rfl) rfl rfl ?_
 simp only [Act.put, pu]
 refine pw_value (by rfl) (.pointer (some ⟨g0, 0, none⟩)) (exec_nil _ rfl g0 0 rfl) ?_
 simp only [Act.put, pu]
 refine pw_value (by rfl) (.pointer (some ⟨g0, 0, none⟩)) (exec_field 62 _ 0 rfl g0 0 rfl _ Tryd.underlying62 _ rfl 0 Tryd.sizeOf4) ?_
 simp only [Act.put, pu]
 refine pw_loadk (by rfl) 4 _ rfl _ (0) rfl r0.r (.bool m) rfl Tryd.isAgg4 ?_
 simp only [Act.put, pu]
 refine pw_pick (by rfl) true (v := .bool m) rfl rfl rfl ?_
 simp only [Act.put, pu]
 refine pw_as (by rfl) rfl rfl ?_
 simp only [Act.put, pu]
 refine pw_nil ?_
 go_wp2
 go_ret
 exact ⟨rfl, sb⟩
theorem isMade_any (v : Option Addr) (m : Bool) (s : List UInt8) (w : World) (h : TpAt w v m s) :
  Calls Tryd.prog 24 #[.pointer v] w fun e w' => e = .returned (.bool m) ∧ Below w.heap.size w w' := by
 rcases h with ⟨rfl, rfl⟩ | ⟨g, rfl, hr⟩
 ·exact isMade_nil w
 ·exact isMade_at g m s w hr
set_option maxRecDepth 100000 in
set_option maxHeartbeats 2000000 in
theorem tnew_big (s : List UInt8) (w : World) (h : 65536 < s.length) :
  Calls Tryd.prog 8 #[.string ⟨(s).toArray⟩] w fun e w' => e = .returned (.tuple #[.pointer none, .int .i64 2]) ∧ Below w.heap.size w w' := by
 go_enter Tryd.func8, Tryd.ntmps8
 have sb := sbmk w
 (repeat ((fail_if_success with_reducible refine rg ?_); go_step))
 refine wp_region_pw ?_
 refine pw_value (by rfl) (.pointer none) (fun _ => rfl) ?_
 simp only [Act.put, pu]
 refine pw_value (by rfl) (.int .i64 0) (fun _ => rfl) ?_
 simp only [Act.put, pu]
 refine pw_nil ?_
 (repeat ((fail_if_success with_reducible refine rg ?_); go_step))
 refine wp_region_pw ?_
 refine pw_mv (by rfl) rfl rfl ?_
 simp only [Act.put, pu]
 refine pw_value (by rfl) (.int .i64 s.length) (y_lenS _ _ rfl s rfl Tryd.underlying9) ?_
 simp only [Act.put, pu]
 refine pw_value (by rfl) (.bool true) (exec_gt_i _ _ _ _ rfl s.length 65536 rfl rfl true (decide_eq_true (by omega))) ?_
 simp only [Act.put, pu]
 refine pw_nil ?_
 (repeat ((fail_if_success with_reducible refine rg ?_); go_step))
 refine wp_region_pw ?_
 refine pw_value (by rfl) (.pointer none) (fun _ => rfl) ?_
 simp only [Act.put, pu]
 refine pw_value (by rfl) (.int .i64 2) (fun _ => rfl) ?_
 simp only [Act.put, pu]
 refine pw_nil ?_
 go_wp2
 go_ret2
 exact ⟨rfl, sb⟩
set_option maxRecDepth 100000 in
set_option maxHeartbeats 2000000 in
theorem tnew_ok (s : List UInt8) (w : World) (h : s.length ≤ 65536) :
  Calls Tryd.prog 8 #[.string ⟨(s).toArray⟩] w fun e w' => ∃ g, e = .returned (.tuple #[.pointer (some ⟨g, 0, none⟩), .int .i64 0]) ∧ w.heap.size ≤ g ∧ Row w' g (tpC true s) 62 ∧ Below w.heap.size w w' := by
 go_enter Tryd.func8, Tryd.ntmps8
 have sb := sbmk w
 (repeat ((fail_if_success with_reducible refine rg ?_); go_step))
 refine wp_region_pw ?_
 refine pw_value (by rfl) (.pointer none) (fun _ => rfl) ?_
 simp only [Act.put, pu]
 refine pw_value (by rfl) (.int .i64 0) (fun _ => rfl) ?_
 simp only [Act.put, pu]
 refine pw_nil ?_
 (repeat ((fail_if_success with_reducible refine rg ?_); go_step))
 refine wp_region_pw ?_
 refine pw_mv (by rfl) rfl rfl ?_
 simp only [Act.put, pu]
 refine pw_value (by rfl) (.int .i64 s.length) (y_lenS _ _ rfl s rfl Tryd.underlying9) ?_
 simp only [Act.put, pu]
 refine pw_value (by rfl) (.bool false) (exec_gt_i _ _ _ _ rfl s.length 65536 rfl rfl false (decide_eq_false (by omega))) ?_
 simp only [Act.put, pu]
 refine pw_nil ?_
 (repeat ((fail_if_success with_reducible refine rg ?_); go_step))
 refine wp_region_pw ?_
 refine pw_mv (by rfl) rfl rfl ?_
 simp only [Act.put, pu]
 refine pw_value (by rfl) (.agg (tpC true s)) (exec_buildv _ [_, _] rfl _ rfl _ (built_tp s)) ?_
 simp only [Act.put, pu]
 refine pw_boxr (by rfl) 62 _ rfl (_) rfl ?_
 intro g9 z3002 n0 r9 k
 simp only [Act.put, pu]
 have b9 := Nat.le_trans sb.size n0
 clear n0
 replace sb := sb.trans (k.below w.heap.size sb.size (by simp <;> omega))
 clear k
 refine pw_as (by rfl) rfl rfl ?_
 simp only [Act.put, pu]
 refine pw_value (by rfl) (.int .i64 0) (fun _ => rfl) ?_
 simp only [Act.put, pu]
 refine pw_nil ?_
 go_wp2
 go_ret2
 exact ⟨g9, rfl, b9, r9, sb⟩
set_option maxRecDepth 100000 in
set_option maxHeartbeats 2000000 in
theorem tleft_no (v : Option Addr) (s : List UInt8) (w : World) (h : TpAt w v false s) :
  Calls Tryd.prog 10 #[.pointer v] w fun e w' => e = .returned (.int .i64 0) ∧ Below w.heap.size w w' := by
 have him := fun w' (hb : Below w.heap.size w w') => isMade_any v false s w' (h.below hb)
 clear h
 go_enter Tryd.func10, Tryd.ntmps10
 have sb := sbmk w
 (repeat ((fail_if_success with_reducible refine rg ?_); go_step))
 refine wp_region_pw ?_
 refine pw_value (by rfl) (.int .i64 0) (fun _ => rfl) ?_
 simp only [Act.put, pu]
 refine pw_nil ?_
 (repeat ((fail_if_success with_reducible refine rg ?_); go_step))
 refine wp_region_pw ?_
 refine pw_mv (by rfl) rfl rfl ?_
 simp only [Act.put, pu]
 refine pw_callB (by rfl) 24 _ _ rfl Tryd.func24 (by kernel_rfl) #[.pointer v] rfl _ (him _ sb) ?_
 intro z1001 k
 simp only [Act.put, pu]
 replace sb := sb.trans (k.below w.heap.size sb.size (by simp <;> omega))
 clear k
 refine pw_value (by rfl) (.bool true) (exec_not _ _ rfl false rfl) ?_
 simp only [Act.put, pu]
 refine pw_nil ?_
 (repeat ((fail_if_success with_reducible refine rg ?_); go_step))
 refine wp_region_pw ?_
 refine pw_value (by rfl) (.int .i64 0) (fun _ => rfl) ?_
 simp only [Act.put, pu]
 refine pw_nil ?_
 go_wp2
 go_ret
 exact ⟨rfl, sb⟩
set_option maxRecDepth 100000 in
set_option maxHeartbeats 2000000 in
theorem tleft_ok (g0 : Nat) (s : List UInt8) (w : World) (r0 : Row w g0 (tpC true s) 62) :
  Calls Tryd.prog 10 #[.pointer (some ⟨g0, 0, none⟩)] w fun e w' => e = .returned (.int .i64 s.length) ∧ Below w.heap.size w w' := by
 go_enter Tryd.func10, Tryd.ntmps10
 have sb := sbmk w
 (repeat ((fail_if_success with_reducible refine rg ?_); go_step))
 refine wp_region_pw ?_
 refine pw_value (by rfl) (.int .i64 0) (fun _ => rfl) ?_
 simp only [Act.put, pu]
 refine pw_nil ?_
 (repeat ((fail_if_success with_reducible refine rg ?_); go_step))
 refine wp_region_pw ?_
 refine pw_mv (by rfl) rfl rfl ?_
 simp only [Act.put, pu]
 refine pw_callB (by rfl) 24 _ _ rfl Tryd.func24 (by kernel_rfl) #[.pointer (some ⟨g0, 0, none⟩)] rfl _ (isMade_at g0 true s _ r0) ?_
 intro z1001 k
 simp only [Act.put, pu]
 replace r0 := k.row r0 (by simp <;> omega)
 replace sb := sb.trans (k.below w.heap.size sb.size (by simp <;> omega))
 clear k
 refine pw_value (by rfl) (.bool false) (exec_not _ _ rfl true rfl) ?_
 simp only [Act.put, pu]
 refine pw_nil ?_
 (repeat ((fail_if_success with_reducible refine rg ?_); go_step))
 refine wp_region_pw ?_
 refine pw_mv (by rfl) rfl rfl ?_
 simp only [Act.put, pu]
 refine pw_value (by rfl) (.pointer (some ⟨g0, 0, none⟩)) (exec_nil _ rfl g0 0 rfl) ?_
 simp only [Act.put, pu]
 refine pw_value (by rfl) (.pointer (some ⟨g0, 1, none⟩)) (exec_field 62 _ 1 rfl g0 0 rfl _ Tryd.underlying62 _ rfl 0 Tryd.sizeOf9) ?_
 simp only [Act.put, pu]
 refine pw_loadk (by rfl) 9 _ rfl _ (1) rfl r0.r (.string ⟨s.toArray⟩) rfl Tryd.isAgg9 ?_
 simp only [Act.put, pu]
 refine pw_value (by rfl) (.int .i64 s.length) (y_lenS _ _ rfl s rfl Tryd.underlying9) ?_
 simp only [Act.put, pu]
 refine pw_as (by rfl) rfl rfl ?_
 simp only [Act.put, pu]
 refine pw_nil ?_
 go_wp2
 go_ret
 exact ⟨rfl, sb⟩
set_option maxRecDepth 100000 in
set_option maxHeartbeats 2000000 in
theorem tbytes_no (v : Option Addr) (s : List UInt8) (n : Int) (w : World) (h : TpAt w v false s) :
  Calls Tryd.prog 9 #[.pointer v, .int .i64 n] w fun e w' => e = .returned (.tuple #[.string ⟨([] : List UInt8).toArray⟩, .int .i64 1]) ∧ Below w.heap.size w w' := by
 have him := fun w' (hb : Below w.heap.size w w') => isMade_any v false s w' (h.below hb)
 clear h
 go_enter Tryd.func9, Tryd.ntmps9
 have sb := sbmk w
 (repeat ((fail_if_success with_reducible refine rg ?_); go_step))
 refine wp_region_pw ?_
 refine pw_move (by rfl) (.inr rfl) rfl ?_
 simp only [Act.put, pu]
 refine pw_value (by rfl) (.int .i64 0) (fun _ => rfl) ?_
 simp only [Act.put, pu]
 refine pw_nil ?_
 (repeat ((fail_if_success with_reducible refine rg ?_); go_step))
 refine wp_region_pw ?_
 refine pw_mv (by rfl) rfl rfl ?_
 simp only [Act.put, pu]
 refine pw_callB (by rfl) 24 _ _ rfl Tryd.func24 (by kernel_rfl) #[.pointer v] rfl _ (him _ sb) ?_
 intro z1001 k
 simp only [Act.put, pu]
 replace sb := sb.trans (k.below w.heap.size sb.size (by simp <;> omega))
 clear k
 refine pw_value (by rfl) (.bool true) (exec_not _ _ rfl false rfl) ?_
 simp only [Act.put, pu]
 refine pw_mv (by rfl) rfl rfl ?_
 simp only [Act.put, pu]
 refine pw_skip (by rfl) ?_
 simp only [Act.put, pu]
 refine pw_skip (by rfl) ?_
 simp only [Act.put, pu]
 refine pw_pick (by rfl) true (v := .bool true) rfl rfl rfl ?_
 simp only [Act.put, pu]
 refine pw_nil ?_
 (repeat ((fail_if_success with_reducible refine rg ?_); go_step))
 refine wp_region_pw ?_
 refine pw_move (by rfl) (.inr rfl) rfl ?_
 simp only [Act.put, pu]
 refine pw_value (by rfl) (.int .i64 1) (fun _ => rfl) ?_
 simp only [Act.put, pu]
 refine pw_nil ?_
 go_wp2
 go_ret2
 exact ⟨rfl, sb⟩
set_option maxRecDepth 100000 in
set_option maxHeartbeats 2000000 in
theorem tbytes_neg (g0 : Nat) (s : List UInt8) (n : Int) (w : World) (hn : n < 0) (r0 : Row w g0 (tpC true s) 62) :
  Calls Tryd.prog 9 #[.pointer (some ⟨g0, 0, none⟩), .int .i64 n] w fun e w' => e = .returned (.tuple #[.string ⟨([] : List UInt8).toArray⟩, .int .i64 1]) ∧ Below w.heap.size w w' := by
 go_enter Tryd.func9, Tryd.ntmps9
 have sb := sbmk w
 (repeat ((fail_if_success with_reducible refine rg ?_); go_step))
 refine wp_region_pw ?_
 refine pw_move (by rfl) (.inr rfl) rfl ?_
 simp only [Act.put, pu]
 refine pw_value (by rfl) (.int .i64 0) (fun _ => rfl) ?_
 simp only [Act.put, pu]
 refine pw_nil ?_
 (repeat ((fail_if_success with_reducible refine rg ?_); go_step))
 refine wp_region_pw ?_
 refine pw_mv (by rfl) rfl rfl ?_
 simp only [Act.put, pu]
 refine pw_callB (by rfl) 24 _ _ rfl Tryd.func24 (by kernel_rfl) #[.pointer (some ⟨g0, 0, none⟩)] rfl _ (isMade_at g0 true s _ r0) ?_
 intro z1001 k
 simp only [Act.put, pu]
 replace r0 := k.row r0 (by simp <;> omega)
 replace sb := sb.trans (k.below w.heap.size sb.size (by simp <;> omega))
 clear k
 refine pw_value (by rfl) (.bool false) (exec_not _ _ rfl true rfl) ?_
 simp only [Act.put, pu]
 refine pw_mv (by rfl) rfl rfl ?_
 simp only [Act.put, pu]
 refine pw_mv (by rfl) rfl rfl ?_
 simp only [Act.put, pu]
 refine pw_value (by rfl) (.bool true) (exec_lt_b _ _ _ _ rfl n 0 rfl rfl true (decide_eq_true hn)) ?_
 simp only [Act.put, pu]
 refine pw_pick (by rfl) false (v := .bool true) rfl rfl rfl ?_
 simp only [Act.put, pu]
 refine pw_nil ?_
 (repeat ((fail_if_success with_reducible refine rg ?_); go_step))
 refine wp_region_pw ?_
 refine pw_move (by rfl) (.inr rfl) rfl ?_
 simp only [Act.put, pu]
 refine pw_value (by rfl) (.int .i64 1) (fun _ => rfl) ?_
 simp only [Act.put, pu]
 refine pw_nil ?_
 go_wp2
 go_ret2
 exact ⟨rfl, sb⟩
set_option maxRecDepth 100000 in
set_option maxHeartbeats 2000000 in
theorem tbytes_more (g0 : Nat) (s : List UInt8) (n : Int) (w : World) (hn : ¬ n < 0) (hm : (s.length : Int) < n) (r0 : Row w g0 (tpC true s) 62) :
  Calls Tryd.prog 9 #[.pointer (some ⟨g0, 0, none⟩), .int .i64 n] w fun e w' => e = .returned (.tuple #[.string ⟨([] : List UInt8).toArray⟩, .int .i64 5]) ∧ Below w.heap.size w w' := by
 go_enter Tryd.func9, Tryd.ntmps9
 have sb := sbmk w
 (repeat ((fail_if_success with_reducible refine rg ?_); go_step))
 refine wp_region_pw ?_
 refine pw_move (by rfl) (.inr rfl) rfl ?_
 simp only [Act.put, pu]
 refine pw_value (by rfl) (.int .i64 0) (fun _ => rfl) ?_
 simp only [Act.put, pu]
 refine pw_nil ?_
 (repeat ((fail_if_success with_reducible refine rg ?_); go_step))
 refine wp_region_pw ?_
 refine pw_mv (by rfl) rfl rfl ?_
 simp only [Act.put, pu]
 refine pw_callB (by rfl) 24 _ _ rfl Tryd.func24 (by kernel_rfl) #[.pointer (some ⟨g0, 0, none⟩)] rfl _ (isMade_at g0 true s _ r0) ?_
 intro z1001 k
 simp only [Act.put, pu]
 replace r0 := k.row r0 (by simp <;> omega)
 replace sb := sb.trans (k.below w.heap.size sb.size (by simp <;> omega))
 clear k
 refine pw_value (by rfl) (.bool false) (exec_not _ _ rfl true rfl) ?_
 simp only [Act.put, pu]
 refine pw_mv (by rfl) rfl rfl ?_
 simp only [Act.put, pu]
 refine pw_mv (by rfl) rfl rfl ?_
 simp only [Act.put, pu]
 refine pw_value (by rfl) (.bool false) (exec_lt_b _ _ _ _ rfl n 0 rfl rfl false (decide_eq_false hn)) ?_
 simp only [Act.put, pu]
 refine pw_pick (by rfl) false (v := .bool false) rfl rfl rfl ?_
 simp only [Act.put, pu]
 refine pw_nil ?_
 (repeat ((fail_if_success with_reducible refine rg ?_); go_step))
 refine wp_region_pw ?_
 refine pw_mv (by rfl) rfl rfl ?_
 simp only [Act.put, pu]
 refine pw_mv (by rfl) rfl rfl ?_
 simp only [Act.put, pu]
 refine pw_value (by rfl) (.pointer (some ⟨g0, 0, none⟩)) (exec_nil _ rfl g0 0 rfl) ?_
 simp only [Act.put, pu]
 refine pw_value (by rfl) (.pointer (some ⟨g0, 1, none⟩)) (exec_field 62 _ 1 rfl g0 0 rfl _ Tryd.underlying62 _ rfl 0 Tryd.sizeOf9) ?_
 simp only [Act.put, pu]
 refine pw_loadk (by rfl) 9 _ rfl _ (1) rfl r0.r (.string ⟨s.toArray⟩) rfl Tryd.isAgg9 ?_
 simp only [Act.put, pu]
 refine pw_value (by rfl) (.int .i64 s.length) (y_lenS _ _ rfl s rfl Tryd.underlying9) ?_
 simp only [Act.put, pu]
 refine pw_value (by rfl) (.bool true) (exec_gt_i _ _ _ _ rfl n s.length rfl rfl true (decide_eq_true hm)) ?_
 simp only [Act.put, pu]
 refine pw_nil ?_
 (repeat ((fail_if_success with_reducible refine rg ?_); go_step))
 refine wp_region_pw ?_
 refine pw_move (by rfl) (.inr rfl) rfl ?_
 simp only [Act.put, pu]
 refine pw_value (by rfl) (.int .i64 5) (fun _ => rfl) ?_
 simp only [Act.put, pu]
 refine pw_nil ?_
 go_wp2
 go_ret2
 exact ⟨rfl, sb⟩
set_option maxRecDepth 100000 in
set_option maxHeartbeats 2000000 in
theorem tbytes_ok (g0 : Nat) (s : List UInt8) (n : Nat) (w : World) (hm : n ≤ s.length) (r0 : Row w g0 (tpC true s) 62) :
  Calls Tryd.prog 9 #[.pointer (some ⟨g0, 0, none⟩), .int .i64 n] w fun e w' => e = .returned (.tuple #[.string ⟨(s.take n).toArray⟩, .int .i64 0]) ∧ Row w' g0 (tpC true (s.drop n)) 62 ∧ Kept [g0] w w' := by
 go_enter Tryd.func9, Tryd.ntmps9
 have sb := sbmk w
 (repeat ((fail_if_success with_reducible refine rg ?_); go_step))
 refine wp_region_pw ?_
 refine pw_move (by rfl) (.inr rfl) rfl ?_
 simp only [Act.put, pu]
 refine pw_value (by rfl) (.int .i64 0) (fun _ => rfl) ?_
 simp only [Act.put, pu]
 refine pw_nil ?_
 (repeat ((fail_if_success with_reducible refine rg ?_); go_step))
 refine wp_region_pw ?_
 refine pw_mv (by rfl) rfl rfl ?_
 simp only [Act.put, pu]
 refine pw_callB (by rfl) 24 _ _ rfl Tryd.func24 (by kernel_rfl) #[.pointer (some ⟨g0, 0, none⟩)] rfl _ (isMade_at g0 true s _ r0) ?_
 intro z1001 k
 simp only [Act.put, pu]
 replace r0 := k.row r0 (by simp <;> omega)
 replace sb := sb.trans (k.below w.heap.size sb.size (by simp <;> omega))
 clear k
 refine pw_value (by rfl) (.bool false) (exec_not _ _ rfl true rfl) ?_
 simp only [Act.put, pu]
 refine pw_mv (by rfl) rfl rfl ?_
 simp only [Act.put, pu]
 refine pw_mv (by rfl) rfl rfl ?_
 simp only [Act.put, pu]
 refine pw_value (by rfl) (.bool false) (exec_lt_b _ _ _ _ rfl (n : Int) 0 rfl rfl false (decide_eq_false (by omega))) ?_
 simp only [Act.put, pu]
 refine pw_pick (by rfl) false (v := .bool false) rfl rfl rfl ?_
 simp only [Act.put, pu]
 refine pw_nil ?_
 (repeat ((fail_if_success with_reducible refine rg ?_); go_step))
 refine wp_region_pw ?_
 refine pw_mv (by rfl) rfl rfl ?_
 simp only [Act.put, pu]
 refine pw_mv (by rfl) rfl rfl ?_
 simp only [Act.put, pu]
 refine pw_value (by rfl) (.pointer (some ⟨g0, 0, none⟩)) (exec_nil _ rfl g0 0 rfl) ?_
 simp only [Act.put, pu]
 refine pw_value (by rfl) (.pointer (some ⟨g0, 1, none⟩)) (exec_field 62 _ 1 rfl g0 0 rfl _ Tryd.underlying62 _ rfl 0 Tryd.sizeOf9) ?_
 simp only [Act.put, pu]
 refine pw_loadk (by rfl) 9 _ rfl _ (1) rfl r0.r (.string ⟨s.toArray⟩) rfl Tryd.isAgg9 ?_
 simp only [Act.put, pu]
 refine pw_value (by rfl) (.int .i64 s.length) (y_lenS _ _ rfl s rfl Tryd.underlying9) ?_
 simp only [Act.put, pu]
 refine pw_value (by rfl) (.bool false) (exec_gt_i _ _ _ _ rfl n s.length rfl rfl false (decide_eq_false (by omega))) ?_
 simp only [Act.put, pu]
 refine pw_nil ?_
 (repeat ((fail_if_success with_reducible refine rg ?_); go_step))
 refine wp_region_pw ?_
 refine pw_mv (by rfl) rfl rfl ?_
 simp only [Act.put, pu]
 refine pw_value (by rfl) (.pointer (some ⟨g0, 0, none⟩)) (exec_nil _ rfl g0 0 rfl) ?_
 simp only [Act.put, pu]
 refine pw_value (by rfl) (.pointer (some ⟨g0, 1, none⟩)) (exec_field 62 _ 1 rfl g0 0 rfl _ Tryd.underlying62 _ rfl 0 Tryd.sizeOf9) ?_
 simp only [Act.put, pu]
 refine pw_loadk (by rfl) 9 _ rfl _ (1) rfl r0.r (.string ⟨s.toArray⟩) rfl Tryd.isAgg9 ?_
 simp only [Act.put, pu]
 refine pw_mv (by rfl) rfl rfl ?_
 simp only [Act.put, pu]
 refine pw_value (by rfl) (.string ⟨(s.take n).toArray⟩) (y_upto _ _ _ Tryd.underlying9 rfl s n rfl rfl hm) ?_
 simp only [Act.put, pu]
 refine pw_as (by rfl) rfl rfl ?_
 simp only [Act.put, pu]
 refine pw_nil ?_
 have sk := Kept.ofBelow sb
 replace sk := Kept.trans (Kept.refl [g0] w) sk (by simp)
 clear sb
 (repeat ((fail_if_success with_reducible refine rg ?_); go_step))
 refine wp_region_pw ?_
 refine pw_mv (by rfl) rfl rfl ?_
 simp only [Act.put, pu]
 refine pw_mv (by rfl) rfl rfl ?_
 simp only [Act.put, pu]
 refine pw_value (by rfl) (.pointer (some ⟨g0, 0, none⟩)) (exec_nil _ rfl g0 0 rfl) ?_
 simp only [Act.put, pu]
 refine pw_value (by rfl) (.pointer (some ⟨g0, 1, none⟩)) (exec_field 62 _ 1 rfl g0 0 rfl _ Tryd.underlying62 _ rfl 0 Tryd.sizeOf9) ?_
 simp only [Act.put, pu]
 refine pw_loadk (by rfl) 9 _ rfl _ (1) rfl r0.r (.string ⟨s.toArray⟩) rfl Tryd.isAgg9 ?_
 simp only [Act.put, pu]
 refine pw_mv (by rfl) rfl rfl ?_
 simp only [Act.put, pu]
 refine pw_value (by rfl) (.string ⟨(s.drop n).toArray⟩) (y_from _ _ _ Tryd.underlying9 rfl s n rfl rfl hm) ?_
 simp only [Act.put, pu]
 refine pw_value (by rfl) (.pointer (some ⟨g0, 0, none⟩)) (exec_nil _ rfl g0 0 rfl) ?_
 simp only [Act.put, pu]
 refine pw_value (by rfl) (.pointer (some ⟨g0, 1, none⟩)) (exec_field 62 _ 1 rfl g0 0 rfl _ Tryd.underlying62 _ rfl 0 Tryd.sizeOf9) ?_
 simp only [Act.put, pu]
 refine pw_putv (by rfl) 9 _ _ rfl _ (1) rfl r0 (.string ⟨(s.drop n).toArray⟩) rfl rfl rfl size1tstring (by exact (by decide : 1 < 2)) (tpC true (s.drop n)) (tp_put _ _ _) ?_
 clear r0
 intro z6009 r0 k
 simp only [Act.put]
 replace sk := sk.trans k (by simp <;> omega)
 clear k
 refine pw_nil ?_
 (repeat ((fail_if_success with_reducible refine rg ?_); go_step))
 refine wp_region_pw ?_
 refine pw_mv (by rfl) rfl rfl ?_
 simp only [Act.put, pu]
 refine pw_as (by rfl) rfl rfl ?_
 simp only [Act.put, pu]
 refine pw_value (by rfl) (.int .i64 0) (fun _ => rfl) ?_
 simp only [Act.put, pu]
 refine pw_nil ?_
 go_wp2
 go_ret2
 exact ⟨rfl, r0, sk⟩
set_option maxRecDepth 100000 in
set_option maxHeartbeats 2000000 in
theorem trimByte_any (l : List UInt8) (w : World) :
  Calls Tryd.prog 72 #[.string ⟨(l).toArray⟩, .int .u8 0] w fun e w' => e = .returned (.string ⟨(trimL l).toArray⟩) ∧ Below w.heap.size w w' := by
 go_enter Tryd.func72, Tryd.ntmps72
 have sb := sbmk w
 (repeat ((fail_if_success with_reducible refine rg ?_); go_step))
 refine wp_region_pw ?_
 refine pw_move (by rfl) (.inr rfl) rfl ?_
 simp only [Act.put, pu]
 refine pw_nil ?_
 go_wp2_with fail
 go_loopg [0] l.length (fun g s0 wr => ∃ r : List UInt8, r.length = g ∧ s0 = .string ⟨(r).toArray⟩ ∧ trimL r = trimL l ∧ Below w.heap.size w wr)
 case atStart => exact ⟨l, rfl, rfl, rfl, sb⟩
 case round =>
  clear sb
  obtain ⟨r, hr, rfl, ht, sb⟩ := hrel
  cases r with
  | nil =>
   have HT : Hid (trimL [] = trimL l) := ht
   clear ht hr
   (repeat ((fail_if_success with_reducible refine rg ?_); go_step))
   refine wp_region_pw ?_
   refine pw_mv (by rfl) rfl rfl ?_
   simp only [Act.put, pu]
   refine pw_value (by rfl) (.int .i64 (0 : Nat)) (y_lenS _ _ rfl [] rfl Tryd.underlying9) ?_
   simp only [Act.put, pu]
   refine pw_value (by rfl) (.bool false) (exec_gt_i _ _ _ _ rfl (0 : Nat) 0 rfl rfl false rfl) ?_
   simp only [Act.put, pu]
   refine pw_mv (by rfl) rfl rfl ?_
   simp only [Act.put, pu]
   refine pw_skip (by rfl) ?_
   simp only [Act.put, pu]
   refine pw_skip (by rfl) ?_
   simp only [Act.put, pu]
   refine pw_skip (by rfl) ?_
   simp only [Act.put, pu]
   refine pw_skip (by rfl) ?_
   simp only [Act.put, pu]
   refine pw_pick (by rfl) false (v := .bool false) rfl rfl rfl ?_
   simp only [Act.put, pu]
   refine pw_nil ?_
   (repeat ((fail_if_success with_reducible refine rg ?_); go_step))
   refine wp_region_pw ?_
   refine pw_mv (by rfl) rfl rfl ?_
   simp only [Act.put, pu]
   refine pw_as (by rfl) rfl rfl ?_
   simp only [Act.put, pu]
   refine pw_nil ?_
   go_wp2
   go_ret
   exact ⟨by rw [← HT.out]; rfl, sb⟩
  | cons b r =>
   have hlen : (0 : Int) < (((b :: r).length : Nat) : Int) := by rw [List.length_cons]; omega
   by_cases hb : b = 0
   ·rw [trimL_nil hb] at ht
    have HT : Hid (trimL r = trimL l) := ht
    clear ht
    have hz : decide ((yb (b :: r) 0 : Int) = 0) = true := by subst hb; rfl
    (repeat ((fail_if_success with_reducible refine rg ?_); go_step))
    refine wp_region_pw ?_
    refine pw_mv (by rfl) rfl rfl ?_
    simp only [Act.put, pu]
    refine pw_value (by rfl) (.int .i64 (b :: r).length) (y_lenS _ _ rfl (b :: r) rfl Tryd.underlying9) ?_
    simp only [Act.put, pu]
    refine pw_value (by rfl) (.bool true) (exec_gt_i _ _ _ _ rfl (b :: r).length 0 rfl rfl true (decide_eq_true hlen)) ?_
    simp only [Act.put, pu]
    refine pw_mv (by rfl) rfl rfl ?_
    simp only [Act.put, pu]
    refine pw_mv (by rfl) rfl rfl ?_
    simp only [Act.put, pu]
    refine pw_value (by rfl) (.int .u8 (yb (b :: r) 0 : Nat)) (y_index _ _ _ rfl Tryd.underlying9 (b :: r) rfl .i64 0 rfl (by simp)) ?_
    simp only [Act.put, pu]
    refine pw_mv (by rfl) rfl rfl ?_
    simp only [Act.put, pu]
    refine pw_value (by rfl) (.bool true) (exec_eql_k .u8 _ _ _ _ rfl (yb (b :: r) 0 : Nat) 0 rfl rfl true hz) ?_
    simp only [Act.put, pu]
    refine pw_pick (by rfl) true (v := .bool true) rfl rfl rfl ?_
    simp only [Act.put, pu]
    refine pw_nil ?_
    clear hz hlen
    (repeat ((fail_if_success with_reducible refine rg ?_); go_step))
    refine wp_region_pw ?_
    refine pw_mv (by rfl) rfl rfl ?_
    simp only [Act.put, pu]
    refine pw_value (by rfl) (.string ⟨(r).toArray⟩) (fun w => y_from _ _ _ Tryd.underlying9 rfl (b :: r) 1 rfl rfl (by simp) w) ?_
    simp only [Act.put, pu]
    refine pw_as (by rfl) rfl rfl ?_
    simp only [Act.put, List.setIfInBounds_toArray, List.set_cons_zero]
    refine pw_nil ?_
    go_wp2
    go_roundg r.length
    case measure => simp at hr; omega
    case rel => exact ⟨r, rfl, rfl, HT.out, sb⟩
   ·rw [trimL_stop hb] at ht
    have HT : Hid (b :: r = trimL l) := ht
    have hz : decide ((yb (b :: r) 0 : Int) = 0) = false := by
     refine decide_eq_false fun e => hb ?_
     have : b.toNat = 0 := by
      unfold yb at e
      simpa using e
     exact UInt8.toNat_inj.1 this
    clear ht
    (repeat ((fail_if_success with_reducible refine rg ?_); go_step))
    refine wp_region_pw ?_
    refine pw_mv (by rfl) rfl rfl ?_
    simp only [Act.put, pu]
    refine pw_value (by rfl) (.int .i64 (b :: r).length) (y_lenS _ _ rfl (b :: r) rfl Tryd.underlying9) ?_
    simp only [Act.put, pu]
    refine pw_value (by rfl) (.bool true) (exec_gt_i _ _ _ _ rfl (b :: r).length 0 rfl rfl true (decide_eq_true hlen)) ?_
    simp only [Act.put, pu]
    refine pw_mv (by rfl) rfl rfl ?_
    simp only [Act.put, pu]
    refine pw_mv (by rfl) rfl rfl ?_
    simp only [Act.put, pu]
    refine pw_value (by rfl) (.int .u8 (yb (b :: r) 0 : Nat)) (y_index _ _ _ rfl Tryd.underlying9 (b :: r) rfl .i64 0 rfl (by simp)) ?_
    simp only [Act.put, pu]
    refine pw_mv (by rfl) rfl rfl ?_
    simp only [Act.put, pu]
    refine pw_value (by rfl) (.bool false) (exec_eql_k .u8 _ _ _ _ rfl (yb (b :: r) 0 : Nat) 0 rfl rfl false hz) ?_
    simp only [Act.put, pu]
    refine pw_pick (by rfl) true (v := .bool false) rfl rfl rfl ?_
    simp only [Act.put, pu]
    refine pw_nil ?_
    clear hz hlen
    (repeat ((fail_if_success with_reducible refine rg ?_); go_step))
    refine wp_region_pw ?_
    refine pw_mv (by rfl) rfl rfl ?_
    simp only [Act.put, pu]
    refine pw_as (by rfl) rfl rfl ?_
    simp only [Act.put, pu]
    refine pw_nil ?_
    go_wp2
    go_ret
    exact ⟨by rw [← HT.out]; rfl, sb⟩
set_option maxRecDepth 100000 in
set_option maxHeartbeats 2000000 in
theorem trimLeft_any (l : List UInt8) (w : World) :
  Calls Tryd.prog 51 #[.string ⟨(l).toArray⟩, .string { data := #[0] }] w fun e w' => e = .returned (.string ⟨(trimL l).toArray⟩) ∧ Below w.heap.size w w' := by
 go_enter Tryd.func51, Tryd.ntmps51
 have sb := sbmk w
 (repeat ((fail_if_success with_reducible refine rg ?_); go_step))
 refine wp_region_pw ?_
 refine pw_move (by rfl) (.inr rfl) rfl ?_
 simp only [Act.put, pu]
 refine pw_nil ?_
 cases l with
 | nil =>
  (repeat ((fail_if_success with_reducible refine rg ?_); go_step))
  refine wp_region_pw ?_
  refine pw_mv (by rfl) rfl rfl ?_
  simp only [Act.put, pu]
  refine pw_value (by rfl) (.bool true) (y_eqS _ _ _ _ rfl [] [] rfl rfl true rfl) ?_
  simp only [Act.put, pu]
  refine pw_mv (by rfl) rfl rfl ?_
  simp only [Act.put, pu]
  refine pw_skip (by rfl) ?_
  simp only [Act.put, pu]
  refine pw_skip (by rfl) ?_
  simp only [Act.put, pu]
  refine pw_pick (by rfl) true (v := .bool true) rfl rfl rfl ?_
  simp only [Act.put, pu]
  refine pw_nil ?_
  (repeat ((fail_if_success with_reducible refine rg ?_); go_step))
  refine wp_region_pw ?_
  refine pw_mv (by rfl) rfl rfl ?_
  simp only [Act.put, pu]
  refine pw_as (by rfl) rfl rfl ?_
  simp only [Act.put, pu]
  refine pw_nil ?_
  go_wp2
  go_ret
  exact ⟨rfl, sb⟩
 | cons b r =>
  (repeat ((fail_if_success with_reducible refine rg ?_); go_step))
  refine wp_region_pw ?_
  refine pw_mv (by rfl) rfl rfl ?_
  simp only [Act.put, pu]
  refine pw_value (by rfl) (.bool false) (y_eqS _ _ _ _ rfl (b :: r) [] rfl rfl false (decide_eq_false (by simp))) ?_
  simp only [Act.put, pu]
  refine pw_mv (by rfl) rfl rfl ?_
  simp only [Act.put, pu]
  refine pw_mv (by rfl) rfl rfl ?_
  simp only [Act.put, pu]
  refine pw_value (by rfl) (.bool false) (y_eqS _ _ _ _ rfl [0] [] rfl rfl false (decide_eq_false (by simp))) ?_
  simp only [Act.put, pu]
  refine pw_pick (by rfl) false (v := .bool false) rfl rfl rfl ?_
  simp only [Act.put, pu]
  refine pw_nil ?_
  (repeat ((fail_if_success with_reducible refine rg ?_); go_step))
  refine wp_region_pw ?_
  refine pw_mv (by rfl) rfl rfl ?_
  simp only [Act.put, pu]
  refine pw_value (by rfl) (.int .i64 (1 : Nat)) (y_lenS _ _ rfl [0] rfl Tryd.underlying9) ?_
  simp only [Act.put, pu]
  refine pw_value (by rfl) (.bool true) (exec_eql_k .i64 _ _ _ _ rfl (1 : Nat) 1 rfl rfl true rfl) ?_
  simp only [Act.put, pu]
  refine pw_mv (by rfl) rfl rfl ?_
  simp only [Act.put, pu]
  refine pw_mv (by rfl) rfl rfl ?_
  simp only [Act.put, pu]
  refine pw_value (by rfl) (.int .u8 (yb [0] 0 : Nat)) (y_index _ _ _ rfl Tryd.underlying9 [0] rfl .i64 0 rfl (by simp)) ?_
  simp only [Act.put, pu]
  refine pw_value (by rfl) (.bool true) (tp_lt8 _ _ _ _ rfl (yb [0] 0 : Nat) 128 rfl rfl true rfl) ?_
  simp only [Act.put, pu]
  refine pw_pick (by rfl) true (v := .bool true) rfl rfl rfl ?_
  simp only [Act.put, pu]
  refine pw_nil ?_
  (repeat ((fail_if_success with_reducible refine rg ?_); go_step))
  refine wp_region_pw ?_
  refine pw_mv (by rfl) rfl rfl ?_
  simp only [Act.put, pu]
  refine pw_mv (by rfl) rfl rfl ?_
  simp only [Act.put, pu]
  refine pw_value (by rfl) (.int .u8 (yb [0] 0 : Nat)) (y_index _ _ _ rfl Tryd.underlying9 [0] rfl .i64 0 rfl (by simp)) ?_
  simp only [Act.put, pu]
  refine pw_callB (by rfl) 72 _ _ rfl Tryd.func72 (by kernel_rfl) #[.string ⟨(b :: r).toArray⟩, .int .u8 (0 : Nat)] rfl _ (trimByte_any (b :: r) _) ?_
  intro z4003 k
  simp only [Act.put, pu]
  replace sb := sb.trans (k.below w.heap.size sb.size (by simp <;> omega))
  clear k
  refine pw_as (by rfl) rfl rfl ?_
  simp only [Act.put, pu]
  refine pw_nil ?_
  go_wp2
  go_ret
  exact ⟨rfl, sb⟩
end Go.Proofs.YtlacmkliofnjcaaDoor
