/- ChunkBack: for every number, text and list of naturals: in one of the three groups what is put (a value of up to 24 bytes, or none) is taken as it was, each number is below Q, and what up to 30 naturals tell has just these numbers; no condition. -/
import Derived.Test.YtdemabfpcepnfaaGreatDoorCD
import Derived.Test.YtdemabfpcepnfaaGreatDoorTpLaid
namespace Go.Proofs.YtdemabfpcepnfaaGreatDoor
open Go.ChangeShapes Go.WideShapes Go.ChangeAt Go.RowKit
open Go.ChangeMaps (open_string)
namespace chunkBackP
set_option linter.unusedVariables false
theorem y_eqB {P : Program} {o : Oper} {ρ : Operand → Value} (t : TypeId) (x y : Operand) (u : TypeId) (ho : o.op = .binOp .eql t x y u) (n m : Bool) (hx : ρ x = .bool n) (hy : ρ y = .bool m) (hu : P.underlying t = some .bool) (b : Bool) (hb : (n == m) = b) (w : World) :
  (execOp ρ o).run P w = .ok (.value (.bool b)) w := by
 subst hb
 unfold execOp
 simp only [ho, hx, hy]
 cases n <;> cases m <;> simp [eqGuard, go_sem, hu]
theorem nats_congr {w : World} {ab : Option Addr} {n : Nat} {f h : Nat → Nat} {gb ob : Nat} {bcs : Array Value} {tb : TypeId} (hn : NatsAt w ab n f gb ob bcs tb) (he : ∀ i, i < n → f i = h i) : NatsAt w ab n h gb ob bcs tb :=
 ⟨hn.at'.imp id fun ⟨h1, h2, h3⟩ => ⟨h1, h2, fun i hi j v hv => h3 i hi j v (by rw [he i hi]; exact hv)⟩, fun i hi => by rw [← he i hi]; exact hn.lt i hi⟩
theorem cmp_below {X Y : Nat} (h : X < Y) : decide ((0 : Int) ≤ cmpI X Y) = false := by
 have h1 := cmp_neg X Y
 rw [decide_eq_true h] at h1
 have h2 := of_decide_eq_true h1
 exact decide_eq_false (by omega)
set_option maxRecDepth 100000 in
set_option maxHeartbeats 2000000 in
theorem core0 (a0 : Int) (s : List UInt8) (n ca : Nat) (ab : Option Addr) (w : World) (h : 24 < s.length ∨ 30 < n) :
  Calls Tryz.prog 5 #[.int .i64 a0, .string ⟨(s).toArray⟩, .slice ab n ca] w fun e w' => e = .returned (.bool true) ∧ Below w.heap.size w w' := by
 have haw := awake11_any
 go_enter Tryz.func5, Tryz.ntmps5
 have sb := sbmk w
 (repeat ((fail_if_success with_reducible refine rg ?_); go_step))
 refine wp_region_pw ?_
 refine pw_value (by rfl) (.bool false) (fun _ => rfl) ?_
 simp only [Act.put, pu]
 refine pw_nil ?_
 by_cases h12 : 24 < s.length
 ·clear h
  (repeat ((fail_if_success with_reducible refine rg ?_); go_step))
  refine wp_region_pw ?_
  refine pw_mv (by rfl) rfl rfl ?_
  simp only [Act.put, pu]
  refine pw_value (by rfl) (.int .i64 s.length) (y_lenS _ _ rfl s rfl Tryz.underlying9) ?_
  simp only [Act.put, pu]
  refine pw_value (by rfl) (.bool true) (exec_gt_i _ _ _ _ rfl s.length 24 rfl rfl true (decide_eq_true (by omega))) ?_
  simp only [Act.put, pu]
  refine pw_mv (by rfl) rfl rfl ?_
  simp only [Act.put, pu]
  refine pw_skip (by rfl) ?_
  simp only [Act.put, pu]
  refine pw_skip (by rfl) ?_
  simp only [Act.put, pu]
  refine pw_skip (by rfl) ?_
  simp only [Act.put, pu]
  refine pw_pick (by rfl) true (v := .bool true) rfl rfl rfl ?_
  simp only [Act.put, pu]
  refine pw_nil ?_
  (repeat ((fail_if_success with_reducible refine rg ?_); go_step))
  refine wp_region_pw ?_
  refine pw_callB (by rfl) 6 _ _ rfl Tryz.func6 (by kernel_rfl) #[] rfl _ (haw _) ?_
  intro z2000 k
  simp only [Act.put, pu]
  replace sb := sb.trans (k.below w.heap.size sb.size (by simp <;> omega))
  clear k
  refine pw_as (by rfl) rfl rfl ?_
  simp only [Act.put, pu]
  refine pw_nil ?_
  go_wp2
  go_ret
  exact ⟨rfl, sb⟩
 ·have hm12 : 30 < n := h.resolve_left h12
  clear h
  (repeat ((fail_if_success with_reducible refine rg ?_); go_step))
  refine wp_region_pw ?_
  refine pw_mv (by rfl) rfl rfl ?_
  simp only [Act.put, pu]
  refine pw_value (by rfl) (.int .i64 s.length) (y_lenS _ _ rfl s rfl Tryz.underlying9) ?_
  simp only [Act.put, pu]
  refine pw_value (by rfl) (.bool false) (exec_gt_i _ _ _ _ rfl s.length 24 rfl rfl false (decide_eq_false (by omega))) ?_
  simp only [Act.put, pu]
  refine pw_mv (by rfl) rfl rfl ?_
  simp only [Act.put, pu]
  refine pw_mv (by rfl) rfl rfl ?_
  simp only [Act.put, pu]
  refine pw_value (by rfl) (.int .i64 n) (exec_len_s 34 _ rfl ab n ca rfl sl_natsX) ?_
  simp only [Act.put, pu]
  refine pw_value (by rfl) (.bool true) (exec_gt_i _ _ _ _ rfl n 30 rfl rfl true (decide_eq_true (by omega))) ?_
  simp only [Act.put, pu]
  refine pw_pick (by rfl) false (v := .bool true) rfl rfl rfl ?_
  simp only [Act.put, pu]
  refine pw_nil ?_
  (repeat ((fail_if_success with_reducible refine rg ?_); go_step))
  refine wp_region_pw ?_
  refine pw_callB (by rfl) 6 _ _ rfl Tryz.func6 (by kernel_rfl) #[] rfl _ (haw _) ?_
  intro z2000 k
  simp only [Act.put, pu]
  replace sb := sb.trans (k.below w.heap.size sb.size (by simp <;> omega))
  clear k
  refine pw_as (by rfl) rfl rfl ?_
  simp only [Act.put, pu]
  refine pw_nil ?_
  go_wp2
  go_ret
  exact ⟨rfl, sb⟩
set_option maxRecDepth 100000 in
set_option maxHeartbeats 2000000 in
theorem core1 (a0 : Int) (s : List UInt8) (n ca : Nat) (ab : Option Addr) (f : Nat → Nat) (gb ob : Nat) (bcs : Array Value) (tb : TypeId) (N1 G3 GG PP QQ m k m3 : Nat) (F1 F2 F3 : Nat → Nat) (LK : Array Value) (V : List UInt8) (T : Bool) (E : Int) (w : World) (hs : ¬ 24 < s.length) (hn : ¬ 30 < n) (hna : NatsAt w ab n f gb ob bcs tb)
  (hm : m ≤ 1000) (hQ : QQ < 2 ^ 256) (hF1 : ∀ i, F1 i < QQ) (hF3 : ∀ i, F3 i < 2 ^ 256) (hE : Hid (E = 4 ∨ E = 0 ∧ n = m3 ∧ ∀ i, i < n → F3 i = f i))
  (hpa : ∀ w', Calls Tryz.prog 7 #[.int .i64 a0] w' fun e w2 => ∃ g, e = .returned (.agg (paC (some ⟨g, 0, none⟩) N1 N1 G3)) ∧ w'.heap.size ≤ g ∧ Row w2 g LK 81 ∧ Below w'.heap.size w' w2)
  (hnw : ∀ w' x, Row w' x LK 81 → Calls Tryz.prog 8 #[.agg (paC (some ⟨x, 0, none⟩) N1 N1 G3)] w' fun e w2 => ∃ g gr gf, e = .returned (.tuple #[.pointer (some ⟨g, 0, none⟩), .int .i64 0]) ∧ GrpAt w2 g gr gf PP QQ GG ∧ Below w'.heap.size w' w2)
  (hp1 : ∀ w' g gr gf, GrpAt w' g gr gf PP QQ GG → Calls Tryz.prog 9 #[.pointer (some ⟨g, 0, none⟩), .string ⟨(s).toArray⟩, .bool true] w' fun e w2 => ∃ x, e = .returned (.tuple #[.slice (some ⟨x, 0, none⟩) m m, .int .i64 0]) ∧ w'.heap.size ≤ x ∧ Row w2 x (nsC m F1) 26 ∧ Below w'.heap.size w' w2)
  (ht1 : ∀ w' g gr gf, GrpAt w' g gr gf PP QQ GG → ∀ x, Row w' x (nsC m F1) 26 → Calls Tryz.prog 14 #[.pointer (some ⟨g, 0, none⟩), .slice (some ⟨x, 0, none⟩) m m] w' fun e w2 => e = .returned (.tuple #[.string ⟨(s).toArray⟩, .bool true, .int .i64 0]) ∧ Below w'.heap.size w' w2)
  (hp2 : ∀ w' g gr gf, GrpAt w' g gr gf PP QQ GG → Calls Tryz.prog 9 #[.pointer (some ⟨g, 0, none⟩), .string ⟨(s).toArray⟩, .bool false] w' fun e w2 => ∃ x, e = .returned (.tuple #[.slice (some ⟨x, 0, none⟩) k k, .int .i64 0]) ∧ w'.heap.size ≤ x ∧ Row w2 x (nsC k F2) 26 ∧ Below w'.heap.size w' w2)
  (ht2 : ∀ w' g gr gf, GrpAt w' g gr gf PP QQ GG → ∀ x, Row w' x (nsC k F2) 26 → Calls Tryz.prog 14 #[.pointer (some ⟨g, 0, none⟩), .slice (some ⟨x, 0, none⟩) k k] w' fun e w2 => e = .returned (.tuple #[.string ⟨([]).toArray⟩, .bool false, .int .i64 0]) ∧ Below w'.heap.size w' w2)
  (ht3 : ∀ w', Below w.heap.size w w' → ∀ g gr gf, GrpAt w' g gr gf PP QQ GG → Calls Tryz.prog 14 #[.pointer (some ⟨g, 0, none⟩), .slice ab n ca] w' fun e w2 => e = .returned (.tuple #[.string ⟨(V).toArray⟩, .bool T, .int .i64 E]) ∧ Below w'.heap.size w' w2)
  (hp3 : ∀ w' g gr gf, GrpAt w' g gr gf PP QQ GG → Calls Tryz.prog 9 #[.pointer (some ⟨g, 0, none⟩), .string ⟨(V).toArray⟩, .bool T] w' fun e w2 => ∃ x, e = .returned (.tuple #[.slice (some ⟨x, 0, none⟩) m3 m3, .int .i64 0]) ∧ w'.heap.size ≤ x ∧ Row w2 x (nsC m3 F3) 26 ∧ Below w'.heap.size w' w2) :
  Calls Tryz.prog 5 #[.int .i64 a0, .string ⟨(s).toArray⟩, .slice ab n ca] w fun e w' => e = .returned (.bool true) ∧ Below w.heap.size w w' := by
 have haw := awake11_any
 have HB : Hid (NatsAt w ab n f gb ob bcs tb) := hna
 have HQ : Hid (QQ < 2 ^ 256 ∧ (∀ i, F1 i < QQ) ∧ ∀ i, F3 i < 2 ^ 256) := ⟨hQ, hF1, hF3⟩
 clear hna hQ hF1 hF3
 go_enter Tryz.func5, Tryz.ntmps5
 have sb := sbmk w
 (repeat ((fail_if_success with_reducible refine rg ?_); go_step))
 refine wp_region_pw ?_
 refine pw_value (by rfl) (.bool false) (fun _ => rfl) ?_
 simp only [Act.put, pu]
 refine pw_nil ?_
 (repeat ((fail_if_success with_reducible refine rg ?_); go_step))
 refine wp_region_pw ?_
 refine pw_mv (by rfl) rfl rfl ?_
 simp only [Act.put, pu]
 refine pw_value (by rfl) (.int .i64 s.length) (y_lenS _ _ rfl s rfl Tryz.underlying9) ?_
 simp only [Act.put, pu]
 refine pw_value (by rfl) (.bool false) (exec_gt_i _ _ _ _ rfl s.length 24 rfl rfl false (decide_eq_false (by omega))) ?_
 simp only [Act.put, pu]
 refine pw_mv (by rfl) rfl rfl ?_
 simp only [Act.put, pu]
 refine pw_mv (by rfl) rfl rfl ?_
 simp only [Act.put, pu]
 refine pw_value (by rfl) (.int .i64 n) (exec_len_s 34 _ rfl ab n ca rfl sl_natsX) ?_
 simp only [Act.put, pu]
 refine pw_value (by rfl) (.bool false) (exec_gt_i _ _ _ _ rfl n 30 rfl rfl false (decide_eq_false (by omega))) ?_
 simp only [Act.put, pu]
 refine pw_pick (by rfl) false (v := .bool false) rfl rfl rfl ?_
 simp only [Act.put, pu]
 refine pw_nil ?_
 (repeat ((fail_if_success with_reducible refine rg ?_); go_step))
 refine wp_region_pw ?_
 refine pw_mv (by rfl) rfl rfl ?_
 simp only [Act.put, pu]
 refine pw_callE (by rfl) 7 _ _ rfl Tryz.func7 (by kernel_rfl) #[.int .i64 a0] rfl (hpa _) ?_
 rintro _ z3001 ⟨gP, rfl, nP, rP, hb⟩
 refine ⟨_, rfl, ?_⟩
 simp only [Act.put, pu]
 have bP := Nat.le_trans sb.size nP
 clear nP
 have k := Kept.ofBelow hb
 clear hb
 replace sb := sb.trans (k.below w.heap.size sb.size (by simp <;> omega))
 clear k
 refine pw_callE (by rfl) 8 _ _ rfl Tryz.func8 (by kernel_rfl) #[.agg (paC (some ⟨gP, 0, none⟩) N1 N1 G3)] rfl (hnw _ gP rP) ?_
 rintro _ z3002 ⟨g, gr, gf, rfl, ⟨rG, rR, rF⟩, hb⟩
 refine ⟨_, rfl, ?_⟩
 simp only [Act.put, pu]
 have k := Kept.ofBelow hb
 clear hb
 replace rP := k.row rP (by simp <;> omega)
 replace sb := sb.trans (k.below w.heap.size sb.size (by simp <;> omega))
 clear k
 refine pw_mv (by rfl) rfl rfl ?_
 simp only [Act.put, pu]
 refine pw_ext (by rfl) rfl rfl rfl ?_
 simp only [Act.put, pu]
 refine pw_ext (by rfl) rfl rfl rfl ?_
 simp only [Act.put, pu]
 refine pw_as (by rfl) rfl rfl ?_
 simp only [Act.put, pu]
 refine pw_as (by rfl) rfl rfl ?_
 simp only [Act.put, pu]
 refine pw_nil ?_
 clear hpa hnw rP
 (repeat ((fail_if_success with_reducible refine rg ?_); go_step))
 refine wp_region_pw ?_
 refine pw_mv (by rfl) rfl rfl ?_
 simp only [Act.put, pu]
 refine pw_mv (by rfl) rfl rfl ?_
 simp only [Act.put, pu]
 refine pw_callE (by rfl) 9 _ _ rfl Tryz.func9 (by kernel_rfl) #[.pointer (some ⟨g, 0, none⟩), .string ⟨(s).toArray⟩, .bool true] rfl (hp1 _ g gr gf ⟨rG, rR, rF⟩) ?_
 rintro _ z4002 ⟨gA, rfl, nA, rA, hb⟩
 refine ⟨_, rfl, ?_⟩
 simp only [Act.put, pu]
 have dGxA := Nat.lt_of_lt_of_le rG.lt nA
 have dRxA := Nat.lt_of_lt_of_le rR.lt nA
 have dFxA := Nat.lt_of_lt_of_le rF.lt nA
 have bA := Nat.le_trans sb.size nA
 clear nA
 have k := Kept.ofBelow hb
 clear hb
 replace rG := k.row rG (by simp <;> omega)
 replace rR := k.row rR (by simp <;> omega)
 replace rF := k.row rF (by simp <;> omega)
 replace sb := sb.trans (k.below w.heap.size sb.size (by simp <;> omega))
 clear k
 refine pw_mv (by rfl) rfl rfl ?_
 simp only [Act.put, pu]
 refine pw_ext (by rfl) rfl rfl rfl ?_
 simp only [Act.put, pu]
 refine pw_ext (by rfl) rfl rfl rfl ?_
 simp only [Act.put, pu]
 refine pw_as (by rfl) rfl rfl ?_
 simp only [Act.put, pu]
 refine pw_as (by rfl) rfl rfl ?_
 simp only [Act.put, pu]
 refine pw_nil ?_
 (repeat ((fail_if_success with_reducible refine rg ?_); go_step))
 refine wp_region_pw ?_
 refine pw_mv (by rfl) rfl rfl ?_
 simp only [Act.put, pu]
 refine pw_mv (by rfl) rfl rfl ?_
 simp only [Act.put, pu]
 refine pw_callB (by rfl) 14 _ _ rfl Tryz.func14 (by kernel_rfl) #[.pointer (some ⟨g, 0, none⟩), .slice (some ⟨gA, 0, none⟩) m m] rfl _ (ht1 _ g gr gf ⟨rG, rR, rF⟩ gA rA) ?_
 intro z5002 k
 simp only [Act.put, pu]
 replace rG := k.row rG (by simp <;> omega)
 replace rR := k.row rR (by simp <;> omega)
 replace rF := k.row rF (by simp <;> omega)
 replace rA := k.row rA (by simp <;> omega)
 replace sb := sb.trans (k.below w.heap.size sb.size (by simp <;> omega))
 clear k
 refine pw_mv (by rfl) rfl rfl ?_
 simp only [Act.put, pu]
 refine pw_ext (by rfl) rfl rfl rfl ?_
 simp only [Act.put, pu]
 refine pw_ext (by rfl) rfl rfl rfl ?_
 simp only [Act.put, pu]
 refine pw_ext (by rfl) rfl rfl rfl ?_
 simp only [Act.put, pu]
 refine pw_as (by rfl) rfl rfl ?_
 simp only [Act.put, pu]
 refine pw_as (by rfl) rfl rfl ?_
 simp only [Act.put, pu]
 refine pw_as (by rfl) rfl rfl ?_
 simp only [Act.put, pu]
 refine pw_nil ?_
 clear hp1 ht1
 (repeat ((fail_if_success with_reducible refine rg ?_); go_step))
 refine wp_region_pw ?_
 refine pw_mv (by rfl) rfl rfl ?_
 simp only [Act.put, pu]
 refine pw_mv (by rfl) rfl rfl ?_
 simp only [Act.put, pu]
 refine pw_callE (by rfl) 9 _ _ rfl Tryz.func9 (by kernel_rfl) #[.pointer (some ⟨g, 0, none⟩), .string ⟨(s).toArray⟩, .bool false] rfl (hp2 _ g gr gf ⟨rG, rR, rF⟩) ?_
 rintro _ z6002 ⟨gC, rfl, nC, rC, hb⟩
 refine ⟨_, rfl, ?_⟩
 simp only [Act.put, pu]
 have dGxC := Nat.lt_of_lt_of_le rG.lt nC
 have dRxC := Nat.lt_of_lt_of_le rR.lt nC
 have dFxC := Nat.lt_of_lt_of_le rF.lt nC
 have dAxC := Nat.lt_of_lt_of_le rA.lt nC
 have bC := Nat.le_trans sb.size nC
 clear nC
 have k := Kept.ofBelow hb
 clear hb
 replace rG := k.row rG (by simp <;> omega)
 replace rR := k.row rR (by simp <;> omega)
 replace rF := k.row rF (by simp <;> omega)
 replace rA := k.row rA (by simp <;> omega)
 replace sb := sb.trans (k.below w.heap.size sb.size (by simp <;> omega))
 clear k
 refine pw_mv (by rfl) rfl rfl ?_
 simp only [Act.put, pu]
 refine pw_ext (by rfl) rfl rfl rfl ?_
 simp only [Act.put, pu]
 refine pw_ext (by rfl) rfl rfl rfl ?_
 simp only [Act.put, pu]
 refine pw_as (by rfl) rfl rfl ?_
 simp only [Act.put, pu]
 refine pw_as (by rfl) rfl rfl ?_
 simp only [Act.put, pu]
 refine pw_nil ?_
 (repeat ((fail_if_success with_reducible refine rg ?_); go_step))
 refine wp_region_pw ?_
 refine pw_mv (by rfl) rfl rfl ?_
 simp only [Act.put, pu]
 refine pw_mv (by rfl) rfl rfl ?_
 simp only [Act.put, pu]
 refine pw_callB (by rfl) 14 _ _ rfl Tryz.func14 (by kernel_rfl) #[.pointer (some ⟨g, 0, none⟩), .slice (some ⟨gC, 0, none⟩) k k] rfl _ (ht2 _ g gr gf ⟨rG, rR, rF⟩ gC rC) ?_
 intro z7002 k
 simp only [Act.put, pu]
 replace rG := k.row rG (by simp <;> omega)
 replace rR := k.row rR (by simp <;> omega)
 replace rF := k.row rF (by simp <;> omega)
 replace rA := k.row rA (by simp <;> omega)
 replace rC := k.row rC (by simp <;> omega)
 replace sb := sb.trans (k.below w.heap.size sb.size (by simp <;> omega))
 clear k
 refine pw_mv (by rfl) rfl rfl ?_
 simp only [Act.put, pu]
 refine pw_ext (by rfl) rfl rfl rfl ?_
 simp only [Act.put, pu]
 refine pw_ext (by rfl) rfl rfl rfl ?_
 simp only [Act.put, pu]
 refine pw_ext (by rfl) rfl rfl rfl ?_
 simp only [Act.put, pu]
 refine pw_as (by rfl) rfl rfl ?_
 simp only [Act.put, pu]
 refine pw_as (by rfl) rfl rfl ?_
 simp only [Act.put, pu]
 refine pw_as (by rfl) rfl rfl ?_
 simp only [Act.put, pu]
 refine pw_nil ?_
 clear hp2 ht2 rC
 (repeat ((fail_if_success with_reducible refine rg ?_); go_step))
 refine wp_region_pw ?_
 refine pw_mv (by rfl) rfl rfl ?_
 simp only [Act.put, pu]
 refine pw_value (by rfl) (.bool false) (exec_neq_k .i64 _ _ _ _ rfl 0 0 rfl rfl false rfl) ?_
 simp only [Act.put, pu]
 refine pw_mv (by rfl) rfl rfl ?_
 simp only [Act.put, pu]
 refine pw_mv (by rfl) rfl rfl ?_
 simp only [Act.put, pu]
 refine pw_value (by rfl) (.bool false) (exec_neq_k .i64 _ _ _ _ rfl 0 0 rfl rfl false rfl) ?_
 simp only [Act.put, pu]
 refine pw_pick (by rfl) false (v := .bool false) rfl rfl rfl ?_
 simp only [Act.put, pu]
 refine pw_mv (by rfl) rfl rfl ?_
 simp only [Act.put, pu]
 refine pw_mv (by rfl) rfl rfl ?_
 simp only [Act.put, pu]
 refine pw_value (by rfl) (.bool false) (exec_neq_k .i64 _ _ _ _ rfl 0 0 rfl rfl false rfl) ?_
 simp only [Act.put, pu]
 refine pw_pick (by rfl) false (v := .bool false) rfl rfl rfl ?_
 simp only [Act.put, pu]
 refine pw_mv (by rfl) rfl rfl ?_
 simp only [Act.put, pu]
 refine pw_mv (by rfl) rfl rfl ?_
 simp only [Act.put, pu]
 refine pw_value (by rfl) (.bool false) (exec_neq_k .i64 _ _ _ _ rfl 0 0 rfl rfl false rfl) ?_
 simp only [Act.put, pu]
 refine pw_pick (by rfl) false (v := .bool false) rfl rfl rfl ?_
 simp only [Act.put, pu]
 refine pw_mv (by rfl) rfl rfl ?_
 simp only [Act.put, pu]
 refine pw_mv (by rfl) rfl rfl ?_
 simp only [Act.put, pu]
 refine pw_value (by rfl) (.bool false) (exec_neq_k .i64 _ _ _ _ rfl 0 0 rfl rfl false rfl) ?_
 simp only [Act.put, pu]
 refine pw_pick (by rfl) false (v := .bool false) rfl rfl rfl ?_
 simp only [Act.put, pu]
 refine pw_mv (by rfl) rfl rfl ?_
 simp only [Act.put, pu]
 refine pw_mv (by rfl) rfl rfl ?_
 simp only [Act.put, pu]
 refine pw_mv (by rfl) rfl rfl ?_
 simp only [Act.put, pu]
 refine pw_value (by rfl) (.bool false) (y_neS _ _ _ _ rfl s s rfl rfl false (decide_eq_true rfl)) ?_
 simp only [Act.put, pu]
 refine pw_pick (by rfl) false (v := .bool false) rfl rfl rfl ?_
 simp only [Act.put, pu]
 refine pw_mv (by rfl) rfl rfl ?_
 simp only [Act.put, pu]
 refine pw_mv (by rfl) rfl rfl ?_
 simp only [Act.put, pu]
 refine pw_value (by rfl) (.bool false) (exec_not _ _ rfl true rfl) ?_
 simp only [Act.put, pu]
 refine pw_pick (by rfl) false (v := .bool false) rfl rfl rfl ?_
 simp only [Act.put, pu]
 refine pw_mv (by rfl) rfl rfl ?_
 simp only [Act.put, pu]
 refine pw_mv (by rfl) rfl rfl ?_
 simp only [Act.put, pu]
 refine pw_value (by rfl) (.bool false) (y_neS _ _ _ _ rfl [] [] rfl rfl false (decide_eq_true rfl)) ?_
 simp only [Act.put, pu]
 refine pw_pick (by rfl) false (v := .bool false) rfl rfl rfl ?_
 simp only [Act.put, pu]
 refine pw_mv (by rfl) rfl rfl ?_
 simp only [Act.put, pu]
 refine pw_mv (by rfl) rfl rfl ?_
 simp only [Act.put, pu]
 refine pw_pick (by rfl) false (v := .bool false) rfl rfl rfl ?_
 simp only [Act.put, pu]
 refine pw_nil ?_
 (repeat ((fail_if_success with_reducible refine rg ?_); go_step))
 refine wp_region_pw ?_
 refine pw_value (by rfl) (.int .i64 0) (fun _ => rfl) ?_
 simp only [Act.put, pu]
 refine pw_nil ?_
 go_wp2_with fail
 go_loopg [19] m (fun gg s19 wr => ∃ i : Nat, i + gg = m ∧ s19 = .int .i64 i ∧ Row wr gA (nsC m F1) 26 ∧ GrpAt wr g gr gf PP QQ GG ∧ Below w.heap.size w wr)
 case atStart => exact ⟨0, by omega, rfl, rA, ⟨rG, rR, rF⟩, sb⟩
 case round =>
  clear rA rG rR rF sb
  obtain ⟨i, hi, rfl, rA, ⟨rG, rR, rF⟩, sb⟩ := hrel
  cases gk with
  | zero =>
   obtain rfl : i = m := by omega
   clear hi
   (repeat ((fail_if_success with_reducible refine rg ?_); go_step))
   refine wp_region_pw ?_
   refine pw_mv (by rfl) rfl rfl ?_
   simp only [Act.put, pu]
   refine pw_mv (by rfl) rfl rfl ?_
   simp only [Act.put, pu]
   refine pw_value (by rfl) (.int .i64 i) (exec_len_s 34 _ rfl (some ⟨gA, 0, none⟩) i i rfl sl_natsX) ?_
   simp only [Act.put, pu]
   refine pw_value (by rfl) (.bool false) (exec_lt_b _ _ _ _ rfl i i rfl rfl false (decide_eq_false (Int.lt_irrefl _))) ?_
   simp only [Act.put, pu]
   refine pw_nil ?_
   clear rA
   (repeat ((fail_if_success with_reducible refine rg ?_); go_step))
   refine wp_region_pw ?_
   refine pw_mv (by rfl) rfl rfl ?_
   simp only [Act.put, pu]
   refine pw_mv (by rfl) rfl rfl ?_
   simp only [Act.put, pu]
   refine pw_callB (by rfl) 14 _ _ rfl Tryz.func14 (by kernel_rfl) #[.pointer (some ⟨g, 0, none⟩), .slice ab n ca] rfl _ (ht3 _ sb g gr gf ⟨rG, rR, rF⟩) ?_
   intro z15002 k
   simp only [Act.put, pu]
   replace rG := k.row rG (by simp <;> omega)
   replace rR := k.row rR (by simp <;> omega)
   replace rF := k.row rF (by simp <;> omega)
   replace sb := sb.trans (k.below w.heap.size sb.size (by simp <;> omega))
   clear k
   refine pw_mv (by rfl) rfl rfl ?_
   simp only [Act.put, pu]
   refine pw_ext (by rfl) rfl rfl rfl ?_
   simp only [Act.put, pu]
   refine pw_ext (by rfl) rfl rfl rfl ?_
   simp only [Act.put, pu]
   refine pw_ext (by rfl) rfl rfl rfl ?_
   simp only [Act.put, pu]
   refine pw_as (by rfl) rfl rfl ?_
   simp only [Act.put, pu]
   refine pw_as (by rfl) rfl rfl ?_
   simp only [Act.put, pu]
   refine pw_as (by rfl) rfl rfl ?_
   simp only [Act.put, pu]
   refine pw_nil ?_
   clear ht3
   (repeat ((fail_if_success with_reducible refine rg ?_); go_step))
   refine wp_region_pw ?_
   refine pw_mv (by rfl) rfl rfl ?_
   simp only [Act.put, pu]
   refine pw_mv (by rfl) rfl rfl ?_
   simp only [Act.put, pu]
   refine pw_mv (by rfl) rfl rfl ?_
   simp only [Act.put, pu]
   refine pw_callE (by rfl) 9 _ _ rfl Tryz.func9 (by kernel_rfl) #[.pointer (some ⟨g, 0, none⟩), .string ⟨(V).toArray⟩, .bool T] rfl (hp3 _ g gr gf ⟨rG, rR, rF⟩) ?_
   rintro _ z16003 ⟨gD, rfl, nD, rD, hb⟩
   refine ⟨_, rfl, ?_⟩
   simp only [Act.put, pu]
   have dGxD := Nat.lt_of_lt_of_le rG.lt nD
   have dRxD := Nat.lt_of_lt_of_le rR.lt nD
   have dFxD := Nat.lt_of_lt_of_le rF.lt nD
   have bD := Nat.le_trans sb.size nD
   clear nD
   have k := Kept.ofBelow hb
   clear hb
   replace rG := k.row rG (by simp <;> omega)
   replace rR := k.row rR (by simp <;> omega)
   replace rF := k.row rF (by simp <;> omega)
   replace sb := sb.trans (k.below w.heap.size sb.size (by simp <;> omega))
   clear k
   refine pw_mv (by rfl) rfl rfl ?_
   simp only [Act.put, pu]
   refine pw_ext (by rfl) rfl rfl rfl ?_
   simp only [Act.put, pu]
   refine pw_ext (by rfl) rfl rfl rfl ?_
   simp only [Act.put, pu]
   refine pw_as (by rfl) rfl rfl ?_
   simp only [Act.put, pu]
   refine pw_as (by rfl) rfl rfl ?_
   simp only [Act.put, pu]
   refine pw_nil ?_
   clear hp3 rG rR rF
   rcases hE.out with hE4 | ⟨hE0, hnm, hFf⟩
   ·subst hE4
    (repeat ((fail_if_success with_reducible refine rg ?_); go_step))
    refine wp_region_pw ?_
    refine pw_mv (by rfl) rfl rfl ?_
    simp only [Act.put, pu]
    refine pw_value (by rfl) (.bool true) (exec_neq_k .i64 _ _ _ _ rfl 4 0 rfl rfl true rfl) ?_
    simp only [Act.put, pu]
    refine pw_mv (by rfl) rfl rfl ?_
    simp only [Act.put, pu]
    refine pw_skip (by rfl) ?_
    simp only [Act.put, pu]
    refine pw_skip (by rfl) ?_
    simp only [Act.put, pu]
    refine pw_skip (by rfl) ?_
    simp only [Act.put, pu]
    refine pw_skip (by rfl) ?_
    simp only [Act.put, pu]
    refine pw_skip (by rfl) ?_
    simp only [Act.put, pu]
    refine pw_skip (by rfl) ?_
    simp only [Act.put, pu]
    refine pw_skip (by rfl) ?_
    simp only [Act.put, pu]
    refine pw_pick (by rfl) true (v := .bool true) rfl rfl rfl ?_
    simp only [Act.put, pu]
    refine pw_mv (by rfl) rfl rfl ?_
    simp only [Act.put, pu]
    refine pw_callB (by rfl) 6 _ _ rfl Tryz.func6 (by kernel_rfl) #[] rfl _ (haw _) ?_
    intro z17012 k
    simp only [Act.put, pu]
    replace sb := sb.trans (k.below w.heap.size sb.size (by simp <;> omega))
    clear k
    refine pw_pick (by rfl) true (v := .bool true) rfl rfl rfl ?_
    simp only [Act.put, pu]
    refine pw_as (by rfl) rfl rfl ?_
    simp only [Act.put, pu]
    refine pw_nil ?_
    go_wp2
    go_ret
    exact ⟨rfl, sb⟩
   ·subst hE0
    obtain rfl := hnm
    have hnD := nats_congr (nats_row rD (fun i _ => HQ.out.2.2 i)) hFf
    have hsm := rsame_yes n n ca (some ⟨gD, 0, none⟩) ab f gD 0 gb ob _ _ _ _ _ (by omega) hnD (HB.out.below sb)
    clear hFf rD hnD
    (repeat ((fail_if_success with_reducible refine rg ?_); go_step))
    refine wp_region_pw ?_
    refine pw_mv (by rfl) rfl rfl ?_
    simp only [Act.put, pu]
    refine pw_value (by rfl) (.bool false) (exec_neq_k .i64 _ _ _ _ rfl 0 0 rfl rfl false rfl) ?_
    simp only [Act.put, pu]
    refine pw_mv (by rfl) rfl rfl ?_
    simp only [Act.put, pu]
    refine pw_mv (by rfl) rfl rfl ?_
    simp only [Act.put, pu]
    refine pw_value (by rfl) (.bool true) (exec_eql_k .i64 _ _ _ _ rfl 0 0 rfl rfl true rfl) ?_
    simp only [Act.put, pu]
    refine pw_mv (by rfl) rfl rfl ?_
    simp only [Act.put, pu]
    refine pw_mv (by rfl) rfl rfl ?_
    simp only [Act.put, pu]
    refine pw_mv (by rfl) rfl rfl ?_
    simp only [Act.put, pu]
    refine pw_callB (by rfl) 11 _ _ rfl Tryz.func11 (by kernel_rfl) #[.slice (some ⟨gD, 0, none⟩) n n, .slice ab n ca] rfl _ (hsm) ?_
    intro z17008 k
    simp only [Act.put, pu]
    replace sb := sb.trans (k.below w.heap.size sb.size (by simp <;> omega))
    clear k
    refine pw_pick (by rfl) true (v := .bool true) rfl rfl rfl ?_
    simp only [Act.put, pu]
    refine pw_pick (by rfl) false (v := .bool true) rfl rfl rfl ?_
    simp only [Act.put, pu]
    refine pw_mv (by rfl) rfl rfl ?_
    simp only [Act.put, pu]
    refine pw_callB (by rfl) 6 _ _ rfl Tryz.func6 (by kernel_rfl) #[] rfl _ (haw _) ?_
    intro z17012 k
    simp only [Act.put, pu]
    replace sb := sb.trans (k.below w.heap.size sb.size (by simp <;> omega))
    clear k
    refine pw_pick (by rfl) true (v := .bool true) rfl rfl rfl ?_
    simp only [Act.put, pu]
    refine pw_as (by rfl) rfl rfl ?_
    simp only [Act.put, pu]
    refine pw_nil ?_
    go_wp2
    go_ret
    exact ⟨rfl, sb⟩
  | succ gg =>
   have hlt : i < m := by omega
   have hbt := nsC_part m F1 i hlt (0 + i * 4) (by omega)
   have hcmp := fun w' => rcmp_any (F1 i) QQ w' (Nat.lt_trans (HQ.out.2.1 i) HQ.out.1) HQ.out.1
   have hcb := cmp_below (HQ.out.2.1 i)
   have hG : GrpAt _ g gr gf PP QQ GG := ⟨rG, rR, rF⟩
   generalize cmpI (F1 i) QQ = CI at *
   (repeat ((fail_if_success with_reducible refine rg ?_); go_step))
   refine wp_region_pw ?_
   refine pw_mv (by rfl) rfl rfl ?_
   simp only [Act.put, pu]
   refine pw_mv (by rfl) rfl rfl ?_
   simp only [Act.put, pu]
   refine pw_value (by rfl) (.int .i64 m) (exec_len_s 34 _ rfl (some ⟨gA, 0, none⟩) m m rfl sl_natsX) ?_
   simp only [Act.put, pu]
   refine pw_value (by rfl) (.bool true) (exec_lt_b _ _ _ _ rfl i m rfl rfl true (decide_eq_true (by omega))) ?_
   simp only [Act.put, pu]
   refine pw_nil ?_
   (repeat ((fail_if_success with_reducible refine rg ?_); go_step))
   refine wp_region_qw (by kernel_rfl) (by kernel_rfl) ?_
   refine qw_move (by rfl) rfl rfl ?_
   simp only [Act.put, pu]
   refine qw_move (by rfl) rfl rfl ?_
   simp only [Act.put, pu]
   refine qw_value (by rfl) (.pointer (some ⟨gA, 0 + i * 4, none⟩)) ((exec_index_s 34 _ _ rfl gA 0 m m rfl i rfl hlt _ Tryz.underlying34 4 size_nat4)) ?_
   simp only [Act.put, pu]
   refine qw_loadm (by rfl) 26 _ rfl _ (0 + i * 4) rfl rA (natC (F1 i)) hbt _ Tryz.underlying26 rfl size_nat ?_
   simp only [Act.put, pu]
   refine qw_move (by rfl) rfl rfl ?_
   simp only [Act.put, pu]
   refine qw_callK (by rfl) 17 _ _ rfl Tryz.func17 (by kernel_rfl) #[.pointer (some ⟨g, 0, none⟩)] rfl _ (fun w' hb => grpQ_any _ _ _ _ _ _ w' (hG.kn.below hb)) ?_
   simp only [Act.put, pu]
   refine qw_call (by rfl) 16 _ _ rfl Tryz.func16 (by kernel_rfl) #[.agg (natC (F1 i)), .agg (natC QQ)] rfl _ hcmp ?_
   simp only [Act.put, pu]
   refine qw_value (by rfl) (.bool false) ((exec_geq_i _ _ _ _ rfl CI 0 rfl rfl false hcb)) ?_
   simp only [Act.put, pu]
   refine qw_nil ?_
   intro w6 hqb
   replace rG := rG.belowAll hqb
   replace rR := rR.belowAll hqb
   replace rF := rF.belowAll hqb
   replace rA := rA.belowAll hqb
   replace sb := below_on sb (Nat.le_refl _) hqb
   clear hqb
   clear hG
   (repeat ((fail_if_success with_reducible refine rg ?_); go_step))
   refine wp_region_pw ?_
   refine pw_mv (by rfl) rfl rfl ?_
   simp only [Act.put, pu]
   refine pw_value (by rfl) (.int .i64 ((i + 1 : Nat) : Int)) (exec_add_in _ _ _ _ rfl i 1 rfl rfl (by omega)) ?_
   simp only [Act.put, pu]
   refine pw_as (by rfl) rfl rfl ?_
   simp only [Act.put, pu]
   refine pw_nil ?_
   go_wp2
   go_roundg gg
   case measure => omega
   case rel => exact ⟨i + 1, by omega, rfl, rA, ⟨rG, rR, rF⟩, sb⟩
theorem walk (a0 : Int) (s : List UInt8) (n ca : Nat) (ab : Option Addr) (f : Nat → Nat) (gb ob : Nat) (bcs : Array Value) (tb : TypeId) (w : World) (hna : NatsAt w ab n f gb ob bcs tb) :
  Calls Tryz.prog 5 #[.int .i64 a0, .string ⟨(s).toArray⟩, .slice ab n ca] w fun e w' => e = .returned (.bool true) ∧ Below w.heap.size w w' := by
 by_cases hb : 24 < s.length ∨ 30 < n
 ·exact core0 a0 s n ca ab w hb
 have hs : ¬ 24 < s.length := fun h => hb (.inl h)
 have hn : ¬ 30 < n := fun h => hb (.inr h)
 clear hb
 obtain ⟨his, hlt, hG3, h2, hn9, hlk⟩ := pk_gr (ly8 a0 % 3)
 obtain ⟨hsz, hz, hz2, hzQ⟩ := pk_size (ly8 a0 % 3)
 have hpa := params_any a0
 rw [hlk] at hpa
 have hnw : ∀ w' x, Row w' x (lksC (pk (ly8 a0 % 3) 3 3 5) (lN (pk (ly8 a0 % 3) leL otL grL)) twoA) 81 → _ := fun w' x r => gnew_yes _ (pk (ly8 a0 % 3) 3 3 5) (some ⟨x, 0, none⟩) (pk (ly8 a0 % 3) leG otG grG) _ _ x 0 _ _ w' hn9 hG3 (lks_links r hlt) his
 have hsr : ∀ w' x, Row w' x (lksC (pk (ly8 a0 % 3) 3 3 5) (lN (pk (ly8 a0 % 3) leL otL grL)) twoA) 81 → _ := fun w' x r => rSize_any (pk (ly8 a0 % 3) 3 3 5) (pk (ly8 a0 % 3) 3 3 5) (some ⟨x, 0, none⟩) (pk (ly8 a0 % 3) leG otG grG) _ _ x 0 _ _ w' h2 hn9 (lks_links r hlt)
 have hQ := hlt (pk (ly8 a0 % 3) 3 3 5 - 2) (by omega)
 rw [hsz] at hsr
 clear hlk his hlt
 generalize lN (pk (ly8 a0 % 3) leL otL grL) (pk (ly8 a0 % 3) 3 3 5 - 1) = PP at *
 generalize lN (pk (ly8 a0 % 3) leL otL grL) (pk (ly8 a0 % 3) 3 3 5 - 2) = QQ at *
 generalize lksC (pk (ly8 a0 % 3) 3 3 5) (lN (pk (ly8 a0 % 3) leL otL grL)) twoA = LK at *
 generalize pk (ly8 a0 % 3) 3 3 14 = z at *
 generalize pk (ly8 a0 % 3) 3 3 5 = N1 at *
 generalize pk (ly8 a0 % 3) leG otG grG = G3 at *
 have hlen : (ckL s true).length = s.length + 1 := rfl
 have hmb : pN (ckL s true).length z ≤ 1000 := Nat.le_trans (pN_le hz) (by omega)
 have hV : tkT z n f = true → (tkV z n f).length ≤ 24 := fun ht => by
  cases hr : tkR z n f with
  | none => rw [(tk_none hr).1]; decide
  | some y =>
   rw [(tk_some (v := y.1) (t := y.2) hr).1]
   exact (tkR_is (v := y.1) (t := y.2) hr).1.1
 have hE : Hid (tkE z n f = 4 ∨ tkE z n f = 0 ∧ n = pN (ckL (tkV z n f) (tkT z n f)).length z ∧ ∀ i, i < n → ckF (ckL (tkV z n f) (tkT z n f)) z i = f i) := by
  show tkE z n f = 4 ∨ tkE z n f = 0 ∧ n = pN (ckL (tkV z n f) (tkT z n f)).length z ∧ ∀ i, i < n → ckF (ckL (tkV z n f) (tkT z n f)) z i = f i
  cases hr : tkR z n f with
  | none => exact .inl (tk_none hr).2.2
  | some y =>
   obtain ⟨e1, e2, e3⟩ := tk_some (v := y.1) (t := y.2) hr
   have hc := (tkR_is (v := y.1) (t := y.2) hr).1
   rw [e1, e2, e3]
   exact .inr ⟨rfl, hc.2.1, fun i hi => (hc.2.2 i hi).symm⟩
 have hput := fun (v : List UInt8) (b : Bool) (hv : b = true → v.length ≤ 24) w' g gr gf (h : GrpAt w' g gr gf PP QQ G3) => put_ok (some ⟨g, 0, none⟩) z v b w' hz hz2 hv (h.szz hQ hsz)
 have htake := fun (v : List UInt8) (b : Bool) (hv : v.length ≤ 24) (hvb : b = false → v = []) w' g gr gf (h : GrpAt w' g gr gf PP QQ G3) x (r : Row w' x (nsC (pN (ckL v b).length z) (ckF (ckL v b) z)) 26) => ckTake_any (some ⟨g, 0, none⟩) z (pN (ckL v b).length z) (pN (ckL v b).length z) (some ⟨x, 0, none⟩) (ckF (ckL v b) z) x 0 _ _ w' hz hz2 (h.szz hQ hsz) (nats_row r (fun i _ => ckF_256 _ _ hz2))
 have hyes := fun (v : List UInt8) (b : Bool) (hv : v.length ≤ 24) (hvb : b = false → v = []) => tk_some (tkR_of hz (show ckIs z (pN (ckL v b).length z) (ckF (ckL v b) z) v b from ⟨hv, rfl, fun _ _ => rfl⟩) hvb)
 refine core1 a0 s n ca ab f gb ob bcs tb N1 G3 G3 PP QQ _ _ _ _ _ _ LK (tkV z n f) (tkT z n f) (tkE z n f) w hs hn hna hmb hQ (fun i => Nat.lt_of_lt_of_le (ckF_lt (ckL s true) z i) hzQ) (fun i => ckF_256 _ _ hz2) hE hpa hnw
  (hput s true (fun _ => by omega)) (fun w' g gr gf h x r => ?_) (hput s false (fun e => by cases e)) (fun w' g gr gf h x r => ?_)
  (fun w' hb g gr gf h => ckTake_any (some ⟨g, 0, none⟩) z n ca ab f gb ob bcs tb w' hz hz2 (h.szz hQ hsz) (hna.below hb)) (hput _ _ hV)
 ·have h1 := htake s true (by omega) (fun e => by cases e) w' g gr gf h x r
  obtain ⟨e1, e2, e3⟩ := hyes s true (by omega) (fun e => by cases e)
  rw [e1, e2, e3] at h1
  exact h1
 ·have h1 := htake [] false (by decide) (fun _ => rfl) w' g gr gf h x r
  obtain ⟨e1, e2, e3⟩ := hyes [] false (by decide) (fun _ => rfl)
  rw [e1, e2, e3] at h1
  exact h1
set_option maxRecDepth 100000 in
theorem lifted (os : Os) (started : os.Started) (H : Type) (enc : TypeId × Value → H) :
  ReturnsInHanded {} Tryz.checked os 5 .any (fun w args => (Rows.chunkBackSpec.pre enc Tryz.prog Tryz.f5 [] false w args ∧ laidMetH Tryz.prog lk w) ∧ sizedMet enc Tryz.prog Tryz.f5 (OpenSpec.ofChange Rows.chunkBackSpec) false w args)
   (Rows.chunkBackSpec.post enc Tryz.prog Tryz.f5 false true false false) := by
 refine returnsInHanded_of_change_and (C := Tryz.checked) (X := fun w _ => laidMetH Tryz.prog lk w) (fun _ _ _ hh h => h.of_heap hh) own started (by kernel_rfl) Tryz.func5
  (ChangeSpec.witness_shaped (enc := enc) (C := Tryz.checked) (os := os) (X := fun w _ => laidMetH Tryz.prog lk w) false (World.laidAll Tryz.prog os lk) #[.int .i64 0, .string ⟨#[]⟩, .slice none 0 0] 8 (World.laidAll_os _ _ _) (lk_shaped os _) (by kernel_rfl) (by kernel_rfl) (by kernel_rfl) (lk_met os _)) ?_
 intro W base args ds gs before hval0 hW _ _ hL _
 have hval : ∀ (j : Nat) t v, Tryz.f5.params[j]? = some t → args[j]? = some v → Value.okWide Tryz.prog W .any base t v := hval0
 have hW' := hW
 obtain ⟨p, q, hA0, hV, rfl, hfz, hnd⟩ := hW
 have hA : DataW.TrodAll enc Tryz.prog W 0 (fun _ => true) true Tryz.f5.params.toList args.toList ds p := hA0
 rw [Tryz.params5] at hA hval
 obtain ⟨v0, vs0, d0, ds0, p0, q0, hargs, rfl, rfl, h0, r0⟩ := trodAll_cons hA
 obtain ⟨v1, vs1, d1, ds1, p1, q1, rfl, rfl, rfl, h1, r1⟩ := trodAll_cons r0
 obtain ⟨v2, vs2, d2, ds2, p2, q2, rfl, rfl, rfl, h2, r2⟩ := trodAll_cons r1
 obtain ⟨rfl, rfl, rfl⟩ := trodAll_nil r2
 obtain rfl : args = #[v0, v1, v2] := by cases args; simp_all
 obtain ⟨rfl, rfl⟩ := trodVars_none hV
 have k0 := h0
 have lt0 := lt_of_trod h0
 obtain ⟨a0, rfl, rfl, rfl, w0⟩ := open_int Tryz.underlying3 (hval 0 3 v0 rfl rfl) h0
 have k1 := h1
 have lt1 := lt_of_trod h1
 obtain ⟨⟨⟨s1⟩⟩, rfl, rfl, rfl, w1⟩ := open_string Tryz.underlying9 (hval 1 9 v1 rfl rfl) h1
 have k2 := h2
 have lt2 := lt_of_trod h2
 obtain ⟨ab2, m2, c2, e2, gb2, ob2, bcs2, tb2, rfl, la2, lb2, hq2⟩ := open_nats (hval 2 34 v2 rfl rfl) h2
 clear hA0 hval0
 refine (walk a0 s1 m2 c2 ab2 e2 gb2 ob2 bcs2 tb2 W hq2).mono fun e W' ⟨he, bel⟩ => ?_
 subst he
 exact ⟨_, rfl, _, _, _, [], _, [], hW', trodAll_mk1 (shut_bool Tryz.underlying4 _), (trodAll_cons_mk (Below.trod laidOut (by kernel_rfl) (of_decide_eq_true (by kernel_rfl)) k0 bel lt0) (trodAll_cons_mk (Below.trod laidOut (by kernel_rfl) (of_decide_eq_true (by kernel_rfl)) k1 bel lt1) (trodAll_cons_mk (Below.trod laidOut (by kernel_rfl) (of_decide_eq_true (by kernel_rfl)) k2 bel lt2) trodAll_mk0))), rfl, bel.frame _, fun h => by cases h⟩
theorem over : Rows.chunkBackRow.holds Tryz.pinned (OpenSpec.ofChange Rows.chunkBackSpec) :=
 OpenClaim.holds_of_wide 5 Tryz.f5 rfl rfl rfl rfl rfl rfl rfl ⟨rfl, rfl, rfl, rfl, rfl⟩ rfl rfl rfl rfl rfl (by kernel_rfl) Tryz.func5 (by kernel_rfl)
  (of_decide_eq_true (by kernel_rfl)) (by unfold Func.isWrapper; first | (rw [if_pos (by decide +kernel)]; kernel_rfl) | (rw [if_neg (by decide +kernel)]; exact ⟨rfl, rfl⟩))
  (fun os started H enc _ => lifted os started H enc)
theorem card : Claim7.holds Tryz.pinned (.plain (OpenSpec.ofChange Rows.chunkBackSpec)) Rows.chunkBackCard :=
 Claim7.holds_tied_plain_at .later [] [.data, .pinned] true (true, "fb71ec877aa5d0a01abb10ab77a2e721b5dff07206276bf18777fa8edd522a24") false
  over (fun _ h => by cases h) (by kernel_rfl) (fun _ h => by cases h) chunkBack_row_tie rfl ⟨rfl, rfl⟩ (by kernel_rfl) rfl
  (fun f fn hf hfn => by
   obtain rfl : f = 5 := Option.some.inj ((show Tryz.prog.funcNamed "sacristy/sacristylaw11.ChunkBack" = some 5 by kernel_rfl).symm.trans hf) |>.symm
   obtain rfl : fn = Tryz.f5 := (Option.some.inj (Tryz.func5.symm.trans hfn)).symm
   exact ⟨by kernel_rfl, fun j t ht => by
    rw [Tryz.params5] at ht
    have hm : t ∈ [3, 9, 34] := by simpa using Array.mem_of_getElem? ht
    have hall : ([3, 9, 34].all fun u => !Tryz.prog.wantsStandIn u) = true := by kernel_rfl
    exact (show Tryz.prog.wantsStandIn t = false by simpa using List.all_eq_true.1 hall t hm)⟩)
  (by kernel_rfl)
end chunkBackP
/-- for every number, text and list of naturals: in one of the three groups what is put (a value of up to 24 bytes, or none) is taken as it was, each number is below Q, and what up to 30 naturals tell has just these numbers; no condition. -/
theorem chunkBack_holds : Rows.ChunkBackCardSaid := chunkBackP.card
end Go.Proofs.YtdemabfpcepnfaaGreatDoor
