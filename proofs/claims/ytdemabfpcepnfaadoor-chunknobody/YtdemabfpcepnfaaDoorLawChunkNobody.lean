/- ChunkNobody: for every text and list of naturals: of up to 24 bytes, up to 30 naturals: without a group nothing is put, taken or counted, and nothing fails; no condition. -/
import Derived.Test.YtdemabfpcepnfaaDoorCD
import Derived.Test.YtdemabfpcepnfaaDoorTpLaid
namespace Go.Proofs.YtdemabfpcepnfaaDoor
open Go.ChangeShapes Go.WideShapes Go.ChangeAt Go.RowKit
open Go.ChangeMaps (open_string)
namespace chunkNobodyP
set_option linter.unusedVariables false
theorem sl_grp : Tryd.prog.underlying 33 = some (.slice (Tryd.prog.elem 33)) := by kernel_rfl
theorem info_pgx : (Tryd.prog.info? 24).map (fun i => (i.zero, i.size)) = some (some (.pointer none), 1) := by kernel_rfl
theorem info_pg : ∃ i, Tryd.prog.info? 24 = some i ∧ i.zero = some (.pointer none) ∧ i.size = 1 := by
 cases hi : Tryd.prog.info? 24 with
 | none => have := info_pgx; rw [hi] at this; cases this
 | some i =>
  have h := info_pgx
  rw [hi] at h
  simp only [Option.map_some, Option.some.injEq, Prod.mk.injEq] at h
  exact ⟨i, rfl, h.1, h.2⟩
theorem lit_pg (v : Option Addr) (k : Nat) (hk : k = 1) : Instr.fill (fun i => some (i * k, k)) ((Array.range (2 * k)).map ((Value.pointer none).cells[· % (Value.pointer none).cells.size]!)) [(0, .pointer none), (1, .pointer v)] = some #[.pointer none, .pointer v] := by
 subst hk
 kernel_rfl
/-- The one of the two. -/
def vOf (g : Nat) (i : Nat) : Option Addr := if i = 0 then none else some ⟨g, 0, none⟩
theorem v_at (g i : Nat) (hi : i < 2) : (#[.pointer none, .pointer (some ⟨g, 0, none⟩)] : Array Value)[0 + i * 1]? = some (.pointer (vOf g i)) := by
 match i, hi with
 | 0, _ => rfl
 | 1, _ => rfl
theorem v_no {w : World} {g : Nat} (i : Nat) (h : Row w g (gpC 0 0 0 none none) 32) : NoG w (vOf g i) := by
 unfold vOf
 split
 ·exact .inl ⟨rfl, rfl, rfl, rfl, rfl, rfl⟩
 ·exact .inr ⟨g, rfl, h⟩
theorem nog_sz {w : World} {v : Option Addr} (h : NoG w v) : SzAt w v 0 := by
 have h1 := KnAt.sz (by decide) h
 exact h1
set_option maxRecDepth 100000 in
set_option maxHeartbeats 2000000 in
theorem core0 (s : List UInt8) (n ca : Nat) (ab : Option Addr) (w : World) (h : 24 < s.length ∨ 30 < n) :
  Calls Tryd.prog 3 #[.string ⟨(s).toArray⟩, .slice ab n ca] w fun e w' => e = .returned (.bool true) ∧ Below w.heap.size w w' := by
 have haw := awake11_any
 go_enter Tryd.func3, Tryd.ntmps3
 have sb := sbmk w
 (repeat ((fail_if_success with_reducible refine rg ?_); go_step))
 refine wp_region_pw ?_
 refine pw_value (by rfl) (.bool false) (fun _ => rfl) ?_
 simp only [Act.put, pu]
 refine pw_nil ?_
 by_cases h12 : 24 < s.length
 ·clear h
  (repeat ((fail_if_success with_reducible refine rg ?_); go_step))
  refine wp_region_pw ?_
  refine pw_mv (by rfl) rfl rfl ?_
  simp only [Act.put, pu]
  refine pw_value (by rfl) (.int .i64 s.length) (y_lenS _ _ rfl s rfl Tryd.underlying9) ?_
  simp only [Act.put, pu]
  refine pw_value (by rfl) (.bool true) (exec_gt_i _ _ _ _ rfl s.length 24 rfl rfl true (decide_eq_true (by omega))) ?_
  simp only [Act.put, pu]
  refine pw_mv (by rfl) rfl rfl ?_
  simp only [Act.put, pu]
  refine pw_skip (by rfl) ?_
  simp only [Act.put, pu]
  refine pw_skip (by rfl) ?_
  simp only [Act.put, pu]
  refine pw_skip (by rfl) ?_
  simp only [Act.put, pu]
  refine pw_pick (by rfl) true (v := .bool true) rfl rfl rfl ?_
  simp only [Act.put, pu]
  refine pw_nil ?_
  (repeat ((fail_if_success with_reducible refine rg ?_); go_step))
  refine wp_region_pw ?_
  refine pw_callB (by rfl) 4 _ _ rfl Tryd.func4 (by kernel_rfl) #[] rfl _ (haw _) ?_
  intro z2000 k
  simp only [Act.put, pu]
  replace sb := sb.trans (k.below w.heap.size sb.size (by simp <;> omega))
  clear k
  refine pw_as (by rfl) rfl rfl ?_
  simp only [Act.put, pu]
  refine pw_nil ?_
  go_wp2
  go_ret
  exact ⟨rfl, sb⟩
 ·have hm12 : 30 < n := h.resolve_left h12
  clear h
  (repeat ((fail_if_success with_reducible refine rg ?_); go_step))
  refine wp_region_pw ?_
  refine pw_mv (by rfl) rfl rfl ?_
  simp only [Act.put, pu]
  refine pw_value (by rfl) (.int .i64 s.length) (y_lenS _ _ rfl s rfl Tryd.underlying9) ?_
  simp only [Act.put, pu]
  refine pw_value (by rfl) (.bool false) (exec_gt_i _ _ _ _ rfl s.length 24 rfl rfl false (decide_eq_false (by omega))) ?_
  simp only [Act.put, pu]
  refine pw_mv (by rfl) rfl rfl ?_
  simp only [Act.put, pu]
  refine pw_mv (by rfl) rfl rfl ?_
  simp only [Act.put, pu]
  refine pw_value (by rfl) (.int .i64 n) (exec_len_s 22 _ rfl ab n ca rfl sl_natsX) ?_
  simp only [Act.put, pu]
  refine pw_value (by rfl) (.bool true) (exec_gt_i _ _ _ _ rfl n 30 rfl rfl true (decide_eq_true (by omega))) ?_
  simp only [Act.put, pu]
  refine pw_pick (by rfl) false (v := .bool true) rfl rfl rfl ?_
  simp only [Act.put, pu]
  refine pw_nil ?_
  (repeat ((fail_if_success with_reducible refine rg ?_); go_step))
  refine wp_region_pw ?_
  refine pw_callB (by rfl) 4 _ _ rfl Tryd.func4 (by kernel_rfl) #[] rfl _ (haw _) ?_
  intro z2000 k
  simp only [Act.put, pu]
  replace sb := sb.trans (k.below w.heap.size sb.size (by simp <;> omega))
  clear k
  refine pw_as (by rfl) rfl rfl ?_
  simp only [Act.put, pu]
  refine pw_nil ?_
  go_wp2
  go_ret
  exact ⟨rfl, sb⟩
set_option maxRecDepth 100000 in
set_option maxHeartbeats 2000000 in
theorem core1 (s : List UInt8) (n ca : Nat) (ab : Option Addr) (w : World) (hs : ¬ 24 < s.length) (hn : ¬ 30 < n) :
  Calls Tryd.prog 3 #[.string ⟨(s).toArray⟩, .slice ab n ca] w fun e w' => e = .returned (.bool true) ∧ Below w.heap.size w w' := by
 have haw := awake11_any
 obtain ⟨ip, hip, hzp, hsz0⟩ := info_pg
 have hp1 : ¬ 2 * ip.size > 2 ^ 24 := by rw [hsz0]; decide
 have hp2 : ¬ 2 * ip.size = 0 := by rw [hsz0]; decide
 have hl := fun v => lit_pg v ip.size hsz0
 go_enter Tryd.func3, Tryd.ntmps3
 have sb := sbmk w
 (repeat ((fail_if_success with_reducible refine rg ?_); go_step))
 refine wp_region_pw ?_
 refine pw_value (by rfl) (.bool false) (fun _ => rfl) ?_
 simp only [Act.put, pu]
 refine pw_nil ?_
 (repeat ((fail_if_success with_reducible refine rg ?_); go_step))
 refine wp_region_pw ?_
 refine pw_mv (by rfl) rfl rfl ?_
 simp only [Act.put, pu]
 refine pw_value (by rfl) (.int .i64 s.length) (y_lenS _ _ rfl s rfl Tryd.underlying9) ?_
 simp only [Act.put, pu]
 refine pw_value (by rfl) (.bool false) (exec_gt_i _ _ _ _ rfl s.length 24 rfl rfl false (decide_eq_false (by omega))) ?_
 simp only [Act.put, pu]
 refine pw_mv (by rfl) rfl rfl ?_
 simp only [Act.put, pu]
 refine pw_mv (by rfl) rfl rfl ?_
 simp only [Act.put, pu]
 refine pw_value (by rfl) (.int .i64 n) (exec_len_s 22 _ rfl ab n ca rfl sl_natsX) ?_
 simp only [Act.put, pu]
 refine pw_value (by rfl) (.bool false) (exec_gt_i _ _ _ _ rfl n 30 rfl rfl false (decide_eq_false (by omega))) ?_
 simp only [Act.put, pu]
 refine pw_pick (by rfl) false (v := .bool false) rfl rfl rfl ?_
 simp only [Act.put, pu]
 refine pw_nil ?_
 (repeat ((fail_if_success with_reducible refine rg ?_); go_step))
 refine wp_region_pw ?_
 refine pw_value (by rfl) (.agg (gpC 0 0 0 none none)) (exec_build0 _ rfl _ built_gp0) ?_
 simp only [Act.put, pu]
 refine pw_boxr (by rfl) 32 _ rfl (_) rfl ?_
 intro g22 z3001 n0 r22 k
 simp only [Act.put, pu]
 have b22 := Nat.le_trans sb.size n0
 clear n0
 replace sb := sb.trans (k.below w.heap.size sb.size (by simp <;> omega))
 clear k
 refine pw_litr (by rfl) 33 24 2 _ rfl #[.pointer none, .pointer (some ⟨g22, 0, none⟩)] ip _ Tryd.underlying33 hip hzp hp1 hp2 [(0, .pointer none), (1, .pointer (some ⟨g22, 0, none⟩))] rfl (hl _) ?_
 intro gT z3002 n0 rT k
 simp only [Act.put, pu]
 have d22xT := Nat.lt_of_lt_of_le r22.lt n0
 have bT := Nat.le_trans sb.size n0
 clear n0
 replace r22 := k.row r22 (by simp <;> omega)
 replace sb := sb.trans (k.below w.heap.size sb.size (by simp <;> omega))
 clear k
 refine pw_as (by rfl) rfl rfl ?_
 simp only [Act.put, pu]
 refine pw_nil ?_
 clear hl hp1 hp2 hzp hip hsz0
 (repeat ((fail_if_success with_reducible refine rg ?_); go_step))
 refine wp_region_pw ?_
 refine pw_value (by rfl) (.int .i64 0) (fun _ => rfl) ?_
 simp only [Act.put, pu]
 refine pw_nil ?_
 go_wp2_with fail
 go_loopg [6, 7, 8, 9, 10, 11] 2 (fun g s6 s7 s8 s9 s10 s11 wr => ∃ i : Nat, i + g = 2 ∧ s6 = .int .i64 i ∧ Row wr g22 (gpC 0 0 0 none none) 32 ∧ Row wr gT #[.pointer none, .pointer (some ⟨g22, 0, none⟩)] 24 ∧ Below w.heap.size w wr)
 case atStart => exact ⟨0, by omega, rfl, r22, rT, sb⟩
 case round =>
  clear r22 rT sb
  obtain ⟨i, hi, rfl, r22, rT, sb⟩ := hrel
  cases gk with
  | zero =>
   obtain rfl : i = 2 := by omega
   clear hi r22 rT
   (repeat ((fail_if_success with_reducible refine rg ?_); go_step))
   refine wp_region_pw ?_
   refine pw_mv (by rfl) rfl rfl ?_
   simp only [Act.put, pu]
   refine pw_mv (by rfl) rfl rfl ?_
   simp only [Act.put, pu]
   refine pw_value (by rfl) (.int .i64 2) (exec_len_s 33 _ rfl (some ⟨gT, 0, none⟩) 2 2 rfl sl_grp) ?_
   simp only [Act.put, pu]
   refine pw_value (by rfl) (.bool false) (exec_lt_b _ _ _ _ rfl ((2 : Nat) : Int) 2 rfl rfl false rfl) ?_
   simp only [Act.put, pu]
   refine pw_nil ?_
   (repeat ((fail_if_success with_reducible refine rg ?_); go_step))
   refine wp_region_pw ?_
   refine pw_callB (by rfl) 4 _ _ rfl Tryd.func4 (by kernel_rfl) #[] rfl _ (haw _) ?_
   intro z11000 k
   simp only [Act.put, pu]
   replace sb := sb.trans (k.below w.heap.size sb.size (by simp <;> omega))
   clear k
   refine pw_as (by rfl) rfl rfl ?_
   simp only [Act.put, pu]
   refine pw_nil ?_
   go_wp2
   go_ret
   exact ⟨rfl, sb⟩
  | succ g =>
   clear haw
   have hv := v_at g22 i (by omega)
   (repeat ((fail_if_success with_reducible refine rg ?_); go_step))
   refine wp_region_pw ?_
   refine pw_mv (by rfl) rfl rfl ?_
   simp only [Act.put, pu]
   refine pw_mv (by rfl) rfl rfl ?_
   simp only [Act.put, pu]
   refine pw_value (by rfl) (.int .i64 2) (exec_len_s 33 _ rfl (some ⟨gT, 0, none⟩) 2 2 rfl sl_grp) ?_
   simp only [Act.put, pu]
   refine pw_value (by rfl) (.bool true) (exec_lt_b _ _ _ _ rfl i 2 rfl rfl true (decide_eq_true (by omega))) ?_
   simp only [Act.put, pu]
   refine pw_nil ?_
   have hkv : ∀ w', Row w' g22 (gpC 0 0 0 none none) 32 → SzAt w' (vOf g22 i) 0 := fun w' h => nog_sz (v_no i h)
   generalize vOf g22 i = v at *
   (repeat ((fail_if_success with_reducible refine rg ?_); go_step))
   refine wp_region_pw ?_
   refine pw_mv (by rfl) rfl rfl ?_
   simp only [Act.put, pu]
   refine pw_mv (by rfl) rfl rfl ?_
   simp only [Act.put, pu]
   refine pw_value (by rfl) (.pointer (some ⟨gT, 0 + i * 1, none⟩)) (exec_index_s 33 _ _ rfl gT 0 2 2 rfl i rfl (by omega) _ Tryd.underlying33 1 Tryd.sizeOf24) ?_
   simp only [Act.put, pu]
   refine pw_loadk (by rfl) 24 _ rfl _ (0 + i * 1) rfl rT.r (.pointer v) hv Tryd.isAgg24 ?_
   simp only [Act.put, pu]
   refine pw_mv (by rfl) rfl rfl ?_
   simp only [Act.put, pu]
   refine pw_callB (by rfl) 5 _ _ rfl Tryd.func5 (by kernel_rfl) #[.pointer v, .string ⟨(s).toArray⟩, .bool true] rfl _ (put_nog v s true _ (hkv _ r22)) ?_
   intro z7005 k
   simp only [Act.put, pu]
   replace r22 := k.row r22 (by simp <;> omega)
   replace rT := k.row rT (by simp <;> omega)
   replace sb := sb.trans (k.below w.heap.size sb.size (by simp <;> omega))
   clear k
   refine pw_mv (by rfl) rfl rfl ?_
   simp only [Act.put, pu]
   refine pw_ext (by rfl) rfl rfl rfl ?_
   simp only [Act.put, pu]
   refine pw_ext (by rfl) rfl rfl rfl ?_
   simp only [Act.put, pu]
   refine pw_as (by rfl) rfl rfl ?_
   simp only [Act.put, pu]
   refine pw_as (by rfl) rfl rfl ?_
   simp only [Act.put, pu]
   refine pw_nil ?_
   (repeat ((fail_if_success with_reducible refine rg ?_); go_step))
   refine wp_region_pw ?_
   refine pw_mv (by rfl) rfl rfl ?_
   simp only [Act.put, pu]
   refine pw_mv (by rfl) rfl rfl ?_
   simp only [Act.put, pu]
   refine pw_value (by rfl) (.pointer (some ⟨gT, 0 + i * 1, none⟩)) (exec_index_s 33 _ _ rfl gT 0 2 2 rfl i rfl (by omega) _ Tryd.underlying33 1 Tryd.sizeOf24) ?_
   simp only [Act.put, pu]
   refine pw_loadk (by rfl) 24 _ rfl _ (0 + i * 1) rfl rT.r (.pointer v) hv Tryd.isAgg24 ?_
   simp only [Act.put, pu]
   refine pw_mv (by rfl) rfl rfl ?_
   simp only [Act.put, pu]
   refine pw_callB (by rfl) 6 _ _ rfl Tryd.func6 (by kernel_rfl) #[.pointer v, .slice ab n ca] rfl _ (take_nog v n ca ab _ (hkv _ r22)) ?_
   intro z8005 k
   simp only [Act.put, pu]
   replace r22 := k.row r22 (by simp <;> omega)
   replace rT := k.row rT (by simp <;> omega)
   replace sb := sb.trans (k.below w.heap.size sb.size (by simp <;> omega))
   clear k
   refine pw_mv (by rfl) rfl rfl ?_
   simp only [Act.put, pu]
   refine pw_ext (by rfl) rfl rfl rfl ?_
   simp only [Act.put, pu]
   refine pw_ext (by rfl) rfl rfl rfl ?_
   simp only [Act.put, pu]
   refine pw_ext (by rfl) rfl rfl rfl ?_
   simp only [Act.put, pu]
   refine pw_as (by rfl) rfl rfl ?_
   simp only [Act.put, pu]
   refine pw_as (by rfl) rfl rfl ?_
   simp only [Act.put, pu]
   refine pw_as (by rfl) rfl rfl ?_
   simp only [Act.put, pu]
   refine pw_nil ?_
   (repeat ((fail_if_success with_reducible refine rg ?_); go_step))
   refine wp_region_pw ?_
   refine pw_mv (by rfl) rfl rfl ?_
   simp only [Act.put, pu]
   refine pw_value (by rfl) (.int .i64 (0 : Nat)) (exec_len_s 22 _ rfl none 0 0 rfl sl_natsX) ?_
   simp only [Act.put, pu]
   refine pw_value (by rfl) (.bool false) (exec_gt_i _ _ _ _ rfl (0 : Nat) 0 rfl rfl false rfl) ?_
   simp only [Act.put, pu]
   refine pw_mv (by rfl) rfl rfl ?_
   simp only [Act.put, pu]
   refine pw_mv (by rfl) rfl rfl ?_
   simp only [Act.put, pu]
   refine pw_value (by rfl) (.bool false) (exec_neq_k .i64 _ _ _ _ rfl 1 1 rfl rfl false rfl) ?_
   simp only [Act.put, pu]
   refine pw_pick (by rfl) false (v := .bool false) rfl rfl rfl ?_
   simp only [Act.put, pu]
   refine pw_mv (by rfl) rfl rfl ?_
   simp only [Act.put, pu]
   refine pw_mv (by rfl) rfl rfl ?_
   simp only [Act.put, pu]
   refine pw_value (by rfl) (.bool false) (y_neS _ _ _ _ rfl [] [] rfl rfl false (decide_eq_true rfl)) ?_
   simp only [Act.put, pu]
   refine pw_pick (by rfl) false (v := .bool false) rfl rfl rfl ?_
   simp only [Act.put, pu]
   refine pw_mv (by rfl) rfl rfl ?_
   simp only [Act.put, pu]
   refine pw_mv (by rfl) rfl rfl ?_
   simp only [Act.put, pu]
   refine pw_pick (by rfl) false (v := .bool false) rfl rfl rfl ?_
   simp only [Act.put, pu]
   refine pw_mv (by rfl) rfl rfl ?_
   simp only [Act.put, pu]
   refine pw_mv (by rfl) rfl rfl ?_
   simp only [Act.put, pu]
   refine pw_value (by rfl) (.bool false) (exec_neq_k .i64 _ _ _ _ rfl 1 1 rfl rfl false rfl) ?_
   simp only [Act.put, pu]
   refine pw_pick (by rfl) false (v := .bool false) rfl rfl rfl ?_
   simp only [Act.put, pu]
   refine pw_mv (by rfl) rfl rfl ?_
   simp only [Act.put, pu]
   refine pw_mv (by rfl) rfl rfl ?_
   simp only [Act.put, pu]
   refine pw_mv (by rfl) rfl rfl ?_
   simp only [Act.put, pu]
   refine pw_value (by rfl) (.pointer (some ⟨gT, 0 + i * 1, none⟩)) (exec_index_s 33 _ _ rfl gT 0 2 2 rfl i rfl (by omega) _ Tryd.underlying33 1 Tryd.sizeOf24) ?_
   simp only [Act.put, pu]
   refine pw_loadk (by rfl) 24 _ rfl _ (0 + i * 1) rfl rT.r (.pointer v) hv Tryd.isAgg24 ?_
   simp only [Act.put, pu]
   refine pw_mv (by rfl) rfl rfl ?_
   simp only [Act.put, pu]
   refine pw_value (by rfl) (.int .i64 s.length) (y_lenS _ _ rfl s rfl Tryd.underlying9) ?_
   simp only [Act.put, pu]
   refine pw_callB (by rfl) 7 _ _ rfl Tryd.func7 (by kernel_rfl) #[.pointer v, .int .i64 (s.length : Nat)] rfl _ (ckCount_nog v _ _ (hkv _ r22)) ?_
   intro z9025 k
   simp only [Act.put, pu]
   replace r22 := k.row r22 (by simp <;> omega)
   replace rT := k.row rT (by simp <;> omega)
   replace sb := sb.trans (k.below w.heap.size sb.size (by simp <;> omega))
   clear k
   refine pw_value (by rfl) (.bool false) (exec_neq_k .i64 _ _ _ _ rfl 0 0 rfl rfl false rfl) ?_
   simp only [Act.put, pu]
   refine pw_pick (by rfl) false (v := .bool false) rfl rfl rfl ?_
   simp only [Act.put, pu]
   refine pw_nil ?_
   (repeat ((fail_if_success with_reducible refine rg ?_); go_step))
   refine wp_region_pw ?_
   refine pw_mv (by rfl) rfl rfl ?_
   simp only [Act.put, pu]
   refine pw_value (by rfl) (.int .i64 ((i + 1 : Nat) : Int)) (exec_add_in _ _ _ _ rfl i 1 rfl rfl (by omega)) ?_
   simp only [Act.put, pu]
   refine pw_as (by rfl) rfl rfl ?_
   simp only [Act.put, pu]
   refine pw_nil ?_
   go_wp2
   go_roundg g
   case measure => omega
   case rel => exact ⟨i + 1, by omega, rfl, r22, rT, sb⟩
theorem walk (s : List UInt8) (n ca : Nat) (ab : Option Addr) (w : World) :
  Calls Tryd.prog 3 #[.string ⟨(s).toArray⟩, .slice ab n ca] w fun e w' => e = .returned (.bool true) ∧ Below w.heap.size w w' := by
 by_cases hb : 24 < s.length ∨ 30 < n
 ·exact core0 s n ca ab w hb
 ·exact core1 s n ca ab w (fun h => hb (.inl h)) (fun h => hb (.inr h))
set_option maxRecDepth 100000 in
theorem lifted (os : Os) (started : os.Started) (H : Type) (enc : TypeId × Value → H) :
  ReturnsInHanded {} Tryd.checked os 3 .any (fun w args => (Rows.chunkNobodySpec.pre enc Tryd.prog Tryd.f3 [] false w args ∧ laidMetH Tryd.prog lk w) ∧ sizedMet enc Tryd.prog Tryd.f3 (OpenSpec.ofChange Rows.chunkNobodySpec) false w args)
   (Rows.chunkNobodySpec.post enc Tryd.prog Tryd.f3 false true false false) := by
 refine returnsInHanded_of_change_and (C := Tryd.checked) (X := fun w _ => laidMetH Tryd.prog lk w) (fun _ _ _ hh h => h.of_heap hh) own started (by kernel_rfl) Tryd.func3
  (ChangeSpec.witness_shaped (enc := enc) (C := Tryd.checked) (os := os) (X := fun w _ => laidMetH Tryd.prog lk w) false (World.laidAll Tryd.prog os lk) #[.string ⟨#[]⟩, .slice none 0 0] 8 (World.laidAll_os _ _ _) (lk_shaped os _) (by kernel_rfl) (by kernel_rfl) (by kernel_rfl) (lk_met os _)) ?_
 intro W base args ds gs before hval0 hW _ _ hL _
 have hval : ∀ (j : Nat) t v, Tryd.f3.params[j]? = some t → args[j]? = some v → Value.okWide Tryd.prog W .any base t v := hval0
 have hW' := hW
 obtain ⟨p, q, hA0, hV, rfl, hfz, hnd⟩ := hW
 have hA : DataW.TrodAll enc Tryd.prog W 0 (fun _ => true) true Tryd.f3.params.toList args.toList ds p := hA0
 rw [Tryd.params3] at hA hval
 obtain ⟨v0, vs0, d0, ds0, p0, q0, hargs, rfl, rfl, h0, r0⟩ := trodAll_cons hA
 obtain ⟨v1, vs1, d1, ds1, p1, q1, rfl, rfl, rfl, h1, r1⟩ := trodAll_cons r0
 obtain ⟨rfl, rfl, rfl⟩ := trodAll_nil r1
 obtain rfl : args = #[v0, v1] := by cases args; simp_all
 obtain ⟨rfl, rfl⟩ := trodVars_none hV
 have k0 := h0
 have lt0 := lt_of_trod h0
 obtain ⟨⟨⟨s0⟩⟩, rfl, rfl, rfl, w0⟩ := open_string Tryd.underlying9 (hval 0 9 v0 rfl rfl) h0
 have k1 := h1
 have lt1 := lt_of_trod h1
 obtain ⟨ab1, m1, c1, e1, gb1, ob1, bcs1, tb1, rfl, la1, lb1, hq1⟩ := open_nats (hval 1 22 v1 rfl rfl) h1
 clear hA0 hval0
 refine (walk s0 m1 c1 ab1 W).mono fun e W' ⟨he, bel⟩ => ?_
 subst he
 exact ⟨_, rfl, _, _, _, [], _, [], hW', trodAll_mk1 (shut_bool Tryd.underlying4 _), (trodAll_cons_mk (Below.trod laidOut (by kernel_rfl) (of_decide_eq_true (by kernel_rfl)) k0 bel lt0) (trodAll_cons_mk (Below.trod laidOut (by kernel_rfl) (of_decide_eq_true (by kernel_rfl)) k1 bel lt1) trodAll_mk0)), rfl, bel.frame _, fun h => by cases h⟩
theorem over : Rows.chunkNobodyRow.holds Tryd.pinned (OpenSpec.ofChange Rows.chunkNobodySpec) :=
 OpenClaim.holds_of_wide 3 Tryd.f3 rfl rfl rfl rfl rfl rfl rfl ⟨rfl, rfl, rfl, rfl, rfl⟩ rfl rfl rfl rfl rfl (by kernel_rfl) Tryd.func3 (by kernel_rfl)
  (of_decide_eq_true (by kernel_rfl)) (by unfold Func.isWrapper; first | (rw [if_pos (by decide +kernel)]; kernel_rfl) | (rw [if_neg (by decide +kernel)]; exact ⟨rfl, rfl⟩))
  (fun os started H enc _ => lifted os started H enc)
theorem card : Claim7.holds Tryd.pinned (.plain (OpenSpec.ofChange Rows.chunkNobodySpec)) Rows.chunkNobodyCard :=
 Claim7.holds_tied_plain_at .later [] [.data, .pinned] true (true, "89389b72b6a3c3e1d3ee3937ba41504e934d0df8d1d9213fdcaa089df5077adb") false
  over (fun _ h => by cases h) (by kernel_rfl) (fun _ h => by cases h) chunkNobody_row_tie rfl ⟨rfl, rfl⟩ (by kernel_rfl) rfl
  (fun f fn hf hfn => by
   obtain rfl : f = 3 := Option.some.inj ((show Tryd.prog.funcNamed "sacristy/sacristylaw11.ChunkNobody" = some 3 by kernel_rfl).symm.trans hf) |>.symm
   obtain rfl : fn = Tryd.f3 := (Option.some.inj (Tryd.func3.symm.trans hfn)).symm
   exact ⟨by kernel_rfl, fun j t ht => by
    rw [Tryd.params3] at ht
    have hm : t ∈ [9, 22] := by simpa using Array.mem_of_getElem? ht
    have hall : ([9, 22].all fun u => !Tryd.prog.wantsStandIn u) = true := by kernel_rfl
    exact (show Tryd.prog.wantsStandIn t = false by simpa using List.all_eq_true.1 hall t hm)⟩)
  (by kernel_rfl)
end chunkNobodyP
/-- for every text and list of naturals: of up to 24 bytes, up to 30 naturals: without a group nothing is put, taken or counted, and nothing fails; no condition. -/
theorem chunkNobody_holds : Rows.ChunkNobodyCardSaid := chunkNobodyP.card
end Go.Proofs.YtdemabfpcepnfaaDoor
