/- GroupNobody: for every natural: groups that nobody made answer nothing, and there is none of a G alone; no condition. -/
import Derived.Test.YtbmkebdfaokmhaaGAwake
import Derived.Test.YtbmkebdfaokmhaaGU
namespace Go.Proofs.Ytbmkebdfaokmhaa
open Go.ChangeShapes Go.WideShapes Go.ChangeAt Go.RowKit
namespace groupNobodyP
theorem sl_grp : Try.prog.underlying 55 = some (.slice (Try.prog.elem 55)) := by kernel_rfl
theorem info_pgx : (Try.prog.info? 29).map (fun i => (i.zero, i.size)) = some (some (.pointer none), 1) := by kernel_rfl
theorem info_pg : ∃ i, Try.prog.info? 29 = some i ∧ i.zero = some (.pointer none) ∧ i.size = 1 := by
 cases hi : Try.prog.info? 29 with
 | none => have := info_pgx; rw [hi] at this; cases this
 | some i =>
  have h := info_pgx
  rw [hi] at h
  simp only [Option.map_some, Option.some.injEq, Prod.mk.injEq] at h
  exact ⟨i, rfl, h.1, h.2⟩
theorem lit_pg (v : Option Addr) (k : Nat) (hk : k = 1) : Instr.fill (fun i => some (i * k, k)) ((Array.range (2 * k)).map ((Value.pointer none).cells[· % (Value.pointer none).cells.size]!)) [(0, .pointer none), (1, .pointer v)] = some #[.pointer none, .pointer v] := by
 subst hk
 kernel_rfl
theorem kn_cells (w : World) (g : Nat) (h : Row w g (gpC 0 0 0 none none) 54) (i : Nat) (hi : i < 2) : ∃ v : Option Addr, (#[.pointer none, .pointer (some ⟨g, 0, none⟩)] : Array Value)[0 + i * 1]? = some (.pointer v) ∧ KnAt w v 0 0 0 none none := by
 match i, hi with
 | 0, _ => exact ⟨none, rfl, .inl ⟨rfl, rfl, rfl, rfl, rfl, rfl⟩⟩
 | 1, _ => exact ⟨_, rfl, .inr ⟨g, rfl, h⟩⟩
theorem size_0 : sizeZ 0 = 0 := by decide +kernel
set_option maxRecDepth 100000 in
set_option maxHeartbeats 2000000 in
theorem walk (A : Nat) (w : World) (hA : A < 2 ^ 256) :
  Calls Try.prog 6 #[.agg (natC A)] w fun e w' => e = .returned (.bool true) ∧ Below w.heap.size w w' := by
 obtain ⟨ie, hie, hz, hsz0⟩ := info_pg
 have hs1 : ¬ 2 * ie.size > 2 ^ 24 := by rw [hsz0]; decide
 have hs2 : ¬ 2 * ie.size = 0 := by rw [hsz0]; decide
 have hl := fun v => lit_pg v ie.size hsz0
 have haw := awake7_any
 have hsz := fun v w' (h : KnAt w' v 0 0 0 none none) => grpSize_any v 0 0 0 none none w' (by decide) h
 rw [size_0] at hsz
 have hnw := fun w' => gnew_no 0 0 none A _ _ 0 0 _ _ w' (by decide) hA (links_none w') (gr_none A)
 clear hA
 go_enter Try.func6, Try.ntmps6
 (repeat ((fail_if_success with_reducible refine rg ?_); go_step))
 refine wp_region_pw ?_
 refine pw_boxr (by rfl) 25 _ rfl (_) rfl ?_
 intro g1 z0 n0 r1 k
 simp only [Act.put, pu]
 have b1 : w.heap.size ≤ g1 := n0
 clear n0
 have sb := k.below w.heap.size (Nat.le_refl _) (by simp)
 clear k
 refine pw_value (by rfl) (.bool false) (fun _ => rfl) ?_
 simp only [Act.put, pu]
 refine pw_nil ?_
 (repeat ((fail_if_success with_reducible refine rg ?_); go_step))
 refine wp_region_pw ?_
 refine pw_value (by rfl) (.agg (gpC 0 0 0 none none)) (exec_build0 _ rfl _ built_gp0) ?_
 simp only [Act.put, pu]
 refine pw_boxr (by rfl) 54 _ rfl (_) rfl ?_
 intro g9 z1001 n0 r9 k
 simp only [Act.put, pu]
 have d1x9 := Nat.lt_of_lt_of_le r1.lt n0
 have b9 := Nat.le_trans sb.size n0
 clear n0
 replace r1 := k.row r1 (by simp <;> omega)
 replace sb := sb.trans (k.below w.heap.size sb.size (by simp <;> omega))
 clear k
 refine pw_litr (by rfl) 55 29 2 _ rfl #[.pointer none, .pointer (some ⟨g9, 0, none⟩)] ie _ Try.underlying55 hie hz hs1 hs2 [(0, .pointer none), (1, .pointer (some ⟨g9, 0, none⟩))] rfl (hl _) ?_
 intro gT z1002 n0 rT k
 simp only [Act.put, pu]
 have d1xT := Nat.lt_of_lt_of_le r1.lt n0
 have d9xT := Nat.lt_of_lt_of_le r9.lt n0
 have bT := Nat.le_trans sb.size n0
 clear n0
 replace r1 := k.row r1 (by simp <;> omega)
 replace r9 := k.row r9 (by simp <;> omega)
 replace sb := sb.trans (k.below w.heap.size sb.size (by simp <;> omega))
 clear k
 refine pw_as (by rfl) rfl rfl ?_
 simp only [Act.put, pu]
 refine pw_nil ?_
 clear hl hs1 hs2 hz hie hsz0
 (repeat ((fail_if_success with_reducible refine rg ?_); go_step))
 refine wp_region_pw ?_
 refine pw_value (by rfl) (.agg (natC 0)) (exec_build0 _ rfl _ built_nat) ?_
 simp only [Act.put, pu]
 refine pw_new (by rfl) 25 rfl _ zero_nat ?_
 intro g4 z2001 n0 r4 k
 simp only [Act.put, pu]
 have d1x4 := Nat.lt_of_lt_of_le r1.lt n0
 have d9x4 := Nat.lt_of_lt_of_le r9.lt n0
 have dTx4 := Nat.lt_of_lt_of_le rT.lt n0
 have b4 := Nat.le_trans sb.size n0
 clear n0
 replace r1 := k.row r1 (by simp <;> omega)
 replace r9 := k.row r9 (by simp <;> omega)
 replace rT := k.row rT (by simp <;> omega)
 replace sb := sb.trans (k.below w.heap.size sb.size (by simp <;> omega))
 clear k
 refine pw_put (by rfl) 25 _ _ rfl _ rfl r4 (natC 0) rfl (by exact size_nat) (by simp only [natC_size]) (natC_one _) ?_
 clear r4
 intro z2002 r4 k
 simp only [Act.put]
 replace r1 := k.row r1 (by simp <;> omega)
 replace r9 := k.row r9 (by simp <;> omega)
 replace rT := k.row rT (by simp <;> omega)
 replace sb := sb.trans (k.below w.heap.size sb.size (by simp <;> omega))
 clear k
 refine pw_nil ?_
 (repeat ((fail_if_success with_reducible refine rg ?_); go_step))
 refine wp_region_pw ?_
 refine pw_value (by rfl) (.int .i64 0) (fun _ => rfl) ?_
 simp only [Act.put, pu]
 refine pw_nil ?_
 go_wp2_with fail
 go_loopg [5] 2 (fun g s5 wr => ∃ i : Nat, i + g = 2 ∧ s5 = .int .i64 i ∧ Row wr g1 (natC A) 25 ∧ Row wr g9 (gpC 0 0 0 none none) 54 ∧ Row wr gT #[.pointer none, .pointer (some ⟨g9, 0, none⟩)] 29 ∧ Row wr g4 (natC 0) 25 ∧ Below w.heap.size w wr)
 case atStart => exact ⟨0, by omega, rfl, r1, r9, rT, r4, sb⟩
 case round =>
  clear r1 r9 rT r4 sb
  obtain ⟨i, hi, rfl, r1, r9, rT, r4, sb⟩ := hrel
  cases gk with
  | zero =>
   obtain rfl : i = 2 := by omega
   clear hi hsz
   (repeat ((fail_if_success with_reducible refine rg ?_); go_step))
   refine wp_region_pw ?_
   refine pw_mv (by rfl) rfl rfl ?_
   simp only [Act.put, pu]
   refine pw_mv (by rfl) rfl rfl ?_
   simp only [Act.put, pu]
   refine pw_value (by rfl) (.int .i64 2) (exec_len_s 55 _ rfl (some ⟨gT, 0, none⟩) 2 2 rfl sl_grp) ?_
   simp only [Act.put, pu]
   refine pw_value (by rfl) (.bool false) (exec_lt_b _ _ _ _ rfl ((2 : Nat) : Int) 2 rfl rfl false rfl) ?_
   simp only [Act.put, pu]
   refine pw_nil ?_
   (repeat ((fail_if_success with_reducible refine rg ?_); go_step))
   refine wp_region_pw ?_
   refine pw_loadm (by rfl) 25 _ rfl _ 0 rfl r1.r _ (part_all _) _ Try.underlying25 rfl size_nat ?_
   simp only [Act.put, pu]
   refine pw_value (by rfl) (.agg (paC none 0 0 A)) (exec_buildv _ _ rfl [(1, .agg (natC A))] rfl _ (built_paG A)) ?_
   simp only [Act.put, pu]
   refine pw_callB (by rfl) 13 _ _ rfl Try.func13 (by kernel_rfl) #[.agg (paC none 0 0 A)] rfl _ (hnw _) ?_
   intro z8002 k
   simp only [Act.put, pu]
   replace r1 := k.row r1 (by simp <;> omega)
   replace sb := sb.trans (k.below w.heap.size sb.size (by simp <;> omega))
   clear k
   refine pw_mv (by rfl) rfl rfl ?_
   simp only [Act.put, pu]
   refine pw_ext (by rfl) rfl rfl rfl ?_
   simp only [Act.put, pu]
   refine pw_ext (by rfl) rfl rfl rfl ?_
   simp only [Act.put, pu]
   refine pw_as (by rfl) rfl rfl ?_
   simp only [Act.put, pu]
   refine pw_as (by rfl) rfl rfl ?_
   simp only [Act.put, pu]
   refine pw_nil ?_
   (repeat ((fail_if_success with_reducible refine rg ?_); go_step))
   refine wp_region_pw ?_
   refine pw_mv (by rfl) rfl rfl ?_
   simp only [Act.put, pu]
   refine pw_value (by rfl) (.bool true) (exec_eql_k .i64 _ _ _ _ rfl 4 4 rfl rfl true rfl) ?_
   simp only [Act.put, pu]
   refine pw_mv (by rfl) rfl rfl ?_
   simp only [Act.put, pu]
   refine pw_callB (by rfl) 26 _ _ rfl Try.func26 (by kernel_rfl) #[] rfl _ (haw _) ?_
   intro z9003 k
   simp only [Act.put, pu]
   replace sb := sb.trans (k.below w.heap.size sb.size (by simp <;> omega))
   clear k
   refine pw_pick (by rfl) true (v := .bool true) rfl rfl rfl ?_
   simp only [Act.put, pu]
   refine pw_as (by rfl) rfl rfl ?_
   simp only [Act.put, pu]
   refine pw_nil ?_
   go_wp2
   go_ret
   exact ⟨rfl, sb⟩
  | succ g =>
   clear hnw haw
   obtain ⟨v, hv, hkn⟩ := kn_cells _ g9 r9 i (by omega)
   (repeat ((fail_if_success with_reducible refine rg ?_); go_step))
   refine wp_region_pw ?_
   refine pw_mv (by rfl) rfl rfl ?_
   simp only [Act.put, pu]
   refine pw_mv (by rfl) rfl rfl ?_
   simp only [Act.put, pu]
   refine pw_value (by rfl) (.int .i64 2) (exec_len_s 55 _ rfl (some ⟨gT, 0, none⟩) 2 2 rfl sl_grp) ?_
   simp only [Act.put, pu]
   refine pw_value (by rfl) (.bool true) (exec_lt_b _ _ _ _ rfl i 2 rfl rfl true (decide_eq_true (by omega))) ?_
   simp only [Act.put, pu]
   refine pw_nil ?_
   (repeat ((fail_if_success with_reducible refine rg ?_); go_step))
   refine wp_region_qw (by kernel_rfl) (by kernel_rfl) ?_
   refine qw_move (by rfl) rfl rfl ?_
   simp only [Act.put, pu]
   refine qw_move (by rfl) rfl rfl ?_
   simp only [Act.put, pu]
   refine qw_value (by rfl) (.pointer (some ⟨gT, 0 + i * 1, none⟩)) (exec_index_s 55 _ _ rfl gT 0 2 2 rfl i rfl (by omega) _ Try.underlying55 1 Try.sizeOf29) ?_
   simp only [Act.put, pu]
   refine qw_loadc (by rfl) 29 _ rfl _ (0 + i * 1) rfl rT (.pointer v) hv Try.isAgg29 ?_
   simp only [Act.put, pu]
   refine qw_callK (by rfl) 16 _ _ rfl Try.func16 (by kernel_rfl) #[.pointer v] rfl _ (fun w' hb => grpP_any v 0 0 0 none none w' (hkn.below hb)) ?_
   simp only [Act.put, pu]
   refine qw_load (by rfl) 25 _ rfl _ rfl r4 4 _ Try.underlying25 size_nat ?_
   simp only [Act.put, pu]
   refine qw_value (by rfl) (.bool false) (fun w' => (exec_neq_nat _ _ _ rfl 0 0 rfl rfl w').trans (by rw [neq_no])) ?_
   simp only [Act.put, pu]
   refine qw_move (by rfl) rfl rfl ?_
   simp only [Act.put, pu]
   refine qw_move (by rfl) rfl rfl ?_
   simp only [Act.put, pu]
   refine qw_move (by rfl) rfl rfl ?_
   simp only [Act.put, pu]
   refine qw_value (by rfl) (.pointer (some ⟨gT, 0 + i * 1, none⟩)) (exec_index_s 55 _ _ rfl gT 0 2 2 rfl i rfl (by omega) _ Try.underlying55 1 Try.sizeOf29) ?_
   simp only [Act.put, pu]
   refine qw_loadc (by rfl) 29 _ rfl _ (0 + i * 1) rfl rT (.pointer v) hv Try.isAgg29 ?_
   simp only [Act.put, pu]
   refine qw_callK (by rfl) 18 _ _ rfl Try.func18 (by kernel_rfl) #[.pointer v] rfl _ (fun w' hb => grpQ_any v 0 0 0 none none w' (hkn.below hb)) ?_
   simp only [Act.put, pu]
   refine qw_load (by rfl) 25 _ rfl _ rfl r4 4 _ Try.underlying25 size_nat ?_
   simp only [Act.put, pu]
   refine qw_value (by rfl) (.bool false) (fun w' => (exec_neq_nat _ _ _ rfl 0 0 rfl rfl w').trans (by rw [neq_no])) ?_
   simp only [Act.put, pu]
   refine qw_pick false (v := .bool false) (by rfl) rfl rfl rfl ?_
   simp only [Act.put, pu]
   refine qw_move (by rfl) rfl rfl ?_
   simp only [Act.put, pu]
   refine qw_move (by rfl) rfl rfl ?_
   simp only [Act.put, pu]
   refine qw_move (by rfl) rfl rfl ?_
   simp only [Act.put, pu]
   refine qw_value (by rfl) (.pointer (some ⟨gT, 0 + i * 1, none⟩)) (exec_index_s 55 _ _ rfl gT 0 2 2 rfl i rfl (by omega) _ Try.underlying55 1 Try.sizeOf29) ?_
   simp only [Act.put, pu]
   refine qw_loadc (by rfl) 29 _ rfl _ (0 + i * 1) rfl rT (.pointer v) hv Try.isAgg29 ?_
   simp only [Act.put, pu]
   refine qw_callK (by rfl) 20 _ _ rfl Try.func20 (by kernel_rfl) #[.pointer v] rfl _ (fun w' hb => grpG_any v 0 0 0 none none w' (hkn.below hb)) ?_
   simp only [Act.put, pu]
   refine qw_load (by rfl) 25 _ rfl _ rfl r4 4 _ Try.underlying25 size_nat ?_
   simp only [Act.put, pu]
   refine qw_value (by rfl) (.bool false) (fun w' => (exec_neq_nat _ _ _ rfl 0 0 rfl rfl w').trans (by rw [neq_no])) ?_
   simp only [Act.put, pu]
   refine qw_pick false (v := .bool false) (by rfl) rfl rfl rfl ?_
   simp only [Act.put, pu]
   refine qw_move (by rfl) rfl rfl ?_
   simp only [Act.put, pu]
   refine qw_move (by rfl) rfl rfl ?_
   simp only [Act.put, pu]
   refine qw_move (by rfl) rfl rfl ?_
   simp only [Act.put, pu]
   refine qw_value (by rfl) (.pointer (some ⟨gT, 0 + i * 1, none⟩)) (exec_index_s 55 _ _ rfl gT 0 2 2 rfl i rfl (by omega) _ Try.underlying55 1 Try.sizeOf29) ?_
   simp only [Act.put, pu]
   refine qw_loadc (by rfl) 29 _ rfl _ (0 + i * 1) rfl rT (.pointer v) hv Try.isAgg29 ?_
   simp only [Act.put, pu]
   refine qw_callK (by rfl) 21 _ _ rfl Try.func21 (by kernel_rfl) #[.pointer v] rfl _ (fun w' hb => hsz v w' (hkn.below hb)) ?_
   simp only [Act.put, pu]
   refine qw_value (by rfl) (.bool false) (exec_neq_k .i64 _ _ _ _ rfl 0 0 rfl rfl false rfl) ?_
   simp only [Act.put, pu]
   refine qw_pick false (v := .bool false) (by rfl) rfl rfl rfl ?_
   simp only [Act.put, pu]
   refine qw_move (by rfl) rfl rfl ?_
   simp only [Act.put, pu]
   refine qw_move (by rfl) rfl rfl ?_
   simp only [Act.put, pu]
   refine qw_move (by rfl) rfl rfl ?_
   simp only [Act.put, pu]
   refine qw_value (by rfl) (.pointer (some ⟨gT, 0 + i * 1, none⟩)) (exec_index_s 55 _ _ rfl gT 0 2 2 rfl i rfl (by omega) _ Try.underlying55 1 Try.sizeOf29) ?_
   simp only [Act.put, pu]
   refine qw_loadc (by rfl) 29 _ rfl _ (0 + i * 1) rfl rT (.pointer v) hv Try.isAgg29 ?_
   simp only [Act.put, pu]
   refine qw_callK (by rfl) 23 _ _ rfl Try.func23 (by kernel_rfl) #[.pointer v] rfl _ (fun w' hb => grpRing_any v 0 0 0 none none w' (hkn.below hb)) ?_
   simp only [Act.put, pu]
   refine qw_value (by rfl) (.bool false) (exec_neq_nilp _ _ _ _ rfl none rfl rfl ptr_ring) ?_
   simp only [Act.put, pu]
   refine qw_pick false (v := .bool false) (by rfl) rfl rfl rfl ?_
   simp only [Act.put, pu]
   refine qw_move (by rfl) rfl rfl ?_
   simp only [Act.put, pu]
   refine qw_move (by rfl) rfl rfl ?_
   simp only [Act.put, pu]
   refine qw_move (by rfl) rfl rfl ?_
   simp only [Act.put, pu]
   refine qw_value (by rfl) (.pointer (some ⟨gT, 0 + i * 1, none⟩)) (exec_index_s 55 _ _ rfl gT 0 2 2 rfl i rfl (by omega) _ Try.underlying55 1 Try.sizeOf29) ?_
   simp only [Act.put, pu]
   refine qw_loadc (by rfl) 29 _ rfl _ (0 + i * 1) rfl rT (.pointer v) hv Try.isAgg29 ?_
   simp only [Act.put, pu]
   refine qw_callK (by rfl) 25 _ _ rfl Try.func25 (by kernel_rfl) #[.pointer v] rfl _ (fun w' hb => grpField_any v 0 0 0 none none w' (hkn.below hb)) ?_
   simp only [Act.put, pu]
   refine qw_value (by rfl) (.bool false) (exec_neq_nilp _ _ _ _ rfl none rfl rfl ptr_ring) ?_
   simp only [Act.put, pu]
   refine qw_pick false (v := .bool false) (by rfl) rfl rfl rfl ?_
   simp only [Act.put, pu]
   refine qw_nil ?_
   intro w5 hqb
   replace r1 := r1.belowAll hqb
   replace r9 := r9.belowAll hqb
   replace rT := rT.belowAll hqb
   replace r4 := r4.belowAll hqb
   replace sb := below_on sb (Nat.le_refl _) hqb
   clear hqb
   (repeat ((fail_if_success with_reducible refine rg ?_); go_step))
   refine wp_region_pw ?_
   refine pw_mv (by rfl) rfl rfl ?_
   simp only [Act.put, pu]
   refine pw_value (by rfl) (.int .i64 ((i + 1 : Nat) : Int)) (exec_add_in _ _ _ _ rfl i 1 rfl rfl (by omega)) ?_
   simp only [Act.put, pu]
   refine pw_as (by rfl) rfl rfl ?_
   simp only [Act.put, pu]
   refine pw_nil ?_
   go_wp2
   go_roundg g
   case measure => omega
   case rel => exact ⟨i + 1, by omega, rfl, r1, r9, rT, r4, sb⟩
set_option maxRecDepth 100000 in
theorem lifted (os : Os) (started : os.Started) (H : Type) (enc : TypeId × Value → H) :
  ReturnsInHanded {} Try.checked os 6 .any (Rows.groupNobodySpec.pre6 enc Try.prog Try.f6 Rows.groupNobodyRow.domain false) (Rows.groupNobodySpec.post enc Try.prog Try.f6 false true false false) := by
 refine returnsInHanded_of_change (C := Try.checked) own started (by kernel_rfl) Try.func6
  (ChangeSpec.witness6 (enc := enc) (C := Try.checked) false ⟨#[], #[.agg #[.int .u64 0, .int .u64 0, .int .u64 0, .int .u64 0]], []⟩ 8 (by kernel_rfl) (by kernel_rfl) (by kernel_rfl) (by kernel_rfl)) ?_
 intro W base args ds gs before hval0 hW hcnd _
 have hval : ∀ (j : Nat) t v, Try.f6.params[j]? = some t → args[j]? = some v → Value.okWide Try.prog W .any base t v := hval0
 have hW' := hW
 obtain ⟨p, q, hA0, hV, rfl, hfz, hnd⟩ := hW
 have hA : DataW.TrodAll enc Try.prog W 0 (fun _ => true) true Try.f6.params.toList args.toList ds p := hA0
 rw [Try.params6] at hA hval
 obtain ⟨v0, vs0, d0, ds0, p0, q0, hargs, rfl, rfl, h0, r0⟩ := trodAll_cons hA
 obtain ⟨rfl, rfl, rfl⟩ := trodAll_nil r0
 obtain rfl : args = #[v0] := by cases args; simp_all
 obtain ⟨rfl, rfl⟩ := trodVars_none hV
 have k0 := h0
 have lt0 := lt_of_trod h0
 obtain ⟨N0, hN0, rfl⟩ := open_nat (hval 0 25 v0 rfl rfl) h0
 clear hA0 hval0
 refine (walk N0 W hN0).mono fun e W' ⟨he, bel⟩ => ?_
 subst he
 exact ⟨_, rfl, _, _, _, [], _, [], hW', trodAll_mk1 (shut_bool Try.underlying4 _), (trodAll_cons_mk (Below.trod laidOut (by kernel_rfl) (of_decide_eq_true (by kernel_rfl)) k0 bel lt0) trodAll_mk0), rfl, bel.frame _, fun h => by cases h⟩
theorem over : Rows.groupNobodyRow.holds Try.pinned (OpenSpec.ofChange Rows.groupNobodySpec) :=
 OpenClaim.holds_of_wide 6 Try.f6 rfl rfl rfl rfl rfl rfl rfl ⟨rfl, rfl, rfl, rfl, rfl⟩ rfl rfl rfl rfl rfl (by kernel_rfl) Try.func6 (by kernel_rfl)
  (of_decide_eq_true (by kernel_rfl)) (by unfold Func.isWrapper; first | (rw [if_pos (by decide +kernel)]; kernel_rfl) | (rw [if_neg (by decide +kernel)]; exact ⟨rfl, rfl⟩))
  (fun os started H enc _ => lifted os started H enc)
end groupNobodyP
/-- for every natural: groups that nobody made answer nothing, and there is none of a G alone; no condition. -/
theorem groupNobody_holds : Rows.GroupNobodySaid := groupNobodyP.over
end Go.Proofs.Ytbmkebdfaokmhaa
