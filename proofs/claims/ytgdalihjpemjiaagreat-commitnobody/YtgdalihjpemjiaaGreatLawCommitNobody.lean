/- CommitNobody: for every list of naturals: without a group nothing is told, and nothing fails; no condition. -/
import Derived.Test.YtgdalihjpemjiaaGreatCO
import Derived.Test.YtgdalihjpemjiaaGreatGU
set_option maxRecDepth 100000
set_option maxHeartbeats 2000000
namespace Go.Proofs.YtgdalihjpemjiaaGreat
open Go.ChangeShapes Go.WideShapes Go.ChangeAt Go.RowKit
namespace commitNobodyP
set_option linter.unusedVariables false
theorem sl_grp : Tryz.prog.underlying 74 = some (.slice (Tryz.prog.elem 74)) := by kernel_rfl
theorem info_pgx : (Tryz.prog.info? 25).map (fun i => (i.zero, i.size)) = some (some (.pointer none), 1) := by kernel_rfl
theorem info_pg : ∃ i, Tryz.prog.info? 25 = some i ∧ i.zero = some (.pointer none) ∧ i.size = 1 := by
 cases hi : Tryz.prog.info? 25 with
 | none => have := info_pgx; rw [hi] at this; cases this
 | some i =>
  have h := info_pgx
  rw [hi] at h
  simp only [Option.map_some, Option.some.injEq, Prod.mk.injEq] at h
  exact ⟨i, rfl, h.1, h.2⟩
theorem lit_pg (v : Option Addr) (k : Nat) (hk : k = 1) : Instr.fill (fun i => some (i * k, k)) ((Array.range (2 * k)).map ((Value.pointer none).cells[· % (Value.pointer none).cells.size]!)) [(0, .pointer none), (1, .pointer v)] = some #[.pointer none, .pointer v] := by
 subst hk
 kernel_rfl
/-- The one of the two. -/
def vOf (g : Nat) (i : Nat) : Option Addr := if i = 0 then none else some ⟨g, 0, none⟩
theorem v_at (g i : Nat) (hi : i < 2) : (#[.pointer none, .pointer (some ⟨g, 0, none⟩)] : Array Value)[0 + i * 1]? = some (.pointer (vOf g i)) := by
 match i, hi with
 | 0, _ => rfl
 | 1, _ => rfl
theorem v_no {w : World} {g : Nat} (i : Nat) (h : Row w g (gpC 0 0 0 none none) 73) : NoG w (vOf g i) := by
 unfold vOf
 split
 ·exact .inl ⟨rfl, rfl, rfl, rfl, rfl, rfl⟩
 ·exact .inr ⟨g, rfl, h⟩
theorem neq_no14 : (!decide ((0 : Nat) % 2 ^ 256 = 0 % 2 ^ 256)) = false := by rw [decide_eq_true rfl]; rfl
theorem core0 (n c : Nat) (ab : Option Addr) (w : World) (h : 8 < n) :
  Calls Tryz.prog 8 #[.slice ab n c] w fun e w' => e = .returned (.bool true) ∧ Below w.heap.size w w' := by
 have haw := awake14_any
 go_enter Tryz.func8, Tryz.ntmps8
 have sb := sbmk w
 iterate 2 go_step
 refine rp ?_
 refine p_v (.bool false) (fun _ => rfl) ?_
 simp only [pv]
 refine pw_nil ?_
 iterate 4 go_step
 refine rp ?_
 refine p_m ?_
 simp only [pv]
 refine p_v (.int .i64 n) (exec_len_s 22 _ rfl (ab) (n) (c) rfl sl_natsX) ?_
 simp only [pv]
 refine p_v (.bool true) (exec_gt_i _ _ _ _ rfl n 8 rfl rfl true (decide_eq_true (by omega))) ?_
 simp only [pv]
 refine pw_nil ?_
 iterate 4 go_step
 refine rp ?_
 refine pw_callB (by rfl) 9 _ _ rfl Tryz.func9 (by kernel_rfl) #[] rfl _ (haw _) ?_
 intro z2000 k
 simp only [pv]
 replace sb := kk sb k
 clear k
 refine p_a ?_
 simp only [pv]
 refine pw_nil ?_
 go_wp2
 go_ret
 exact ⟨rfl, sb⟩
theorem core1 (n c : Nat) (ab : Option Addr) (F : Nat → Nat) (gb ob : Nat) (bcs : Array Value) (tb : TypeId) (w : World) (hn : n ≤ 8) (hna : NatsAt w ab n F gb ob bcs tb) :
  Calls Tryz.prog 8 #[.slice ab n c] w fun e w' => e = .returned (.bool true) ∧ Below w.heap.size w w' := by
 have haw := awake14_any
 obtain ⟨ip, hip, hzp, hsz0⟩ := info_pg
 have hp1 : ¬ 2 * ip.size > 2 ^ 24 := by rw [hsz0]; decide
 have hp2 : ¬ 2 * ip.size = 0 := by rw [hsz0]; decide
 have hl := fun v => lit_pg v ip.size hsz0
 have hto : ∀ {v : Option Addr} w', NoG w' v → _ := fun {v} w' h1 => to_nog v ab n c 3 h1
 have hfr : ∀ {v : Option Addr} w', NoG w' v → _ := fun {v} w' h1 => from_mem v none 1 0 0 w' (by decide) (fun w2 hb => qIn_no v 1 w2 (h1.below hb))
 have hma : ∀ {v : Option Addr} w', NoG w' v → NatsAt w' ab n F gb ob bcs tb → Calls Tryz.prog 14 #[.pointer v, .slice ab n c] w' fun e w2 => e = .returned (.bool false) ∧ Below w'.heap.size w' w2 := fun {v} w' h1 h2 => by
  by_cases h : n < 1 ∨ 7 < n
  ·exact may_no v ab n c w' h
  ·have := may_core v ab n c F (fun _ => false) gb ob bcs tb w' (by omega) (by omega) h2 (fun k hk w2 hb => qIn_no v (F k) w2 (h1.below hb))
   rw [show (!anB (fun _ => !false) n) = false by rw [(anB_iff _ n).2 ⟨0, by omega, rfl⟩]; rfl] at this
   exact this
 have hat : ∀ {v : Option Addr} w', NoG w' v → Calls Tryz.prog 16 #[.pointer v, .slice ab n c, .int .i64 1] w' fun e w2 => e = .returned (.agg (natC 0)) ∧ Below w'.heap.size w' w2 := fun {v} w' h1 => by
  by_cases h : 7 < n
  ·exact at_no (.pointer v) ab n c 1 w' (by omega)
  ·exact at_core v ab n c 1 0 1 w' (by omega) (by decide) (fun w2 gE hb _ => qMulti_no v ab _ n n c n w2 (h1.below hb))
 have hho : ∀ {v : Option Addr} w', NoG w' v → _ := fun {v} w' h1 => holds_fld v ab n c 0 1 w' (by decide) (by decide) (fun w2 hb => fIn_no v 0 w2 (h1.below hb))
 have o1 := fun w' => of14_any 1 w' (by decide)
 clear hsz0
 go_enter Tryz.func8, Tryz.ntmps8
 have sb := sbmk w
 iterate 2 go_step
 refine rp ?_
 refine p_v (.bool false) (fun _ => rfl) ?_
 simp only [pv]
 refine pw_nil ?_
 iterate 4 go_step
 refine rp ?_
 refine p_m ?_
 simp only [pv]
 refine p_v (.int .i64 n) (exec_len_s 22 _ rfl (ab) (n) (c) rfl sl_natsX) ?_
 simp only [pv]
 refine p_v (.bool false) (exec_gt_i _ _ _ _ rfl n 8 rfl rfl false (decide_eq_false (by omega))) ?_
 simp only [pv]
 refine pw_nil ?_
 iterate 7 go_step
 refine rp ?_
 refine p_v (.agg (gpC 0 0 0 none none)) (exec_build0 _ rfl _ built_gp0) ?_
 simp only [pv]
 refine pw_boxr (by rfl) 73 _ rfl (_) rfl ?_
 intro g14 z3001 n0 r14 k
 simp only [pv]
 clear n0
 replace hna := hna.below k.nil
 replace sb := kk sb k
 clear k
 refine pw_litr (by rfl) 74 25 2 _ rfl #[.pointer none, .pointer (some ⟨g14, 0, none⟩)] ip _ Tryz.underlying74 hip hzp hp1 hp2 [(0, .pointer none), (1, .pointer (some ⟨g14, 0, none⟩))] rfl (hl _) ?_
 intro gT z3002 n0 rT k
 simp only [pv]
 clear n0
 replace hna := hna.below k.nil
 replace r14 := k.ro r14
 replace sb := kk sb k
 clear k
 refine p_a ?_
 simp only [pv]
 refine pw_nil ?_
 clear hl hp1 hp2 hzp hip
 iterate 4 go_step
 refine rp ?_
 refine p_v (.int .i64 0) (fun _ => rfl) ?_
 simp only [pv]
 refine pw_nil ?_
 go_wp2_with fail
 go_loopg [4, 5, 6, 7, 8] 2 (fun y s4 s5 s6 s7 s8 wr => ∃ i : Nat, i + y = 2 ∧ s4 = .int .i64 i ∧ Row wr g14 (gpC 0 0 0 none none) 73 ∧ Row wr gT #[.pointer none, .pointer (some ⟨g14, 0, none⟩)] 25 ∧ NatsAt wr ab n F gb ob bcs tb ∧ Below w.heap.size w wr)
 case atStart => exact ⟨0, by omega, rfl, r14, rT, hna, sb⟩
 case round =>
  clear r14 rT hna sb
  obtain ⟨i, hi, rfl, r14, rT, hna, sb⟩ := hrel
  cases gk with
  | zero =>
   obtain rfl : i = 2 := by omega
   clear hi hto hfr hma hat hho
   iterate 2 go_step
   refine rp ?_
   refine p_m ?_
   refine p_m ?_
   simp only [pv]
   refine p_v (.int .i64 2) (exec_len_s 74 _ rfl (some ⟨gT, 0, none⟩) 2 2 rfl sl_grp) ?_
   simp only [pv]
   refine p_v (.bool false) (exec_lt_b _ _ _ _ rfl ((2 : Nat) : Int) 2 rfl rfl false rfl) ?_
   simp only [pv]
   refine pw_nil ?_
   iterate 7 go_step
   refine rp ?_
   refine pw_callB (by rfl) 9 _ _ rfl Tryz.func9 (by kernel_rfl) #[] rfl _ (haw _) ?_
   intro z11000 k
   simp only [pv]
   replace sb := kk sb k
   clear k
   refine p_a ?_
   simp only [pv]
   refine pw_nil ?_
   go_wp2
   go_ret
   exact ⟨rfl, sb⟩
  | succ y =>
   have hlt : i < 2 := by omega
   have hv : (#[.pointer none, .pointer (some ⟨g14, 0, none⟩)] : Array Value)[0 + i * 1]? = some (.pointer (vOf g14 i)) := v_at g14 i hlt
   iterate 2 go_step
   refine rp ?_
   refine p_m ?_
   refine p_m ?_
   simp only [pv]
   refine p_v (.int .i64 2) (exec_len_s 74 _ rfl (some ⟨gT, 0, none⟩) 2 2 rfl sl_grp) ?_
   simp only [pv]
   refine p_v (.bool true) (exec_lt_b _ _ _ _ rfl (i : Nat) 2 rfl rfl true (decide_eq_true (by omega))) ?_
   simp only [pv]
   refine pw_nil ?_
   iterate 9 go_step
   refine rp ?_
   refine p_m ?_
   refine p_m ?_
   simp only [pv]
   refine p_v (.pointer (some ⟨gT, 0 + i * 1, none⟩)) (exec_index_s 74 _ _ rfl gT 0 2 2 rfl i rfl (by omega) _ Tryz.underlying74 1 Tryz.sizeOf25) ?_
   simp only [pv]
   refine pw_loadk (by rfl) 25 _ rfl _ (0 + i * 1) rfl rT.r (.pointer (vOf g14 i)) hv Tryz.isAgg25 ?_
   refine p_m ?_
   simp only [pv]
   refine pw_callB (by rfl) 13 _ _ rfl Tryz.func13 (by kernel_rfl) #[.pointer (vOf g14 i), .slice ab n c, .int .i64 3] rfl _ (hto _ (v_no i r14)) ?_
   intro z7005 k
   simp only [pv]
   replace hna := hna.below k.nil
   replace r14 := k.ro r14
   replace rT := k.ro rT
   replace sb := kk sb k
   clear k
   refine p_m ?_
   refine p_e ?_
   refine p_e ?_
   refine p_a ?_
   refine p_a ?_
   simp only [pv]
   refine pw_nil ?_
   iterate 3 go_step
   refine wp_region_qw (by kernel_rfl) (by kernel_rfl) ?_
   refine q_m ?_
   refine q_m ?_
   simp only [pv]
   refine q_v (.pointer (some ⟨gT, 0 + i * 1, none⟩)) (exec_index_s 74 _ _ rfl gT 0 2 2 rfl i rfl (by omega) _ Tryz.underlying74 1 Tryz.sizeOf25) ?_
   simp only [pv]
   refine qw_loadc (by rfl) 25 _ rfl _ (0 + i * 1) rfl rT (.pointer (vOf g14 i)) hv Tryz.isAgg25 ?_
   simp only [pv]
   refine qw_call (by rfl) 17 _ _ rfl Tryz.func17 (by kernel_rfl) #[.int .i64 1] rfl _ o1 ?_
   simp only [pv]
   refine qw_callK (by rfl) 28 _ _ rfl Tryz.func28 (by kernel_rfl) #[.pointer (vOf g14 i), .agg (natC 1), .slice none 0 0] rfl _ (fun w' hb => hfr w' (v_no i (r14.belowAll hb))) ?_
   refine q_m ?_
   refine qw_ext (by rfl) rfl rfl rfl ?_
   refine qw_ext (by rfl) rfl rfl rfl ?_
   refine q_a ?_
   simp only [pv]
   refine q_a ?_
   simp only [pv]
   refine qw_nil ?_
   intro w9 hqb
   replace r14 := r14.belowAll hqb
   replace rT := rT.belowAll hqb
   replace hna := hna.below hqb
   replace sb := b_o sb hqb
   clear hqb
   iterate 3 go_step
   refine rp ?_
   refine p_m ?_
   simp only [pv]
   refine p_v (.int .i64 0) (exec_len_s 22 _ rfl none 0 0 rfl sl_natsX) ?_
   simp only [pv]
   refine p_v (.bool false) (exec_gt_i _ _ _ _ rfl 0 0 rfl rfl false (decide_eq_false (by decide))) ?_
   refine p_m ?_
   refine p_m ?_
   simp only [pv]
   refine p_v (.bool false) (exec_neq_k .i64 _ _ _ _ rfl 1 1 rfl rfl false rfl) ?_
   simp only [pv]
   refine pw_pick (by rfl) false (v := .bool false) rfl rfl rfl ?_
   refine p_m ?_
   refine p_m ?_
   simp only [pv]
   refine p_v (.int .i64 0) (exec_len_s 22 _ rfl none 0 0 rfl sl_natsX) ?_
   simp only [pv]
   refine p_v (.bool false) (exec_gt_i _ _ _ _ rfl 0 0 rfl rfl false (decide_eq_false (by decide))) ?_
   simp only [pv]
   refine pw_pick (by rfl) false (v := .bool false) rfl rfl rfl ?_
   refine p_m ?_
   refine p_m ?_
   simp only [pv]
   refine p_v (.bool false) (exec_neq_k .i64 _ _ _ _ rfl 1 1 rfl rfl false rfl) ?_
   simp only [pv]
   refine pw_pick (by rfl) false (v := .bool false) rfl rfl rfl ?_
   refine p_m ?_
   refine p_m ?_
   refine p_m ?_
   simp only [pv]
   refine p_v (.pointer (some ⟨gT, 0 + i * 1, none⟩)) (exec_index_s 74 _ _ rfl gT 0 2 2 rfl i rfl (by omega) _ Tryz.underlying74 1 Tryz.sizeOf25) ?_
   simp only [pv]
   refine pw_loadk (by rfl) 25 _ rfl _ (0 + i * 1) rfl rT.r (.pointer (vOf g14 i)) hv Tryz.isAgg25 ?_
   refine p_m ?_
   simp only [pv]
   refine pw_callB (by rfl) 14 _ _ rfl Tryz.func14 (by kernel_rfl) #[.pointer (vOf g14 i), .slice ab n c] rfl _ (hma _ (v_no i r14) hna) ?_
   intro z9022 k
   simp only [pv]
   replace hna := hna.below k.nil
   replace r14 := k.ro r14
   replace rT := k.ro rT
   replace sb := kk sb k
   clear k
   refine pw_pick (by rfl) false (v := .bool false) rfl rfl rfl ?_
   refine p_m ?_
   refine p_m ?_
   refine p_m ?_
   simp only [pv]
   refine p_v (.pointer (some ⟨gT, 0 + i * 1, none⟩)) (exec_index_s 74 _ _ rfl gT 0 2 2 rfl i rfl (by omega) _ Tryz.underlying74 1 Tryz.sizeOf25) ?_
   simp only [pv]
   refine pw_loadk (by rfl) 25 _ rfl _ (0 + i * 1) rfl rT.r (.pointer (vOf g14 i)) hv Tryz.isAgg25 ?_
   refine p_m ?_
   simp only [pv]
   refine pw_callB (by rfl) 16 _ _ rfl Tryz.func16 (by kernel_rfl) #[.pointer (vOf g14 i), .slice ab n c, .int .i64 1] rfl _ (hat _ (v_no i r14)) ?_
   intro z9030 k
   simp only [pv]
   replace hna := hna.below k.nil
   replace r14 := k.ro r14
   replace rT := k.ro rT
   replace sb := kk sb k
   clear k
   refine p_v (.agg (natC 0)) (exec_build0 _ rfl _ built_nat) ?_
   simp only [pv]
   refine p_v (.bool false) (fun w' => (exec_neq_nat _ _ _ rfl 0 0 rfl rfl w').trans (by rw [neq_no14])) ?_
   simp only [pv]
   refine pw_pick (by rfl) false (v := .bool false) rfl rfl rfl ?_
   refine p_m ?_
   refine p_m ?_
   refine p_m ?_
   simp only [pv]
   refine p_v (.pointer (some ⟨gT, 0 + i * 1, none⟩)) (exec_index_s 74 _ _ rfl gT 0 2 2 rfl i rfl (by omega) _ Tryz.underlying74 1 Tryz.sizeOf25) ?_
   simp only [pv]
   refine pw_loadk (by rfl) 25 _ rfl _ (0 + i * 1) rfl rT.r (.pointer (vOf g14 i)) hv Tryz.isAgg25 ?_
   refine p_m ?_
   simp only [pv]
   refine p_v (.agg (shC 1 0)) (exec_buildv _ [(0, .const (.int .i64 1))] rfl [(0, .int .i64 1)] rfl (shC 1 0) (built_shi _)) ?_
   simp only [pv]
   refine pw_callB (by rfl) 21 _ _ rfl Tryz.func21 (by kernel_rfl) #[.pointer (vOf g14 i), .slice ab n c, .agg (shC 1 0)] rfl _ (hho _ (v_no i r14)) ?_
   intro z9041 k
   simp only [pv]
   replace hna := hna.below k.nil
   replace r14 := k.ro r14
   replace rT := k.ro rT
   replace sb := kk sb k
   clear k
   refine pw_pick (by rfl) false (v := .bool false) rfl rfl rfl ?_
   simp only [pv]
   refine pw_nil ?_
   iterate 6 go_step
   refine rp ?_
   refine p_m ?_
   simp only [pv]
   refine p_v (.int .i64 ((i + 1 : Nat) : Int)) (exec_add_in _ _ _ _ rfl i 1 rfl rfl (by omega)) ?_
   refine p_a ?_
   simp only [pv]
   refine pw_nil ?_
   go_wp2
   go_roundg y
   case measure => omega
   case rel => exact ⟨i + 1, by omega, rfl, r14, rT, hna, sb⟩
theorem walk (ab : Option Addr) (n c : Nat) (F : Nat → Nat) (gb ob : Nat) (bcs : Array Value) (tb : TypeId) (w : World) (hna : NatsAt w ab n F gb ob bcs tb) :
  Calls Tryz.prog 8 #[.slice ab n c] w fun e w' => e = .returned (.bool true) ∧ Below w.heap.size w w' := by
 by_cases h : 8 < n
 ·exact core0 n c ab w h
 ·exact core1 n c ab F gb ob bcs tb w (by omega) hna
theorem lifted (os : Os) (started : os.Started) (H : Type) (enc : TypeId × Value → H) :
  ReturnsInHanded {} Tryz.checked os 8 .any (Rows.commitNobodySpec.pre6 enc Tryz.prog Tryz.f8 Rows.commitNobodyRow.domain false) (Rows.commitNobodySpec.post enc Tryz.prog Tryz.f8 false true false false) := by
 refine returnsInHanded_of_change (C := Tryz.checked) own started (by kernel_rfl) Tryz.func8
  (ChangeSpec.witness6 (enc := enc) (C := Tryz.checked) false ⟨#[], #[.slice none 0 0], []⟩ 8 (by kernel_rfl) (by kernel_rfl) (by kernel_rfl) (by kernel_rfl)) ?_
 intro W base args ds gs before hval0 hW hcnd _
 have hval : ∀ (j : Nat) t v, Tryz.f8.params[j]? = some t → args[j]? = some v → Value.okWide Tryz.prog W .any base t v := hval0
 have hW' := hW
 obtain ⟨p, q, hA0, hV, rfl, hfz, hnd⟩ := hW
 have hA : DataW.TrodAll enc Tryz.prog W 0 (fun _ => true) true Tryz.f8.params.toList args.toList ds p := hA0
 rw [Tryz.params8] at hA hval
 obtain ⟨v0, vs0, d0, ds0, p0, q0, hargs, rfl, rfl, h0, r0⟩ := trodAll_cons hA
 obtain ⟨rfl, rfl, rfl⟩ := trodAll_nil r0
 obtain rfl : args = #[v0] := by cases args; simp_all
 obtain ⟨rfl, rfl⟩ := trodVars_none hV
 have k0 := h0
 have lt0 := lt_of_trod h0
 obtain ⟨ab0, n0, c0, F0, gb0, ob0, bcs0, tb0, rfl, _, _, hn0⟩ := open_nats (hval 0 22 v0 rfl rfl) h0
 clear hA0 hval0
 refine (walk ab0 n0 c0 F0 gb0 ob0 bcs0 tb0 W hn0).mono fun e W' ⟨he, bel⟩ => ?_
 subst he
 exact ⟨_, rfl, _, _, _, [], _, [], hW', trodAll_mk1 (shut_bool Tryz.underlying4 _), (trodAll_cons_mk (Below.trod laidOut (by kernel_rfl) (of_decide_eq_true (by kernel_rfl)) k0 bel lt0) trodAll_mk0), rfl, bel.frame _, fun h => by cases h⟩
theorem over : Rows.commitNobodyRow.holds Tryz.pinned (OpenSpec.ofChange Rows.commitNobodySpec) :=
 OpenClaim.holds_of_wide 8 Tryz.f8 rfl rfl rfl rfl rfl rfl rfl ⟨rfl, rfl, rfl, rfl, rfl⟩ rfl rfl rfl rfl rfl (by kernel_rfl) Tryz.func8 (by kernel_rfl)
  (of_decide_eq_true (by kernel_rfl)) (by unfold Func.isWrapper; first | (rw [if_pos (by decide +kernel)]; kernel_rfl) | (rw [if_neg (by decide +kernel)]; exact ⟨rfl, rfl⟩))
  (fun os started H enc _ => lifted os started H enc)
end commitNobodyP
/-- for every list of naturals: without a group nothing is told, and nothing fails; no condition. -/
theorem commitNobody_holds : Rows.CommitNobodySaid := commitNobodyP.over
end Go.Proofs.YtgdalihjpemjiaaGreat
