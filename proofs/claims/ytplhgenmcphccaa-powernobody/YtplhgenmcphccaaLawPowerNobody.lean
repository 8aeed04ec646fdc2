/- PowerNobody: for every two naturals: without a group nothing is told, and nothing fails; more than 64 powers are refused; no condition. -/
import Derived.Test.YtplhgenmcphccaaQAwake
import Derived.Test.YtplhgenmcphccaaGU
namespace Go.Proofs.Ytplhgenmcphccaa
open Go.ChangeShapes Go.WideShapes Go.ChangeAt Go.RowKit
namespace powerNobodyP
theorem sl_grp : Try.prog.underlying 61 = some (.slice (Try.prog.elem 61)) := by kernel_rfl
theorem info_pgx : (Try.prog.info? 29).map (fun i => (i.zero, i.size)) = some (some (.pointer none), 1) := by kernel_rfl
theorem info_pg : ∃ i, Try.prog.info? 29 = some i ∧ i.zero = some (.pointer none) ∧ i.size = 1 := by
 cases hi : Try.prog.info? 29 with
 | none => have := info_pgx; rw [hi] at this; cases this
 | some i =>
  have h := info_pgx
  rw [hi] at h
  simp only [Option.map_some, Option.some.injEq, Prod.mk.injEq] at h
  exact ⟨i, rfl, h.1, h.2⟩
theorem lit_pg (v : Option Addr) (k : Nat) (hk : k = 1) : Instr.fill (fun i => some (i * k, k)) ((Array.range (2 * k)).map ((Value.pointer none).cells[· % (Value.pointer none).cells.size]!)) [(0, .pointer none), (1, .pointer v)] = some #[.pointer none, .pointer v] := by
 subst hk
 kernel_rfl
/-- The one of the two. -/
def vOf (g : Nat) (i : Nat) : Option Addr := if i = 0 then none else some ⟨g, 0, none⟩
theorem v_at (g i : Nat) (hi : i < 2) : (#[.pointer none, .pointer (some ⟨g, 0, none⟩)] : Array Value)[0 + i * 1]? = some (.pointer (vOf g i)) := by
 match i, hi with
 | 0, _ => rfl
 | 1, _ => rfl
theorem v_no {w : World} {g : Nat} (i : Nat) (h : Row w g (gpC 0 0 0 none none) 60) : NoG w (vOf g i) := by
 unfold vOf
 split
 ·exact .inl ⟨rfl, rfl, rfl, rfl, rfl, rfl⟩
 ·exact .inr ⟨g, rfl, h⟩
set_option maxRecDepth 100000 in
set_option maxHeartbeats 2000000 in
theorem walk (A B : Nat) (w : World) (_ : A < 2 ^ 256) (_ : B < 2 ^ 256) :
  Calls Try.prog 6 #[.agg (natC A), .agg (natC B)] w fun e w' => e = .returned (.bool true) ∧ Below w.heap.size w w' := by
 obtain ⟨ip, hip, hzp, hsz0⟩ := info_pg
 have hp1 : ¬ 2 * ip.size > 2 ^ 24 := by rw [hsz0]; decide
 have hp2 : ¬ 2 * ip.size = 0 := by rw [hsz0]; decide
 have hl := fun v => lit_pg v ip.size hsz0
 obtain ⟨ie, hie, hz, hsz, hby⟩ := info_nat'
 have haw := awake9_any
 have hnw := fun w' g (r : Row w' g (lksC 3 (lN leL) twoA) 74) => gnew_yes 3 3 (some ⟨g, 0, none⟩) leG _ _ g 0 _ _ w' (by decide) (by decide) (lks_links r le_lt) least_is
 rw [le_p, le_q] at hnw
 go_enter Try.func6, Try.ntmps6
 (repeat ((fail_if_success with_reducible refine rg ?_); go_step))
 refine wp_region_pw ?_
 refine pw_boxr (by rfl) 24 _ rfl (_) rfl ?_
 intro g2 z0 n0 r2 k
 simp only [Act.put, pu]
 have b2 : w.heap.size ≤ g2 := n0
 clear n0
 have sb := k.below w.heap.size (Nat.le_refl _) (by simp)
 clear k
 refine pw_boxr (by rfl) 24 _ rfl (_) rfl ?_
 intro g3 z1 n0 r3 k
 simp only [Act.put, pu]
 have d2x3 := Nat.lt_of_lt_of_le r2.lt n0
 have b3 := Nat.le_trans sb.size n0
 clear n0
 replace r2 := k.row r2 (by simp <;> omega)
 replace sb := sb.trans (k.below w.heap.size sb.size (by simp <;> omega))
 clear k
 refine pw_value (by rfl) (.bool false) (fun _ => rfl) ?_
 simp only [Act.put, pu]
 refine pw_nil ?_
 (repeat ((fail_if_success with_reducible refine rg ?_); go_step))
 refine wp_region_pw ?_
 refine pw_value (by rfl) (.agg (gpC 0 0 0 none none)) (exec_build0 _ rfl _ built_gp0) ?_
 simp only [Act.put, pu]
 refine pw_boxr (by rfl) 60 _ rfl (_) rfl ?_
 intro g15 z1001 n0 r15 k
 simp only [Act.put, pu]
 have d2x15 := Nat.lt_of_lt_of_le r2.lt n0
 have d3x15 := Nat.lt_of_lt_of_le r3.lt n0
 have b15 := Nat.le_trans sb.size n0
 clear n0
 replace r2 := k.row r2 (by simp <;> omega)
 replace r3 := k.row r3 (by simp <;> omega)
 replace sb := sb.trans (k.below w.heap.size sb.size (by simp <;> omega))
 clear k
 refine pw_litr (by rfl) 61 29 2 _ rfl #[.pointer none, .pointer (some ⟨g15, 0, none⟩)] ip _ Try.underlying61 hip hzp hp1 hp2 [(0, .pointer none), (1, .pointer (some ⟨g15, 0, none⟩))] rfl (hl _) ?_
 intro gT z1002 n0 rT k
 simp only [Act.put, pu]
 have d2xT := Nat.lt_of_lt_of_le r2.lt n0
 have d3xT := Nat.lt_of_lt_of_le r3.lt n0
 have d15xT := Nat.lt_of_lt_of_le r15.lt n0
 have bT := Nat.le_trans sb.size n0
 clear n0
 replace r2 := k.row r2 (by simp <;> omega)
 replace r3 := k.row r3 (by simp <;> omega)
 replace r15 := k.row r15 (by simp <;> omega)
 replace sb := sb.trans (k.below w.heap.size sb.size (by simp <;> omega))
 clear k
 refine pw_as (by rfl) rfl rfl ?_
 simp only [Act.put, pu]
 refine pw_nil ?_
 clear hl hp1 hp2 hzp hip hsz0
 (repeat ((fail_if_success with_reducible refine rg ?_); go_step))
 refine wp_region_pw ?_
 refine pw_value (by rfl) (.agg (natC 0)) (exec_build0 _ rfl _ built_nat) ?_
 simp only [Act.put, pu]
 refine pw_new (by rfl) 24 rfl _ zero_nat ?_
 intro g6 z2001 n0 r6 k
 simp only [Act.put, pu]
 have d2x6 := Nat.lt_of_lt_of_le r2.lt n0
 have d3x6 := Nat.lt_of_lt_of_le r3.lt n0
 have d15x6 := Nat.lt_of_lt_of_le r15.lt n0
 have dTx6 := Nat.lt_of_lt_of_le rT.lt n0
 have b6 := Nat.le_trans sb.size n0
 clear n0
 replace r2 := k.row r2 (by simp <;> omega)
 replace r3 := k.row r3 (by simp <;> omega)
 replace r15 := k.row r15 (by simp <;> omega)
 replace rT := k.row rT (by simp <;> omega)
 replace sb := sb.trans (k.below w.heap.size sb.size (by simp <;> omega))
 clear k
 refine pw_put (by rfl) 24 _ _ rfl _ rfl r6 (natC 0) rfl (by exact size_nat) (by simp only [natC_size]) (natC_one _) ?_
 clear r6
 intro z2002 r6 k
 simp only [Act.put]
 replace r2 := k.row r2 (by simp <;> omega)
 replace r3 := k.row r3 (by simp <;> omega)
 replace r15 := k.row r15 (by simp <;> omega)
 replace rT := k.row rT (by simp <;> omega)
 replace sb := sb.trans (k.below w.heap.size sb.size (by simp <;> omega))
 clear k
 refine pw_nil ?_
 (repeat ((fail_if_success with_reducible refine rg ?_); go_step))
 refine wp_region_pw ?_
 refine pw_value (by rfl) (.int .i64 0) (fun _ => rfl) ?_
 simp only [Act.put, pu]
 refine pw_nil ?_
 go_wp2_with fail
 go_loopg [7, 8, 9] 2 (fun g s7 s8 s9 wr => ∃ i : Nat, i + g = 2 ∧ s7 = .int .i64 i ∧ Row wr g2 (natC A) 24 ∧ Row wr g3 (natC B) 24 ∧ Row wr g15 (gpC 0 0 0 none none) 60 ∧ Row wr gT #[.pointer none, .pointer (some ⟨g15, 0, none⟩)] 29 ∧ Row wr g6 (natC 0) 24 ∧ Below w.heap.size w wr)
 case atStart => exact ⟨0, by omega, rfl, r2, r3, r15, rT, r6, sb⟩
 case round =>
  clear r2 r3 r15 rT r6 sb
  obtain ⟨i, hi, rfl, r2, r3, r15, rT, r6, sb⟩ := hrel
  cases gk with
  | zero =>
   obtain rfl : i = 2 := by omega
   clear hi r2 r3 r15 rT r6
   (repeat ((fail_if_success with_reducible refine rg ?_); go_step))
   refine wp_region_pw ?_
   refine pw_mv (by rfl) rfl rfl ?_
   simp only [Act.put, pu]
   refine pw_mv (by rfl) rfl rfl ?_
   simp only [Act.put, pu]
   refine pw_value (by rfl) (.int .i64 2) (exec_len_s 61 _ rfl (some ⟨gT, 0, none⟩) 2 2 rfl sl_grp) ?_
   simp only [Act.put, pu]
   refine pw_value (by rfl) (.bool false) (exec_lt_b _ _ _ _ rfl ((2 : Nat) : Int) 2 rfl rfl false rfl) ?_
   simp only [Act.put, pu]
   refine pw_nil ?_
   (repeat ((fail_if_success with_reducible refine rg ?_); go_step))
   refine wp_region_pw ?_
   refine pw_callE (by rfl) 25 _ _ rfl Try.func25 (by kernel_rfl) #[] rfl (rleast_any _) ?_
   rintro _ z9000 ⟨gL, rfl, nL, rL, hb⟩
   refine ⟨_, rfl, ?_⟩
   simp only [Act.put, pu]
   have bL := Nat.le_trans sb.size nL
   clear nL
   have k := Kept.ofBelow hb
   clear hb
   replace sb := sb.trans (k.below w.heap.size sb.size (by simp <;> omega))
   clear k
   refine pw_callE (by rfl) 8 _ _ rfl Try.func8 (by kernel_rfl) #[.agg (paC (some ⟨gL, 0, none⟩) 3 3 leG)] rfl (hnw _ gL rL) ?_
   rintro _ z9001 ⟨g, gr, gf, rfl, hg, hb⟩
   refine ⟨_, rfl, ?_⟩
   simp only [Act.put, pu]
   have k := Kept.ofBelow hb
   clear hb
   replace rL := k.row rL (by simp <;> omega)
   replace sb := sb.trans (k.below w.heap.size sb.size (by simp <;> omega))
   clear k
   refine pw_mv (by rfl) rfl rfl ?_
   simp only [Act.put, pu]
   refine pw_ext (by rfl) rfl rfl rfl ?_
   simp only [Act.put, pu]
   refine pw_ext (by rfl) rfl rfl rfl ?_
   simp only [Act.put, pu]
   refine pw_as (by rfl) rfl rfl ?_
   simp only [Act.put, pu]
   refine pw_as (by rfl) rfl rfl ?_
   simp only [Act.put, pu]
   refine pw_nil ?_
   clear hnw rL
   (repeat ((fail_if_success with_reducible refine rg ?_); go_step))
   apply wp_region_mix (by kernel_rfl) [] [_, _, _, _, _, _, _, _, _, _] trivial List.nodup_nil
   ·intro p
    refine mx_move rfl rfl ?_
    simp only [Act.put, pu]
    refine mx_make 49 24 _ _ rfl ie _ Try.underlying49 hie hz 65 rfl rfl (by rw [hsz]; decide) (by rw [hby]; decide) (by decide) ?_
    simp only [Act.put, pu]
    refine mx_make 49 24 _ _ rfl ie _ Try.underlying49 hie hz 65 rfl rfl (by rw [hsz]; decide) (by rw [hby]; decide) (by decide) ?_
    simp only [Act.put, pu]
    refine mx_callK 23 _ _ rfl Try.func23 (by kernel_rfl) #[.pointer (some ⟨g, 0, none⟩), .slice (some ⟨p 1, 0, none⟩) 65 65, .slice (some ⟨p 2, 0, none⟩) 65 65] rfl _ (fun w' hk => qMulti_big g gr gf _ _ _ 65 65 65 _ _ w' (by decide) le_rg (hg.below (hk.below _ (Nat.le_refl _) (by simp)))) ?_
    simp only [Act.put, pu]
    refine mx_move rfl rfl ?_
    simp only [Act.put, pu]
    refine mx_ext rfl rfl rfl ?_
    simp only [Act.put, pu]
    refine mx_ext rfl rfl rfl ?_
    simp only [Act.put, pu]
    refine mx_new 24 rfl _ zero_nat ?_
    simp only [Act.put, pu]
    refine mx_put 15 24 _ _ rfl rfl rfl (natC 0) rfl (by exact size_nat) (by simp only [natC_size]) (natC_one _) ?_
    simp only [Act.put]
    refine mx_asg rfl rfl ?_
    simp only [Act.put, pu]
    refine mx_end ?_
    intro w5 hkw hrw hnew hdis
    have n12 := hnew 7 rfl
    have zr12 : Row w5 (p 7) (natC 0) 24 := hrw 15 (24, natC 0) rfl
    replace sb := sb.trans (hkw.below w.heap.size sb.size (by simp <;> omega))
    clear hkw hrw hnew hdis n12
    generalize p 7 = g12 at *
    have r12 := zr12
    clear zr12
    (repeat ((fail_if_success with_reducible refine rg ?_); go_step))
    refine wp_region_pw ?_
    refine pw_mv (by rfl) rfl rfl ?_
    simp only [Act.put, pu]
    refine pw_value (by rfl) (.bool true) (exec_eql_k .i64 _ _ _ _ rfl 0 0 rfl rfl true rfl) ?_
    simp only [Act.put, pu]
    refine pw_mv (by rfl) rfl rfl ?_
    simp only [Act.put, pu]
    refine pw_mv (by rfl) rfl rfl ?_
    simp only [Act.put, pu]
    refine pw_value (by rfl) (.bool true) (exec_eql_k .i64 _ _ _ _ rfl 1 1 rfl rfl true rfl) ?_
    simp only [Act.put, pu]
    refine pw_pick (by rfl) true (v := .bool true) rfl rfl rfl ?_
    simp only [Act.put, pu]
    refine pw_mv (by rfl) rfl rfl ?_
    simp only [Act.put, pu]
    refine pw_callB (by rfl) 22 _ _ rfl Try.func22 (by kernel_rfl) #[] rfl _ (haw _) ?_
    intro z11007 k
    simp only [Act.put, pu]
    replace sb := sb.trans (k.below w.heap.size sb.size (by simp <;> omega))
    clear k
    refine pw_pick (by rfl) true (v := .bool true) rfl rfl rfl ?_
    simp only [Act.put, pu]
    refine pw_as (by rfl) rfl rfl ?_
    simp only [Act.put, pu]
    refine pw_nil ?_
    go_wp2
    go_ret
    exact ⟨rfl, sb⟩
   ·kernel_rfl
  | succ g =>
   clear haw hnw
   have hv := v_at g15 i (by omega)
   (repeat ((fail_if_success with_reducible refine rg ?_); go_step))
   refine wp_region_pw ?_
   refine pw_mv (by rfl) rfl rfl ?_
   simp only [Act.put, pu]
   refine pw_mv (by rfl) rfl rfl ?_
   simp only [Act.put, pu]
   refine pw_value (by rfl) (.int .i64 2) (exec_len_s 61 _ rfl (some ⟨gT, 0, none⟩) 2 2 rfl sl_grp) ?_
   simp only [Act.put, pu]
   refine pw_value (by rfl) (.bool true) (exec_lt_b _ _ _ _ rfl i 2 rfl rfl true (decide_eq_true (by omega))) ?_
   simp only [Act.put, pu]
   refine pw_nil ?_
   have hkv : ∀ w', Row w' g15 (gpC 0 0 0 none none) 60 → NoG w' (vOf g15 i) := fun w' h => v_no i h
   generalize vOf g15 i = v at *
   (repeat ((fail_if_success with_reducible refine rg ?_); go_step))
   refine wp_region_pw ?_
   refine pw_mv (by rfl) rfl rfl ?_
   simp only [Act.put, pu]
   refine pw_mv (by rfl) rfl rfl ?_
   simp only [Act.put, pu]
   refine pw_value (by rfl) (.pointer (some ⟨gT, 0 + i * 1, none⟩)) (exec_index_s 61 _ _ rfl gT 0 2 2 rfl i rfl (by omega) _ Try.underlying61 1 Try.sizeOf29) ?_
   simp only [Act.put, pu]
   refine pw_loadk (by rfl) 29 _ rfl _ (0 + i * 1) rfl rT.r (.pointer v) hv Try.isAgg29 ?_
   simp only [Act.put, pu]
   refine pw_callB (by rfl) 23 _ _ rfl Try.func23 (by kernel_rfl) #[.pointer v, .slice none 0 0, .slice none 0 0] rfl _ (qMulti_no v none none 0 0 0 0 _ (hkv _ r15)) ?_
   intro z6004 k
   simp only [Act.put, pu]
   replace r2 := k.row r2 (by simp <;> omega)
   replace r3 := k.row r3 (by simp <;> omega)
   replace r15 := k.row r15 (by simp <;> omega)
   replace rT := k.row rT (by simp <;> omega)
   replace r6 := k.row r6 (by simp <;> omega)
   replace sb := sb.trans (k.below w.heap.size sb.size (by simp <;> omega))
   clear k
   refine pw_mv (by rfl) rfl rfl ?_
   simp only [Act.put, pu]
   refine pw_ext (by rfl) rfl rfl rfl ?_
   simp only [Act.put, pu]
   refine pw_ext (by rfl) rfl rfl rfl ?_
   simp only [Act.put, pu]
   refine pw_new (by rfl) 24 rfl _ zero_nat ?_
   intro g8 z6008 n0 r8 k
   simp only [Act.put, pu]
   have d2x8 := Nat.lt_of_lt_of_le r2.lt n0
   have d3x8 := Nat.lt_of_lt_of_le r3.lt n0
   have d15x8 := Nat.lt_of_lt_of_le r15.lt n0
   have dTx8 := Nat.lt_of_lt_of_le rT.lt n0
   have d6x8 := Nat.lt_of_lt_of_le r6.lt n0
   have b8 := Nat.le_trans sb.size n0
   clear n0
   replace r2 := k.row r2 (by simp <;> omega)
   replace r3 := k.row r3 (by simp <;> omega)
   replace r15 := k.row r15 (by simp <;> omega)
   replace rT := k.row rT (by simp <;> omega)
   replace r6 := k.row r6 (by simp <;> omega)
   replace sb := sb.trans (k.below w.heap.size sb.size (by simp <;> omega))
   clear k
   refine pw_put (by rfl) 24 _ _ rfl _ rfl r8 (natC 0) rfl (by exact size_nat) (by simp only [natC_size]) (natC_one _) ?_
   clear r8
   intro z6009 r8 k
   simp only [Act.put]
   replace r2 := k.row r2 (by simp <;> omega)
   replace r3 := k.row r3 (by simp <;> omega)
   replace r15 := k.row r15 (by simp <;> omega)
   replace rT := k.row rT (by simp <;> omega)
   replace r6 := k.row r6 (by simp <;> omega)
   replace sb := sb.trans (k.below w.heap.size sb.size (by simp <;> omega))
   clear k
   refine pw_as (by rfl) rfl rfl ?_
   simp only [Act.put, pu]
   refine pw_nil ?_
   have hkn := hkv _ r15
   (repeat ((fail_if_success with_reducible refine rg ?_); go_step))
   refine wp_region_qw (by kernel_rfl) (by kernel_rfl) ?_
   refine qw_move (by rfl) rfl rfl ?_
   simp only [Act.put, pu]
   refine qw_move (by rfl) rfl rfl ?_
   simp only [Act.put, pu]
   refine qw_value (by rfl) (.pointer (some ⟨gT, 0 + i * 1, none⟩)) (exec_index_s 61 _ _ rfl gT 0 2 2 rfl i rfl (by omega) _ Try.underlying61 1 Try.sizeOf29) ?_
   simp only [Act.put, pu]
   refine qw_loadc (by rfl) 29 _ rfl _ (0 + i * 1) rfl rT (.pointer v) hv Try.isAgg29 ?_
   simp only [Act.put, pu]
   refine qw_load (by rfl) 24 _ rfl _ rfl r2 4 _ Try.underlying24 size_nat ?_
   simp only [Act.put, pu]
   refine qw_callK (by rfl) 14 _ _ rfl Try.func14 (by kernel_rfl) #[.pointer v, .agg (natC A)] rfl _ (fun w' hb => qIn_no v A w' (hkn.below hb)) ?_
   simp only [Act.put, pu]
   refine qw_move (by rfl) rfl rfl ?_
   simp only [Act.put, pu]
   refine qw_move (by rfl) rfl rfl ?_
   simp only [Act.put, pu]
   refine qw_move (by rfl) rfl rfl ?_
   simp only [Act.put, pu]
   refine qw_value (by rfl) (.pointer (some ⟨gT, 0 + i * 1, none⟩)) (exec_index_s 61 _ _ rfl gT 0 2 2 rfl i rfl (by omega) _ Try.underlying61 1 Try.sizeOf29) ?_
   simp only [Act.put, pu]
   refine qw_loadc (by rfl) 29 _ rfl _ (0 + i * 1) rfl rT (.pointer v) hv Try.isAgg29 ?_
   simp only [Act.put, pu]
   refine qw_load (by rfl) 24 _ rfl _ rfl r2 4 _ Try.underlying24 size_nat ?_
   simp only [Act.put, pu]
   refine qw_load (by rfl) 24 _ rfl _ rfl r3 4 _ Try.underlying24 size_nat ?_
   simp only [Act.put, pu]
   refine qw_callK (by rfl) 16 _ _ rfl Try.func16 (by kernel_rfl) #[.pointer v, .agg (natC A), .agg (natC B)] rfl _ (fun w' hb => qMul_no v A B w' (hkn.below hb)) ?_
   simp only [Act.put, pu]
   refine qw_load (by rfl) 24 _ rfl _ rfl r6 4 _ Try.underlying24 size_nat ?_
   simp only [Act.put, pu]
   refine qw_value (by rfl) (.bool false) (fun w' => (exec_neq_nat _ _ _ rfl 0 0 rfl rfl w').trans (by rw [neq_no])) ?_
   simp only [Act.put, pu]
   refine qw_pick false (v := .bool false) (by rfl) rfl rfl rfl ?_
   simp only [Act.put, pu]
   refine qw_move (by rfl) rfl rfl ?_
   simp only [Act.put, pu]
   refine qw_move (by rfl) rfl rfl ?_
   simp only [Act.put, pu]
   refine qw_move (by rfl) rfl rfl ?_
   simp only [Act.put, pu]
   refine qw_value (by rfl) (.pointer (some ⟨gT, 0 + i * 1, none⟩)) (exec_index_s 61 _ _ rfl gT 0 2 2 rfl i rfl (by omega) _ Try.underlying61 1 Try.sizeOf29) ?_
   simp only [Act.put, pu]
   refine qw_loadc (by rfl) 29 _ rfl _ (0 + i * 1) rfl rT (.pointer v) hv Try.isAgg29 ?_
   simp only [Act.put, pu]
   refine qw_load (by rfl) 24 _ rfl _ rfl r2 4 _ Try.underlying24 size_nat ?_
   simp only [Act.put, pu]
   refine qw_load (by rfl) 24 _ rfl _ rfl r3 4 _ Try.underlying24 size_nat ?_
   simp only [Act.put, pu]
   refine qw_callK (by rfl) 18 _ _ rfl Try.func18 (by kernel_rfl) #[.pointer v, .agg (natC A), .agg (natC B)] rfl _ (fun w' hb => qExp_no v A B w' (hkn.below hb)) ?_
   simp only [Act.put, pu]
   refine qw_load (by rfl) 24 _ rfl _ rfl r6 4 _ Try.underlying24 size_nat ?_
   simp only [Act.put, pu]
   refine qw_value (by rfl) (.bool false) (fun w' => (exec_neq_nat _ _ _ rfl 0 0 rfl rfl w').trans (by rw [neq_no])) ?_
   simp only [Act.put, pu]
   refine qw_pick false (v := .bool false) (by rfl) rfl rfl rfl ?_
   simp only [Act.put, pu]
   refine qw_move (by rfl) rfl rfl ?_
   simp only [Act.put, pu]
   refine qw_move (by rfl) rfl rfl ?_
   simp only [Act.put, pu]
   refine qw_move (by rfl) rfl rfl ?_
   simp only [Act.put, pu]
   refine qw_value (by rfl) (.pointer (some ⟨gT, 0 + i * 1, none⟩)) (exec_index_s 61 _ _ rfl gT 0 2 2 rfl i rfl (by omega) _ Try.underlying61 1 Try.sizeOf29) ?_
   simp only [Act.put, pu]
   refine qw_loadc (by rfl) 29 _ rfl _ (0 + i * 1) rfl rT (.pointer v) hv Try.isAgg29 ?_
   simp only [Act.put, pu]
   refine qw_load (by rfl) 24 _ rfl _ rfl r2 4 _ Try.underlying24 size_nat ?_
   simp only [Act.put, pu]
   refine qw_callK (by rfl) 20 _ _ rfl Try.func20 (by kernel_rfl) #[.pointer v, .agg (natC A)] rfl _ (fun w' hb => qOf_no v A w' (hkn.below hb)) ?_
   simp only [Act.put, pu]
   refine qw_load (by rfl) 24 _ rfl _ rfl r6 4 _ Try.underlying24 size_nat ?_
   simp only [Act.put, pu]
   refine qw_value (by rfl) (.bool false) (fun w' => (exec_neq_nat _ _ _ rfl 0 0 rfl rfl w').trans (by rw [neq_no])) ?_
   simp only [Act.put, pu]
   refine qw_pick false (v := .bool false) (by rfl) rfl rfl rfl ?_
   simp only [Act.put, pu]
   refine qw_move (by rfl) rfl rfl ?_
   simp only [Act.put, pu]
   refine qw_move (by rfl) rfl rfl ?_
   simp only [Act.put, pu]
   refine qw_move (by rfl) rfl rfl ?_
   simp only [Act.put, pu]
   refine qw_value (by rfl) (.pointer (some ⟨gT, 0 + i * 1, none⟩)) (exec_index_s 61 _ _ rfl gT 0 2 2 rfl i rfl (by omega) _ Try.underlying61 1 Try.sizeOf29) ?_
   simp only [Act.put, pu]
   refine qw_loadc (by rfl) 29 _ rfl _ (0 + i * 1) rfl rT (.pointer v) hv Try.isAgg29 ?_
   simp only [Act.put, pu]
   refine qw_load (by rfl) 24 _ rfl _ rfl r2 4 _ Try.underlying24 size_nat ?_
   simp only [Act.put, pu]
   refine qw_callK (by rfl) 21 _ _ rfl Try.func21 (by kernel_rfl) #[.pointer v, .agg (natC A)] rfl _ (fun w' hb => qInv_no v A w' (hkn.below hb)) ?_
   simp only [Act.put, pu]
   refine qw_load (by rfl) 24 _ rfl _ rfl r6 4 _ Try.underlying24 size_nat ?_
   simp only [Act.put, pu]
   refine qw_value (by rfl) (.bool false) (fun w' => (exec_neq_nat _ _ _ rfl 0 0 rfl rfl w').trans (by rw [neq_no])) ?_
   simp only [Act.put, pu]
   refine qw_pick false (v := .bool false) (by rfl) rfl rfl rfl ?_
   simp only [Act.put, pu]
   refine qw_move (by rfl) rfl rfl ?_
   simp only [Act.put, pu]
   refine qw_load (by rfl) 24 _ rfl _ rfl r8 4 _ Try.underlying24 size_nat ?_
   simp only [Act.put, pu]
   refine qw_load (by rfl) 24 _ rfl _ rfl r6 4 _ Try.underlying24 size_nat ?_
   simp only [Act.put, pu]
   refine qw_value (by rfl) (.bool false) (fun w' => (exec_neq_nat _ _ _ rfl 0 0 rfl rfl w').trans (by rw [neq_no])) ?_
   simp only [Act.put, pu]
   refine qw_pick false (v := .bool false) (by rfl) rfl rfl rfl ?_
   simp only [Act.put, pu]
   refine qw_move (by rfl) rfl rfl ?_
   simp only [Act.put, pu]
   refine qw_move (by rfl) rfl rfl ?_
   simp only [Act.put, pu]
   refine qw_value (by rfl) (.bool false) (exec_neq_k .i64 _ _ _ _ rfl 1 1 rfl rfl false rfl) ?_
   simp only [Act.put, pu]
   refine qw_pick false (v := .bool false) (by rfl) rfl rfl rfl ?_
   simp only [Act.put, pu]
   refine qw_nil ?_
   intro w6 hqb
   replace r2 := r2.belowAll hqb
   replace r3 := r3.belowAll hqb
   replace r15 := r15.belowAll hqb
   replace rT := rT.belowAll hqb
   replace r6 := r6.belowAll hqb
   replace sb := below_on sb (Nat.le_refl _) hqb
   clear hqb
   (repeat ((fail_if_success with_reducible refine rg ?_); go_step))
   refine wp_region_pw ?_
   refine pw_mv (by rfl) rfl rfl ?_
   simp only [Act.put, pu]
   refine pw_value (by rfl) (.int .i64 ((i + 1 : Nat) : Int)) (exec_add_in _ _ _ _ rfl i 1 rfl rfl (by omega)) ?_
   simp only [Act.put, pu]
   refine pw_as (by rfl) rfl rfl ?_
   simp only [Act.put, pu]
   refine pw_nil ?_
   go_wp2
   go_roundg g
   case measure => omega
   case rel => exact ⟨i + 1, by omega, rfl, r2, r3, r15, rT, r6, sb⟩
set_option maxRecDepth 100000 in
theorem lifted (os : Os) (started : os.Started) (H : Type) (enc : TypeId × Value → H) :
  ReturnsInHanded {} Try.checked os 6 .any (Rows.powerNobodySpec.pre6 enc Try.prog Try.f6 Rows.powerNobodyRow.domain false) (Rows.powerNobodySpec.post enc Try.prog Try.f6 false true false false) := by
 refine returnsInHanded_of_change (C := Try.checked) own started (by kernel_rfl) Try.func6
  (ChangeSpec.witness6 (enc := enc) (C := Try.checked) false ⟨#[], #[.agg #[.int .u64 0, .int .u64 0, .int .u64 0, .int .u64 0], .agg #[.int .u64 0, .int .u64 0, .int .u64 0, .int .u64 0]], []⟩ 8 (by kernel_rfl) (by kernel_rfl) (by kernel_rfl) (by kernel_rfl)) ?_
 intro W base args ds gs before hval0 hW hcnd _
 have hval : ∀ (j : Nat) t v, Try.f6.params[j]? = some t → args[j]? = some v → Value.okWide Try.prog W .any base t v := hval0
 have hW' := hW
 obtain ⟨p, q, hA0, hV, rfl, hfz, hnd⟩ := hW
 have hA : DataW.TrodAll enc Try.prog W 0 (fun _ => true) true Try.f6.params.toList args.toList ds p := hA0
 rw [Try.params6] at hA hval
 obtain ⟨v0, vs0, d0, ds0, p0, q0, hargs, rfl, rfl, h0, r0⟩ := trodAll_cons hA
 obtain ⟨v1, vs1, d1, ds1, p1, q1, rfl, rfl, rfl, h1, r1⟩ := trodAll_cons r0
 obtain ⟨rfl, rfl, rfl⟩ := trodAll_nil r1
 obtain rfl : args = #[v0, v1] := by cases args; simp_all
 obtain ⟨rfl, rfl⟩ := trodVars_none hV
 have k0 := h0
 have lt0 := lt_of_trod h0
 obtain ⟨N0, hN0, rfl⟩ := open_nat (hval 0 24 v0 rfl rfl) h0
 have k1 := h1
 have lt1 := lt_of_trod h1
 obtain ⟨N1, hN1, rfl⟩ := open_nat (hval 1 24 v1 rfl rfl) h1
 clear hA0 hval0
 refine (walk N0 N1 W hN0 hN1).mono fun e W' ⟨he, bel⟩ => ?_
 subst he
 exact ⟨_, rfl, _, _, _, [], _, [], hW', trodAll_mk1 (shut_bool Try.underlying4 _), (trodAll_cons_mk (Below.trod laidOut (by kernel_rfl) (of_decide_eq_true (by kernel_rfl)) k0 bel lt0) (trodAll_cons_mk (Below.trod laidOut (by kernel_rfl) (of_decide_eq_true (by kernel_rfl)) k1 bel lt1) trodAll_mk0)), rfl, bel.frame _, fun h => by cases h⟩
theorem over : Rows.powerNobodyRow.holds Try.pinned (OpenSpec.ofChange Rows.powerNobodySpec) :=
 OpenClaim.holds_of_wide 6 Try.f6 rfl rfl rfl rfl rfl rfl rfl ⟨rfl, rfl, rfl, rfl, rfl⟩ rfl rfl rfl rfl rfl (by kernel_rfl) Try.func6 (by kernel_rfl)
  (of_decide_eq_true (by kernel_rfl)) (by unfold Func.isWrapper; first | (rw [if_pos (by decide +kernel)]; kernel_rfl) | (rw [if_neg (by decide +kernel)]; exact ⟨rfl, rfl⟩))
  (fun os started H enc _ => lifted os started H enc)
end powerNobodyP
/-- for every two naturals: without a group nothing is told, and nothing fails; more than 64 powers are refused; no condition. -/
theorem powerNobody_holds : Rows.PowerNobodySaid := powerNobodyP.over
end Go.Proofs.Ytplhgenmcphccaa
