/- FieldNobody: for every two naturals: without a group nothing is told, and nothing fails; no condition. -/
import Derived.Test.YteddgjoailpgaaaFA
import Derived.Test.YteddgjoailpgaaaGU
namespace Go.Proofs.Yteddgjoailpgaaa
open Go.ChangeShapes Go.WideShapes Go.ChangeAt Go.RowKit
namespace fieldNobodyP
theorem sl_grp : Try.prog.underlying 59 = some (.slice (Try.prog.elem 59)) := by kernel_rfl
theorem info_pgx : (Try.prog.info? 35).map (fun i => (i.zero, i.size)) = some (some (.pointer none), 1) := by kernel_rfl
theorem info_pg : ∃ i, Try.prog.info? 35 = some i ∧ i.zero = some (.pointer none) ∧ i.size = 1 := by
 cases hi : Try.prog.info? 35 with
 | none => have := info_pgx; rw [hi] at this; cases this
 | some i =>
  have h := info_pgx
  rw [hi] at h
  simp only [Option.map_some, Option.some.injEq, Prod.mk.injEq] at h
  exact ⟨i, rfl, h.1, h.2⟩
theorem lit_pg (v : Option Addr) (k : Nat) (hk : k = 1) : Instr.fill (fun i => some (i * k, k)) ((Array.range (2 * k)).map ((Value.pointer none).cells[· % (Value.pointer none).cells.size]!)) [(0, .pointer none), (1, .pointer v)] = some #[.pointer none, .pointer v] := by
 subst hk
 kernel_rfl
/-- The one of the two. -/
def vOf (g : Nat) (i : Nat) : Option Addr := if i = 0 then none else some ⟨g, 0, none⟩
theorem v_at (g i : Nat) (hi : i < 2) : (#[.pointer none, .pointer (some ⟨g, 0, none⟩)] : Array Value)[0 + i * 1]? = some (.pointer (vOf g i)) := by
 match i, hi with
 | 0, _ => rfl
 | 1, _ => rfl
theorem v_no {w : World} {g : Nat} (i : Nat) (h : Row w g (gpC 0 0 0 none none) 58) : NoG w (vOf g i) := by
 unfold vOf
 split
 ·exact .inl ⟨rfl, rfl, rfl, rfl, rfl, rfl⟩
 ·exact .inr ⟨g, rfl, h⟩
set_option maxRecDepth 100000 in
set_option maxHeartbeats 2000000 in
theorem walk (A B : Nat) (w : World) (hA : A < 2 ^ 256) (hB : B < 2 ^ 256) :
  Calls Try.prog 8 #[.agg (natC A), .agg (natC B)] w fun e w' => e = .returned (.bool true) ∧ Below w.heap.size w w' := by
 obtain ⟨ip, hip, hzp, hsz0⟩ := info_pg
 have hp1 : ¬ 2 * ip.size > 2 ^ 24 := by rw [hsz0]; decide
 have hp2 : ¬ 2 * ip.size = 0 := by rw [hsz0]; decide
 have hl := fun v => lit_pg v ip.size hsz0
 obtain ⟨ie, hie, hz, hsz, _⟩ := info_nat'
 have hs1 : ¬ 1 * ie.size > 2 ^ 24 := by rw [hsz]; decide
 have hs2 : ¬ 1 * ie.size = 0 := by rw [hsz]; decide
 have hlA := lit_one A ie.size hsz
 have hlB := lit_one B ie.size hsz
 have haw := awake8_any
 have had := fun v w' (h : NoG w' v) => fAdd_no v A B w' hA hB h
 have hsu := fun v w' (h : NoG w' v) => fSub_no v A B w' hA hB h
 have hiv := fun v w' (h : NoG w' v) => fInv_no v A w' hA h
 clear hA hB
 go_enter Try.func8, Try.ntmps8
 (repeat ((fail_if_success with_reducible refine rg ?_); go_step))
 refine wp_region_pw ?_
 refine pw_boxr (by rfl) 24 _ rfl (_) rfl ?_
 intro g2 z0 n0 r2 k
 simp only [Act.put, pu]
 have b2 : w.heap.size ≤ g2 := n0
 clear n0
 have sb := k.below w.heap.size (Nat.le_refl _) (by simp)
 clear k
 refine pw_boxr (by rfl) 24 _ rfl (_) rfl ?_
 intro g3 z1 n0 r3 k
 simp only [Act.put, pu]
 have d2x3 := Nat.lt_of_lt_of_le r2.lt n0
 have b3 := Nat.le_trans sb.size n0
 clear n0
 replace r2 := k.row r2 (by simp <;> omega)
 replace sb := sb.trans (k.below w.heap.size sb.size (by simp <;> omega))
 clear k
 refine pw_value (by rfl) (.bool false) (fun _ => rfl) ?_
 simp only [Act.put, pu]
 refine pw_nil ?_
 (repeat ((fail_if_success with_reducible refine rg ?_); go_step))
 refine wp_region_pw ?_
 refine pw_value (by rfl) (.agg (gpC 0 0 0 none none)) (exec_build0 _ rfl _ built_gp0) ?_
 simp only [Act.put, pu]
 refine pw_boxr (by rfl) 58 _ rfl (_) rfl ?_
 intro g11 z1001 n0 r11 k
 simp only [Act.put, pu]
 have d2x11 := Nat.lt_of_lt_of_le r2.lt n0
 have d3x11 := Nat.lt_of_lt_of_le r3.lt n0
 have b11 := Nat.le_trans sb.size n0
 clear n0
 replace r2 := k.row r2 (by simp <;> omega)
 replace r3 := k.row r3 (by simp <;> omega)
 replace sb := sb.trans (k.below w.heap.size sb.size (by simp <;> omega))
 clear k
 refine pw_litr (by rfl) 59 35 2 _ rfl #[.pointer none, .pointer (some ⟨g11, 0, none⟩)] ip _ Try.underlying59 hip hzp hp1 hp2 [(0, .pointer none), (1, .pointer (some ⟨g11, 0, none⟩))] rfl (hl _) ?_
 intro gT z1002 n0 rT k
 simp only [Act.put, pu]
 have d2xT := Nat.lt_of_lt_of_le r2.lt n0
 have d3xT := Nat.lt_of_lt_of_le r3.lt n0
 have d11xT := Nat.lt_of_lt_of_le r11.lt n0
 have bT := Nat.le_trans sb.size n0
 clear n0
 replace r2 := k.row r2 (by simp <;> omega)
 replace r3 := k.row r3 (by simp <;> omega)
 replace r11 := k.row r11 (by simp <;> omega)
 replace sb := sb.trans (k.below w.heap.size sb.size (by simp <;> omega))
 clear k
 refine pw_as (by rfl) rfl rfl ?_
 simp only [Act.put, pu]
 refine pw_nil ?_
 clear hl hp1 hp2 hzp hip hsz0
 (repeat ((fail_if_success with_reducible refine rg ?_); go_step))
 refine wp_region_pw ?_
 refine pw_value (by rfl) (.agg (natC 0)) (exec_build0 _ rfl _ built_nat) ?_
 simp only [Act.put, pu]
 refine pw_new (by rfl) 24 rfl _ zero_nat ?_
 intro g6 z2001 n0 r6 k
 simp only [Act.put, pu]
 have d2x6 := Nat.lt_of_lt_of_le r2.lt n0
 have d3x6 := Nat.lt_of_lt_of_le r3.lt n0
 have d11x6 := Nat.lt_of_lt_of_le r11.lt n0
 have dTx6 := Nat.lt_of_lt_of_le rT.lt n0
 have b6 := Nat.le_trans sb.size n0
 clear n0
 replace r2 := k.row r2 (by simp <;> omega)
 replace r3 := k.row r3 (by simp <;> omega)
 replace r11 := k.row r11 (by simp <;> omega)
 replace rT := k.row rT (by simp <;> omega)
 replace sb := sb.trans (k.below w.heap.size sb.size (by simp <;> omega))
 clear k
 refine pw_put (by rfl) 24 _ _ rfl _ rfl r6 (natC 0) rfl (by exact size_nat) (by simp only [natC_size]) (natC_one _) ?_
 clear r6
 intro z2002 r6 k
 simp only [Act.put]
 replace r2 := k.row r2 (by simp <;> omega)
 replace r3 := k.row r3 (by simp <;> omega)
 replace r11 := k.row r11 (by simp <;> omega)
 replace rT := k.row rT (by simp <;> omega)
 replace sb := sb.trans (k.below w.heap.size sb.size (by simp <;> omega))
 clear k
 refine pw_nil ?_
 (repeat ((fail_if_success with_reducible refine rg ?_); go_step))
 refine wp_region_pw ?_
 refine pw_value (by rfl) (.int .i64 0) (fun _ => rfl) ?_
 simp only [Act.put, pu]
 refine pw_nil ?_
 go_wp2_with fail
 go_loopg [7, 8, 9] 2 (fun g s7 s8 s9 wr => ∃ i : Nat, i + g = 2 ∧ s7 = .int .i64 i ∧ Row wr g2 (natC A) 24 ∧ Row wr g3 (natC B) 24 ∧ Row wr g11 (gpC 0 0 0 none none) 58 ∧ Row wr gT #[.pointer none, .pointer (some ⟨g11, 0, none⟩)] 35 ∧ Row wr g6 (natC 0) 24 ∧ Below w.heap.size w wr)
 case atStart => exact ⟨0, by omega, rfl, r2, r3, r11, rT, r6, sb⟩
 case round =>
  clear r2 r3 r11 rT r6 sb
  obtain ⟨i, hi, rfl, r2, r3, r11, rT, r6, sb⟩ := hrel
  cases gk with
  | zero =>
   obtain rfl : i = 2 := by omega
   clear hi had hsu hiv
   (repeat ((fail_if_success with_reducible refine rg ?_); go_step))
   refine wp_region_pw ?_
   refine pw_mv (by rfl) rfl rfl ?_
   simp only [Act.put, pu]
   refine pw_mv (by rfl) rfl rfl ?_
   simp only [Act.put, pu]
   refine pw_value (by rfl) (.int .i64 2) (exec_len_s 59 _ rfl (some ⟨gT, 0, none⟩) 2 2 rfl sl_grp) ?_
   simp only [Act.put, pu]
   refine pw_value (by rfl) (.bool false) (exec_lt_b _ _ _ _ rfl ((2 : Nat) : Int) 2 rfl rfl false rfl) ?_
   simp only [Act.put, pu]
   refine pw_nil ?_
   (repeat ((fail_if_success with_reducible refine rg ?_); go_step))
   refine wp_region_pw ?_
   refine pw_callB (by rfl) 33 _ _ rfl Try.func33 (by kernel_rfl) #[] rfl _ (haw _) ?_
   intro z9000 k
   simp only [Act.put, pu]
   replace sb := sb.trans (k.below w.heap.size sb.size (by simp <;> omega))
   clear k
   refine pw_as (by rfl) rfl rfl ?_
   simp only [Act.put, pu]
   refine pw_nil ?_
   go_wp2
   go_ret
   exact ⟨rfl, sb⟩
  | succ g =>
   clear haw
   have hv := v_at g11 i (by omega)
   (repeat ((fail_if_success with_reducible refine rg ?_); go_step))
   refine wp_region_pw ?_
   refine pw_mv (by rfl) rfl rfl ?_
   simp only [Act.put, pu]
   refine pw_mv (by rfl) rfl rfl ?_
   simp only [Act.put, pu]
   refine pw_value (by rfl) (.int .i64 2) (exec_len_s 59 _ rfl (some ⟨gT, 0, none⟩) 2 2 rfl sl_grp) ?_
   simp only [Act.put, pu]
   refine pw_value (by rfl) (.bool true) (exec_lt_b _ _ _ _ rfl i 2 rfl rfl true (decide_eq_true (by omega))) ?_
   simp only [Act.put, pu]
   refine pw_nil ?_
   have hkn := v_no i r11
   have hkv : ∀ w', Row w' g11 (gpC 0 0 0 none none) 58 → NoG w' (vOf g11 i) := fun w' h => v_no i h
   generalize vOf g11 i = v at *
   (repeat ((fail_if_success with_reducible refine rg ?_); go_step))
   apply wp_region_mix (by kernel_rfl) [] [_, _, _, _, _, _, _, _, _, _, _, _, _, _, _] trivial List.nodup_nil
   ·intro p
    refine mx_move rfl rfl ?_
    simp only [Act.put, pu]
    refine mx_move rfl rfl ?_
    simp only [Act.put, pu]
    refine mx_val (.pointer (some ⟨gT, 0 + i * 1, none⟩)) (exec_index_s 59 _ _ rfl gT 0 2 2 rfl i rfl (by omega) _ Try.underlying59 1 Try.sizeOf35) ?_
    simp only [Act.put, pu]
    refine mx_loadc 35 _ rfl _ (0 + i * 1) rfl rT (by simp <;> omega) (.pointer v) hv Try.isAgg35 ?_
    simp only [Act.put, pu]
    refine mx_load 24 _ rfl _ rfl r2 (by simp <;> omega) 4 _ Try.underlying24 size_nat ?_
    simp only [Act.put, pu]
    refine mx_litv 49 24 1 _ rfl (natC A) ie _ Try.underlying49 hie hz hs1 hs2 [(0, .agg (natC A))] rfl hlA ?_
    simp only [Act.put, pu]
    refine mx_load 24 _ rfl _ rfl r3 (by simp <;> omega) 4 _ Try.underlying24 size_nat ?_
    simp only [Act.put, pu]
    refine mx_litv 49 24 1 _ rfl (natC B) ie _ Try.underlying49 hie hz hs1 hs2 [(0, .agg (natC B))] rfl hlB ?_
    simp only [Act.put, pu]
    refine mx_callK 34 _ _ rfl Try.func34 (by kernel_rfl) #[.pointer v, .slice (some ⟨p 5, 0, none⟩) 1 1, .slice (some ⟨p 7, 0, none⟩) 1 1] rfl _ (fun w' hk => fDot_nobody v (some ⟨p 5, 0, none⟩) (some ⟨p 7, 0, none⟩) 1 1 1 1 w' (hkn.below (hk.below _ (Nat.le_refl _) (by simp)))) ?_
    simp only [Act.put, pu]
    refine mx_move rfl rfl ?_
    simp only [Act.put, pu]
    refine mx_ext rfl rfl rfl ?_
    simp only [Act.put, pu]
    refine mx_ext rfl rfl rfl ?_
    simp only [Act.put, pu]
    refine mx_new 24 rfl _ zero_nat ?_
    simp only [Act.put, pu]
    refine mx_put 25 24 _ _ rfl rfl rfl (natC 0) rfl (by exact size_nat) (by simp only [natC_size]) (natC_one _) ?_
    simp only [Act.put]
    refine mx_asg rfl rfl ?_
    simp only [Act.put, pu]
    refine mx_end ?_
    intro w5 hkw hrw hnew hdis
    have n8 := hnew 12 rfl
    have zr8 : Row w5 (p 12) (natC 0) 24 := hrw 25 (24, natC 0) rfl
    replace r2 := hkw.row r2 (by simp <;> omega)
    replace r3 := hkw.row r3 (by simp <;> omega)
    replace r11 := hkw.row r11 (by simp <;> omega)
    replace rT := hkw.row rT (by simp <;> omega)
    replace r6 := hkw.row r6 (by simp <;> omega)
    replace sb := sb.trans (hkw.below w.heap.size sb.size (by simp <;> omega))
    clear hkw hrw hnew hdis n8
    generalize p 12 = g8 at *
    have r8 := zr8
    clear zr8
    replace hkn := hkv _ r11
    (repeat ((fail_if_success with_reducible refine rg ?_); go_step))
    refine wp_region_qw (by kernel_rfl) (by kernel_rfl) ?_
    refine qw_move (by rfl) rfl rfl ?_
    simp only [Act.put, pu]
    refine qw_move (by rfl) rfl rfl ?_
    simp only [Act.put, pu]
    refine qw_value (by rfl) (.pointer (some ⟨gT, 0 + i * 1, none⟩)) (exec_index_s 59 _ _ rfl gT 0 2 2 rfl i rfl (by omega) _ Try.underlying59 1 Try.sizeOf35) ?_
    simp only [Act.put, pu]
    refine qw_loadc (by rfl) 35 _ rfl _ (0 + i * 1) rfl rT (.pointer v) hv Try.isAgg35 ?_
    simp only [Act.put, pu]
    refine qw_load (by rfl) 24 _ rfl _ rfl r2 4 _ Try.underlying24 size_nat ?_
    simp only [Act.put, pu]
    refine qw_callK (by rfl) 23 _ _ rfl Try.func23 (by kernel_rfl) #[.pointer v, .agg (natC A)] rfl _ (fun w' hb => fIn_no v A w' (hkn.below hb)) ?_
    simp only [Act.put, pu]
    refine qw_move (by rfl) rfl rfl ?_
    simp only [Act.put, pu]
    refine qw_move (by rfl) rfl rfl ?_
    simp only [Act.put, pu]
    refine qw_move (by rfl) rfl rfl ?_
    simp only [Act.put, pu]
    refine qw_value (by rfl) (.pointer (some ⟨gT, 0 + i * 1, none⟩)) (exec_index_s 59 _ _ rfl gT 0 2 2 rfl i rfl (by omega) _ Try.underlying59 1 Try.sizeOf35) ?_
    simp only [Act.put, pu]
    refine qw_loadc (by rfl) 35 _ rfl _ (0 + i * 1) rfl rT (.pointer v) hv Try.isAgg35 ?_
    simp only [Act.put, pu]
    refine qw_load (by rfl) 24 _ rfl _ rfl r2 4 _ Try.underlying24 size_nat ?_
    simp only [Act.put, pu]
    refine qw_load (by rfl) 24 _ rfl _ rfl r3 4 _ Try.underlying24 size_nat ?_
    simp only [Act.put, pu]
    refine qw_callK (by rfl) 24 _ _ rfl Try.func24 (by kernel_rfl) #[.pointer v, .agg (natC A), .agg (natC B)] rfl _ (fun w' hb => had v w' (hkn.below hb)) ?_
    simp only [Act.put, pu]
    refine qw_load (by rfl) 24 _ rfl _ rfl r6 4 _ Try.underlying24 size_nat ?_
    simp only [Act.put, pu]
    refine qw_value (by rfl) (.bool false) (fun w' => (exec_neq_nat _ _ _ rfl 0 0 rfl rfl w').trans (by rw [neq_no])) ?_
    simp only [Act.put, pu]
    refine qw_pick false (v := .bool false) (by rfl) rfl rfl rfl ?_
    simp only [Act.put, pu]
    refine qw_move (by rfl) rfl rfl ?_
    simp only [Act.put, pu]
    refine qw_move (by rfl) rfl rfl ?_
    simp only [Act.put, pu]
    refine qw_move (by rfl) rfl rfl ?_
    simp only [Act.put, pu]
    refine qw_value (by rfl) (.pointer (some ⟨gT, 0 + i * 1, none⟩)) (exec_index_s 59 _ _ rfl gT 0 2 2 rfl i rfl (by omega) _ Try.underlying59 1 Try.sizeOf35) ?_
    simp only [Act.put, pu]
    refine qw_loadc (by rfl) 35 _ rfl _ (0 + i * 1) rfl rT (.pointer v) hv Try.isAgg35 ?_
    simp only [Act.put, pu]
    refine qw_load (by rfl) 24 _ rfl _ rfl r2 4 _ Try.underlying24 size_nat ?_
    simp only [Act.put, pu]
    refine qw_load (by rfl) 24 _ rfl _ rfl r3 4 _ Try.underlying24 size_nat ?_
    simp only [Act.put, pu]
    refine qw_callK (by rfl) 27 _ _ rfl Try.func27 (by kernel_rfl) #[.pointer v, .agg (natC A), .agg (natC B)] rfl _ (fun w' hb => hsu v w' (hkn.below hb)) ?_
    simp only [Act.put, pu]
    refine qw_load (by rfl) 24 _ rfl _ rfl r6 4 _ Try.underlying24 size_nat ?_
    simp only [Act.put, pu]
    refine qw_value (by rfl) (.bool false) (fun w' => (exec_neq_nat _ _ _ rfl 0 0 rfl rfl w').trans (by rw [neq_no])) ?_
    simp only [Act.put, pu]
    refine qw_pick false (v := .bool false) (by rfl) rfl rfl rfl ?_
    simp only [Act.put, pu]
    refine qw_move (by rfl) rfl rfl ?_
    simp only [Act.put, pu]
    refine qw_move (by rfl) rfl rfl ?_
    simp only [Act.put, pu]
    refine qw_move (by rfl) rfl rfl ?_
    simp only [Act.put, pu]
    refine qw_value (by rfl) (.pointer (some ⟨gT, 0 + i * 1, none⟩)) (exec_index_s 59 _ _ rfl gT 0 2 2 rfl i rfl (by omega) _ Try.underlying59 1 Try.sizeOf35) ?_
    simp only [Act.put, pu]
    refine qw_loadc (by rfl) 35 _ rfl _ (0 + i * 1) rfl rT (.pointer v) hv Try.isAgg35 ?_
    simp only [Act.put, pu]
    refine qw_load (by rfl) 24 _ rfl _ rfl r2 4 _ Try.underlying24 size_nat ?_
    simp only [Act.put, pu]
    refine qw_load (by rfl) 24 _ rfl _ rfl r3 4 _ Try.underlying24 size_nat ?_
    simp only [Act.put, pu]
    refine qw_callK (by rfl) 29 _ _ rfl Try.func29 (by kernel_rfl) #[.pointer v, .agg (natC A), .agg (natC B)] rfl _ (fun w' hb => fMul_no v A B w' (hkn.below hb)) ?_
    simp only [Act.put, pu]
    refine qw_load (by rfl) 24 _ rfl _ rfl r6 4 _ Try.underlying24 size_nat ?_
    simp only [Act.put, pu]
    refine qw_value (by rfl) (.bool false) (fun w' => (exec_neq_nat _ _ _ rfl 0 0 rfl rfl w').trans (by rw [neq_no])) ?_
    simp only [Act.put, pu]
    refine qw_pick false (v := .bool false) (by rfl) rfl rfl rfl ?_
    simp only [Act.put, pu]
    refine qw_move (by rfl) rfl rfl ?_
    simp only [Act.put, pu]
    refine qw_move (by rfl) rfl rfl ?_
    simp only [Act.put, pu]
    refine qw_move (by rfl) rfl rfl ?_
    simp only [Act.put, pu]
    refine qw_value (by rfl) (.pointer (some ⟨gT, 0 + i * 1, none⟩)) (exec_index_s 59 _ _ rfl gT 0 2 2 rfl i rfl (by omega) _ Try.underlying59 1 Try.sizeOf35) ?_
    simp only [Act.put, pu]
    refine qw_loadc (by rfl) 35 _ rfl _ (0 + i * 1) rfl rT (.pointer v) hv Try.isAgg35 ?_
    simp only [Act.put, pu]
    refine qw_load (by rfl) 24 _ rfl _ rfl r2 4 _ Try.underlying24 size_nat ?_
    simp only [Act.put, pu]
    refine qw_callK (by rfl) 31 _ _ rfl Try.func31 (by kernel_rfl) #[.pointer v, .agg (natC A)] rfl _ (fun w' hb => hiv v w' (hkn.below hb)) ?_
    simp only [Act.put, pu]
    refine qw_load (by rfl) 24 _ rfl _ rfl r6 4 _ Try.underlying24 size_nat ?_
    simp only [Act.put, pu]
    refine qw_value (by rfl) (.bool false) (fun w' => (exec_neq_nat _ _ _ rfl 0 0 rfl rfl w').trans (by rw [neq_no])) ?_
    simp only [Act.put, pu]
    refine qw_pick false (v := .bool false) (by rfl) rfl rfl rfl ?_
    simp only [Act.put, pu]
    refine qw_move (by rfl) rfl rfl ?_
    simp only [Act.put, pu]
    refine qw_load (by rfl) 24 _ rfl _ rfl r8 4 _ Try.underlying24 size_nat ?_
    simp only [Act.put, pu]
    refine qw_load (by rfl) 24 _ rfl _ rfl r6 4 _ Try.underlying24 size_nat ?_
    simp only [Act.put, pu]
    refine qw_value (by rfl) (.bool false) (fun w' => (exec_neq_nat _ _ _ rfl 0 0 rfl rfl w').trans (by rw [neq_no])) ?_
    simp only [Act.put, pu]
    refine qw_pick false (v := .bool false) (by rfl) rfl rfl rfl ?_
    simp only [Act.put, pu]
    refine qw_move (by rfl) rfl rfl ?_
    simp only [Act.put, pu]
    refine qw_move (by rfl) rfl rfl ?_
    simp only [Act.put, pu]
    refine qw_value (by rfl) (.bool false) (exec_neq_k .i64 _ _ _ _ rfl 1 1 rfl rfl false rfl) ?_
    simp only [Act.put, pu]
    refine qw_pick false (v := .bool false) (by rfl) rfl rfl rfl ?_
    simp only [Act.put, pu]
    refine qw_nil ?_
    intro w6 hqb
    replace r2 := r2.belowAll hqb
    replace r3 := r3.belowAll hqb
    replace r11 := r11.belowAll hqb
    replace rT := rT.belowAll hqb
    replace r6 := r6.belowAll hqb
    replace sb := below_on sb (Nat.le_refl _) hqb
    clear hqb
    (repeat ((fail_if_success with_reducible refine rg ?_); go_step))
    refine wp_region_pw ?_
    refine pw_mv (by rfl) rfl rfl ?_
    simp only [Act.put, pu]
    refine pw_value (by rfl) (.int .i64 ((i + 1 : Nat) : Int)) (exec_add_in _ _ _ _ rfl i 1 rfl rfl (by omega)) ?_
    simp only [Act.put, pu]
    refine pw_as (by rfl) rfl rfl ?_
    simp only [Act.put, pu]
    refine pw_nil ?_
    go_wp2
    go_roundg g
    case measure => omega
    case rel => exact ⟨i + 1, by omega, rfl, r2, r3, r11, rT, r6, sb⟩
   ·kernel_rfl
set_option maxRecDepth 100000 in
theorem lifted (os : Os) (started : os.Started) (H : Type) (enc : TypeId × Value → H) :
  ReturnsInHanded {} Try.checked os 8 .any (Rows.fieldNobodySpec.pre6 enc Try.prog Try.f8 Rows.fieldNobodyRow.domain false) (Rows.fieldNobodySpec.post enc Try.prog Try.f8 false true false false) := by
 refine returnsInHanded_of_change (C := Try.checked) own started (by kernel_rfl) Try.func8
  (ChangeSpec.witness6 (enc := enc) (C := Try.checked) false ⟨#[], #[.agg #[.int .u64 0, .int .u64 0, .int .u64 0, .int .u64 0], .agg #[.int .u64 0, .int .u64 0, .int .u64 0, .int .u64 0]], []⟩ 8 (by kernel_rfl) (by kernel_rfl) (by kernel_rfl) (by kernel_rfl)) ?_
 intro W base args ds gs before hval0 hW hcnd _
 have hval : ∀ (j : Nat) t v, Try.f8.params[j]? = some t → args[j]? = some v → Value.okWide Try.prog W .any base t v := hval0
 have hW' := hW
 obtain ⟨p, q, hA0, hV, rfl, hfz, hnd⟩ := hW
 have hA : DataW.TrodAll enc Try.prog W 0 (fun _ => true) true Try.f8.params.toList args.toList ds p := hA0
 rw [Try.params8] at hA hval
 obtain ⟨v0, vs0, d0, ds0, p0, q0, hargs, rfl, rfl, h0, r0⟩ := trodAll_cons hA
 obtain ⟨v1, vs1, d1, ds1, p1, q1, rfl, rfl, rfl, h1, r1⟩ := trodAll_cons r0
 obtain ⟨rfl, rfl, rfl⟩ := trodAll_nil r1
 obtain rfl : args = #[v0, v1] := by cases args; simp_all
 obtain ⟨rfl, rfl⟩ := trodVars_none hV
 have k0 := h0
 have lt0 := lt_of_trod h0
 obtain ⟨N0, hN0, rfl⟩ := open_nat (hval 0 24 v0 rfl rfl) h0
 have k1 := h1
 have lt1 := lt_of_trod h1
 obtain ⟨N1, hN1, rfl⟩ := open_nat (hval 1 24 v1 rfl rfl) h1
 clear hA0 hval0
 refine (walk N0 N1 W hN0 hN1).mono fun e W' ⟨he, bel⟩ => ?_
 subst he
 exact ⟨_, rfl, _, _, _, [], _, [], hW', trodAll_mk1 (shut_bool Try.underlying4 _), (trodAll_cons_mk (Below.trod laidOut (by kernel_rfl) (of_decide_eq_true (by kernel_rfl)) k0 bel lt0) (trodAll_cons_mk (Below.trod laidOut (by kernel_rfl) (of_decide_eq_true (by kernel_rfl)) k1 bel lt1) trodAll_mk0)), rfl, bel.frame _, fun h => by cases h⟩
theorem over : Rows.fieldNobodyRow.holds Try.pinned (OpenSpec.ofChange Rows.fieldNobodySpec) :=
 OpenClaim.holds_of_wide 8 Try.f8 rfl rfl rfl rfl rfl rfl rfl ⟨rfl, rfl, rfl, rfl, rfl⟩ rfl rfl rfl rfl rfl (by kernel_rfl) Try.func8 (by kernel_rfl)
  (of_decide_eq_true (by kernel_rfl)) (by unfold Func.isWrapper; first | (rw [if_pos (by decide +kernel)]; kernel_rfl) | (rw [if_neg (by decide +kernel)]; exact ⟨rfl, rfl⟩))
  (fun os started H enc _ => lifted os started H enc)
end fieldNobodyP
/-- for every two naturals: without a group nothing is told, and nothing fails; no condition. -/
theorem fieldNobody_holds : Rows.FieldNobodySaid := fieldNobodyP.over
end Go.Proofs.Yteddgjoailpgaaa
