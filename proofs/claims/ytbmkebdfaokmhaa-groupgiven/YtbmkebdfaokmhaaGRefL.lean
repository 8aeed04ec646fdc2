/- The document's Least, Other, Great; the law's same. -/
import Derived.Test.YtbmkebdfaokmhaaGEq
import Derived.Test.YtbmkebdfaokmhaaGGivM
import Derived.Test.YtbmkebdfaokmhaaGRef
namespace Go.Proofs.Ytbmkebdfaokmhaa
open Go.RowKit
theorem lit_lks {n : Nat} (vs : List (Nat × Value)) (c : Array Value) (k : Nat) (hk : k = 5) (h : Instr.fill (fun i => some (i * 5, 5)) ((Array.range (n * 5)).map ((Value.agg #[.int .u64 0, .int .u64 0, .int .u64 0, .int .u64 0, .int .i64 0]).cells[· % (Value.agg #[.int .u64 0, .int .u64 0, .int .u64 0, .int .u64 0, .int .i64 0]).cells.size]!)) vs = some c) :
  Instr.fill (fun i => some (i * k, k)) ((Array.range (n * k)).map ((Value.agg #[.int .u64 0, .int .u64 0, .int .u64 0, .int .u64 0, .int .i64 0]).cells[· % (Value.agg #[.int .u64 0, .int .u64 0, .int .u64 0, .int .u64 0, .int .i64 0]).cells.size]!)) vs = some c := by
 subst hk; exact h
set_option maxRecDepth 100000 in
set_option maxHeartbeats 2000000 in
theorem le_lits : Instr.fill (fun i => some (i * 5, 5)) ((Array.range (3 * 5)).map ((Value.agg #[.int .u64 0, .int .u64 0, .int .u64 0, .int .u64 0, .int .i64 0]).cells[· % (Value.agg #[.int .u64 0, .int .u64 0, .int .u64 0, .int .u64 0, .int .i64 0]).cells.size]!)) [(0, .agg (lkC 65521 0)), (1, .agg (lkC 1966023127 2)), (2, .agg (lkC 1055500680322183127 2))] = some (lksC 3 (lN leL) twoA) := by kernel_rfl
set_option maxRecDepth 100000 in
set_option maxHeartbeats 2000000 in
theorem rleast_any (w : World) :
  Calls Try.prog 8 #[] w fun e w' => ∃ g, e = .returned (.agg (paC (some ⟨g, 0, none⟩) 3 3 leG)) ∧ w.heap.size ≤ g ∧ Row w' g (lksC 3 (lN leL) twoA) 58 ∧ Below w.heap.size w w' := by
 obtain ⟨ie, hie, hz, hsz⟩ := info_lk'
 have hs1 : ¬ 3 * ie.size > 2 ^ 24 := by rw [hsz]; decide
 have hs2 : ¬ 3 * ie.size = 0 := by rw [hsz]; decide
 have hl := lit_lks _ _ ie.size hsz le_lits
 go_enter Try.func8, Try.ntmps8
 (repeat ((fail_if_success with_reducible refine rg ?_); go_step))
 refine wp_region_pw ?_
 refine pw_new (by rfl) 27 rfl _ zero_pa ?_
 intro g0 z0 n0 r0 k
 simp only [Act.put, List.setIfInBounds_toArray, List.set_cons_zero]
 have b0 : w.heap.size ≤ g0 := n0
 clear n0
 have sb := k.below w.heap.size (Nat.le_refl _) (by simp)
 clear k
 refine pw_nil ?_
 (repeat ((fail_if_success with_reducible refine rg ?_); go_step))
 refine wp_region_pw ?_
 refine pw_value (by rfl) (.agg (natC 65521)) (exec_buildv _ _ rfl [(0, .int .u64 65521)] rfl _ (by kernel_rfl)) ?_
 simp only [Act.put, pu]
 refine pw_value (by rfl) (.agg (lkC 65521 0)) (exec_link2 65521 0 rfl rfl rfl) ?_
 simp only [Act.put, pu]
 refine pw_value (by rfl) (.agg (natC 1966023127)) (exec_buildv _ _ rfl [(0, .int .u64 1966023127)] rfl _ (by kernel_rfl)) ?_
 simp only [Act.put, pu]
 refine pw_value (by rfl) (.agg (lkC 1966023127 2)) (exec_link2 1966023127 2 rfl rfl rfl) ?_
 simp only [Act.put, pu]
 refine pw_value (by rfl) (.agg (natC 1055500680322183127)) (exec_buildv _ _ rfl [(0, .int .u64 1055500680322183127)] rfl _ (by kernel_rfl)) ?_
 simp only [Act.put, pu]
 refine pw_value (by rfl) (.agg (lkC 1055500680322183127 2)) (exec_link2 1055500680322183127 2 rfl rfl rfl) ?_
 simp only [Act.put, pu]
 refine pw_litr (by rfl) 22 58 3 _ rfl (lksC 3 (lN leL) twoA) ie _ Try.underlying22 hie hz hs1 hs2 [(0, .agg (lkC 65521 0)), (1, .agg (lkC 1966023127 2)), (2, .agg (lkC 1055500680322183127 2))] rfl hl ?_
 intro gT z1006 n0 rT k
 simp only [Act.put, pu]
 have d0xT := Nat.lt_of_lt_of_le r0.lt n0
 have bT := Nat.le_trans sb.size n0
 clear n0
 replace r0 := k.row r0 (by simp <;> omega)
 replace sb := sb.trans (k.below w.heap.size sb.size (by simp <;> omega))
 clear k
 refine pw_value (by rfl) (.agg (natC 316543771439780984)) (exec_buildv _ _ rfl [(0, .int .u64 316543771439780984)] rfl _ (by kernel_rfl)) ?_
 simp only [Act.put, pu]
 refine pw_value (by rfl) (.agg (paC (some ⟨gT, 0, none⟩) 3 3 leG)) (exec_buildv _ _ rfl [(0, .slice (some ⟨gT, 0, none⟩) 3 3), (1, .agg (natC leG))] rfl _ (built_pa _ _ _ _)) ?_
 simp only [Act.put, pu]
 refine pw_put (by rfl) 27 _ _ rfl _ rfl r0 (paC (some ⟨gT, 0, none⟩) 3 3 leG) rfl (by exact size_pa) (by rfl) (pa_one _ _ _ _) ?_
 clear r0
 intro z1009 r0 k
 simp only [Act.put]
 replace rT := k.row rT (by simp <;> omega)
 replace sb := sb.trans (k.below w.heap.size sb.size (by simp <;> omega))
 clear k
 refine pw_nil ?_
 go_wp2
 exact ret_rowd rfl _ rfl r0 _ Try.underlying27 (by exact size_pa) rfl ⟨gT, rfl, bT, rT, sb⟩
set_option maxRecDepth 100000 in
set_option maxHeartbeats 2000000 in
theorem ot_lits : Instr.fill (fun i => some (i * 5, 5)) ((Array.range (3 * 5)).map ((Value.agg #[.int .u64 0, .int .u64 0, .int .u64 0, .int .u64 0, .int .i64 0]).cells[· % (Value.agg #[.int .u64 0, .int .u64 0, .int .u64 0, .int .u64 0, .int .i64 0]).cells.size]!)) [(0, .agg (lkC 64817 0)), (1, .agg (lkC 1815135269 2)), (2, .agg (lkC 487269091447081429 2))] = some (lksC 3 (lN otL) twoA) := by kernel_rfl
set_option maxRecDepth 100000 in
set_option maxHeartbeats 2000000 in
theorem rother_any (w : World) :
  Calls Try.prog 10 #[] w fun e w' => ∃ g, e = .returned (.agg (paC (some ⟨g, 0, none⟩) 3 3 otG)) ∧ w.heap.size ≤ g ∧ Row w' g (lksC 3 (lN otL) twoA) 58 ∧ Below w.heap.size w w' := by
 obtain ⟨ie, hie, hz, hsz⟩ := info_lk'
 have hs1 : ¬ 3 * ie.size > 2 ^ 24 := by rw [hsz]; decide
 have hs2 : ¬ 3 * ie.size = 0 := by rw [hsz]; decide
 have hl := lit_lks _ _ ie.size hsz ot_lits
 go_enter Try.func10, Try.ntmps10
 (repeat ((fail_if_success with_reducible refine rg ?_); go_step))
 refine wp_region_pw ?_
 refine pw_new (by rfl) 27 rfl _ zero_pa ?_
 intro g0 z0 n0 r0 k
 simp only [Act.put, List.setIfInBounds_toArray, List.set_cons_zero]
 have b0 : w.heap.size ≤ g0 := n0
 clear n0
 have sb := k.below w.heap.size (Nat.le_refl _) (by simp)
 clear k
 refine pw_nil ?_
 (repeat ((fail_if_success with_reducible refine rg ?_); go_step))
 refine wp_region_pw ?_
 refine pw_value (by rfl) (.agg (natC 64817)) (exec_buildv _ _ rfl [(0, .int .u64 64817)] rfl _ (by kernel_rfl)) ?_
 simp only [Act.put, pu]
 refine pw_value (by rfl) (.agg (lkC 64817 0)) (exec_link2 64817 0 rfl rfl rfl) ?_
 simp only [Act.put, pu]
 refine pw_value (by rfl) (.agg (natC 1815135269)) (exec_buildv _ _ rfl [(0, .int .u64 1815135269)] rfl _ (by kernel_rfl)) ?_
 simp only [Act.put, pu]
 refine pw_value (by rfl) (.agg (lkC 1815135269 2)) (exec_link2 1815135269 2 rfl rfl rfl) ?_
 simp only [Act.put, pu]
 refine pw_value (by rfl) (.agg (natC 487269091447081429)) (exec_buildv _ _ rfl [(0, .int .u64 487269091447081429)] rfl _ (by kernel_rfl)) ?_
 simp only [Act.put, pu]
 refine pw_value (by rfl) (.agg (lkC 487269091447081429 2)) (exec_link2 487269091447081429 2 rfl rfl rfl) ?_
 simp only [Act.put, pu]
 refine pw_litr (by rfl) 22 58 3 _ rfl (lksC 3 (lN otL) twoA) ie _ Try.underlying22 hie hz hs1 hs2 [(0, .agg (lkC 64817 0)), (1, .agg (lkC 1815135269 2)), (2, .agg (lkC 487269091447081429 2))] rfl hl ?_
 intro gT z1006 n0 rT k
 simp only [Act.put, pu]
 have d0xT := Nat.lt_of_lt_of_le r0.lt n0
 have bT := Nat.le_trans sb.size n0
 clear n0
 replace r0 := k.row r0 (by simp <;> omega)
 replace sb := sb.trans (k.below w.heap.size sb.size (by simp <;> omega))
 clear k
 refine pw_value (by rfl) (.agg (natC 54624333139524128)) (exec_buildv _ _ rfl [(0, .int .u64 54624333139524128)] rfl _ (by kernel_rfl)) ?_
 simp only [Act.put, pu]
 refine pw_value (by rfl) (.agg (paC (some ⟨gT, 0, none⟩) 3 3 otG)) (exec_buildv _ _ rfl [(0, .slice (some ⟨gT, 0, none⟩) 3 3), (1, .agg (natC otG))] rfl _ (built_pa _ _ _ _)) ?_
 simp only [Act.put, pu]
 refine pw_put (by rfl) 27 _ _ rfl _ rfl r0 (paC (some ⟨gT, 0, none⟩) 3 3 otG) rfl (by exact size_pa) (by rfl) (pa_one _ _ _ _) ?_
 clear r0
 intro z1009 r0 k
 simp only [Act.put]
 replace rT := k.row rT (by simp <;> omega)
 replace sb := sb.trans (k.below w.heap.size sb.size (by simp <;> omega))
 clear k
 refine pw_nil ?_
 go_wp2
 exact ret_rowd rfl _ rfl r0 _ Try.underlying27 (by exact size_pa) rfl ⟨gT, rfl, bT, rT, sb⟩
set_option maxRecDepth 100000 in
set_option maxHeartbeats 2000000 in
theorem gr_lits : Instr.fill (fun i => some (i * 5, 5)) ((Array.range (5 * 5)).map ((Value.agg #[.int .u64 0, .int .u64 0, .int .u64 0, .int .u64 0, .int .i64 0]).cells[· % (Value.agg #[.int .u64 0, .int .u64 0, .int .u64 0, .int .u64 0, .int .i64 0]).cells.size]!)) [(0, .agg (lkC 65519 0)), (1, .agg (lkC 1313918027 2)), (2, .agg (lkC 88175567203779761 2)), (3, .agg (lkC 6353719225633997551192976661815171 2)), (4, .agg (lkC 128868735840905246597005622286753383510486359307609845843856143183 2))] = some (lksC 5 (lN grL) twoA) := by kernel_rfl
set_option maxRecDepth 100000 in
set_option maxHeartbeats 2000000 in
theorem rgreat_any (w : World) :
  Calls Try.prog 12 #[] w fun e w' => ∃ g, e = .returned (.agg (paC (some ⟨g, 0, none⟩) 5 5 grG)) ∧ w.heap.size ≤ g ∧ Row w' g (lksC 5 (lN grL) twoA) 58 ∧ Below w.heap.size w w' := by
 obtain ⟨ie, hie, hz, hsz⟩ := info_lk'
 have hs1 : ¬ 5 * ie.size > 2 ^ 24 := by rw [hsz]; decide
 have hs2 : ¬ 5 * ie.size = 0 := by rw [hsz]; decide
 have hl := lit_lks _ _ ie.size hsz gr_lits
 go_enter Try.func12, Try.ntmps12
 (repeat ((fail_if_success with_reducible refine rg ?_); go_step))
 refine wp_region_pw ?_
 refine pw_new (by rfl) 27 rfl _ zero_pa ?_
 intro g0 z0 n0 r0 k
 simp only [Act.put, List.setIfInBounds_toArray, List.set_cons_zero]
 have b0 : w.heap.size ≤ g0 := n0
 clear n0
 have sb := k.below w.heap.size (Nat.le_refl _) (by simp)
 clear k
 refine pw_nil ?_
 (repeat ((fail_if_success with_reducible refine rg ?_); go_step))
 refine wp_region_pw ?_
 refine pw_value (by rfl) (.agg (natC 65519)) (exec_buildv _ _ rfl [(0, .int .u64 65519)] rfl _ (by kernel_rfl)) ?_
 simp only [Act.put, pu]
 refine pw_value (by rfl) (.agg (lkC 65519 0)) (exec_link2 65519 0 rfl rfl rfl) ?_
 simp only [Act.put, pu]
 refine pw_value (by rfl) (.agg (natC 1313918027)) (exec_buildv _ _ rfl [(0, .int .u64 1313918027)] rfl _ (by kernel_rfl)) ?_
 simp only [Act.put, pu]
 refine pw_value (by rfl) (.agg (lkC 1313918027 2)) (exec_link2 1313918027 2 rfl rfl rfl) ?_
 simp only [Act.put, pu]
 refine pw_value (by rfl) (.agg (natC 88175567203779761)) (exec_buildv _ _ rfl [(0, .int .u64 88175567203779761)] rfl _ (by kernel_rfl)) ?_
 simp only [Act.put, pu]
 refine pw_value (by rfl) (.agg (lkC 88175567203779761 2)) (exec_link2 88175567203779761 2 rfl rfl rfl) ?_
 simp only [Act.put, pu]
 refine pw_value (by rfl) (.agg (natC 6353719225633997551192976661815171)) (exec_buildv _ _ rfl [(0, .int .u64 15752163429641756547), (1, .int .u64 344435809389764)] rfl _ (by kernel_rfl)) ?_
 simp only [Act.put, pu]
 refine pw_value (by rfl) (.agg (lkC 6353719225633997551192976661815171 2)) (exec_link2 6353719225633997551192976661815171 2 rfl rfl rfl) ?_
 simp only [Act.put, pu]
 refine pw_value (by rfl) (.agg (natC 128868735840905246597005622286753383510486359307609845843856143183)) (exec_buildv _ _ rfl [(0, .int .u64 3727879549075534671), (1, .int .u64 12844076830096575486), (2, .int .u64 1228573241546452547), (3, .int .u64 20529974)] rfl _ (by kernel_rfl)) ?_
 simp only [Act.put, pu]
 refine pw_value (by rfl) (.agg (lkC 128868735840905246597005622286753383510486359307609845843856143183 2)) (exec_link2 128868735840905246597005622286753383510486359307609845843856143183 2 rfl rfl rfl) ?_
 simp only [Act.put, pu]
 refine pw_litr (by rfl) 22 58 5 _ rfl (lksC 5 (lN grL) twoA) ie _ Try.underlying22 hie hz hs1 hs2 [(0, .agg (lkC 65519 0)), (1, .agg (lkC 1313918027 2)), (2, .agg (lkC 88175567203779761 2)), (3, .agg (lkC 6353719225633997551192976661815171 2)), (4, .agg (lkC 128868735840905246597005622286753383510486359307609845843856143183 2))] rfl hl ?_
 intro gT z1010 n0 rT k
 simp only [Act.put, pu]
 have d0xT := Nat.lt_of_lt_of_le r0.lt n0
 have bT := Nat.le_trans sb.size n0
 clear n0
 replace r0 := k.row r0 (by simp <;> omega)
 replace sb := sb.trans (k.below w.heap.size sb.size (by simp <;> omega))
 clear k
 refine pw_value (by rfl) (.agg (natC 9151157341667469615800997130231454865425018181917904921479972729)) (exec_buildv _ _ rfl [(0, .int .u64 12280068205398558585), (1, .int .u64 6413536983304955349), (2, .int .u64 8741009603146644127), (3, .int .u64 1457863)] rfl _ (by kernel_rfl)) ?_
 simp only [Act.put, pu]
 refine pw_value (by rfl) (.agg (paC (some ⟨gT, 0, none⟩) 5 5 grG)) (exec_buildv _ _ rfl [(0, .slice (some ⟨gT, 0, none⟩) 5 5), (1, .agg (natC grG))] rfl _ (built_pa _ _ _ _)) ?_
 simp only [Act.put, pu]
 refine pw_put (by rfl) 27 _ _ rfl _ rfl r0 (paC (some ⟨gT, 0, none⟩) 5 5 grG) rfl (by exact size_pa) (by rfl) (pa_one _ _ _ _) ?_
 clear r0
 intro z1013 r0 k
 simp only [Act.put]
 replace rT := k.row rT (by simp <;> omega)
 replace sb := sb.trans (k.below w.heap.size sb.size (by simp <;> omega))
 clear k
 refine pw_nil ?_
 go_wp2
 exact ret_rowd rfl _ rfl r0 _ Try.underlying27 (by exact size_pa) rfl ⟨gT, rfl, bT, rT, sb⟩
theorem lks_part (n : Nat) (N : Nat → Nat) (A : Nat → Int) (k : Nat) (h : k < n) : ∀ j v, (lkC (N k) (A k)).toList[j]? = some v → (lksC n N A)[0 + k * 5 + j]? = some v := by
 intro j v hv
 rw [Array.getElem?_toList] at hv
 have hj : j < 5 := by
  have := (Array.getElem?_eq_some_iff.1 hv).1
  rw [lkC_size] at this
  exact this
 rw [lkv_get _ _ _ hj] at hv
 rw [lksC_get n N A _ (by omega), show (0 + k * 5 + j) / 5 = k by omega, show (0 + k * 5 + j) % 5 = j by omega]
 exact hv
set_option maxRecDepth 100000 in
set_option maxHeartbeats 2000000 in
theorem gsame_yes (n G : Nat) (N : Nat → Nat) (A : Nat → Int) (gU gV : Nat) (w : World) (hn : n < 9223372036854775808) (rU : Row w gU (lksC n N A) 58) (rV : Row w gV (lksC n N A) 58) :
  Calls Try.prog 14 #[.agg (paC (some ⟨gU, 0, none⟩) n n G), .agg (paC (some ⟨gV, 0, none⟩) n n G)] w fun e w' => e = .returned (.bool true) ∧ Below w.heap.size w w' := by
 have hpt := lks_part n N A
 go_enter Try.func14, Try.ntmps14
 (repeat ((fail_if_success with_reducible refine rg ?_); go_step))
 refine wp_region_pw ?_
 refine pw_boxr (by rfl) 27 _ rfl (_) rfl ?_
 intro g2 z0 n0 r2 k
 simp only [Act.put, pu]
 have dUx2 := Nat.lt_of_lt_of_le rU.lt n0
 have dVx2 := Nat.lt_of_lt_of_le rV.lt n0
 have b2 : w.heap.size ≤ g2 := n0
 clear n0
 replace rU := k.row rU (by simp <;> omega)
 replace rV := k.row rV (by simp <;> omega)
 have sb := k.below w.heap.size (Nat.le_refl _) (by simp)
 clear k
 refine pw_boxr (by rfl) 27 _ rfl (_) rfl ?_
 intro g3 z1 n0 r3 k
 simp only [Act.put, pu]
 have dUx3 := Nat.lt_of_lt_of_le rU.lt n0
 have dVx3 := Nat.lt_of_lt_of_le rV.lt n0
 have d2x3 := Nat.lt_of_lt_of_le r2.lt n0
 have b3 := Nat.le_trans sb.size n0
 clear n0
 replace rU := k.row rU (by simp <;> omega)
 replace rV := k.row rV (by simp <;> omega)
 replace r2 := k.row r2 (by simp <;> omega)
 replace sb := sb.trans (k.below w.heap.size sb.size (by simp <;> omega))
 clear k
 refine pw_value (by rfl) (.bool false) (fun _ => rfl) ?_
 simp only [Act.put, pu]
 refine pw_nil ?_
 (repeat ((fail_if_success with_reducible refine rg ?_); go_step))
 refine wp_region_pw ?_
 refine pw_value (by rfl) (.pointer (some ⟨g2, 0, none⟩)) (exec_field 27 _ 0 rfl g2 0 rfl _ Try.underlying27 _ rfl 0 Try.sizeOf22) ?_
 simp only [Act.put, pu]
 refine pw_loadk (by rfl) 22 _ rfl _ (0) rfl r2.r (.slice (some ⟨gU, 0, none⟩) n n) rfl Try.isAgg22 ?_
 simp only [Act.put, pu]
 refine pw_value (by rfl) (.int .i64 n) (exec_len_s 22 _ rfl (some ⟨gU, 0, none⟩) n n rfl sl_link) ?_
 simp only [Act.put, pu]
 refine pw_value (by rfl) (.pointer (some ⟨g3, 0, none⟩)) (exec_field 27 _ 0 rfl g3 0 rfl _ Try.underlying27 _ rfl 0 Try.sizeOf22) ?_
 simp only [Act.put, pu]
 refine pw_loadk (by rfl) 22 _ rfl _ (0) rfl r3.r (.slice (some ⟨gV, 0, none⟩) n n) rfl Try.isAgg22 ?_
 simp only [Act.put, pu]
 refine pw_value (by rfl) (.int .i64 n) (exec_len_s 22 _ rfl (some ⟨gV, 0, none⟩) n n rfl sl_link) ?_
 simp only [Act.put, pu]
 refine pw_value (by rfl) (.bool false) (exec_neq_k .i64 _ _ _ _ rfl n n rfl rfl false (by rw [decide_eq_true rfl]; rfl)) ?_
 simp only [Act.put, pu]
 refine pw_mv (by rfl) rfl rfl ?_
 simp only [Act.put, pu]
 refine pw_value (by rfl) (.pointer (some ⟨g2, 1, none⟩)) (exec_field 27 _ 1 rfl g2 0 rfl _ Try.underlying27 _ rfl 3 Try.sizeOf25) ?_
 simp only [Act.put, pu]
 refine pw_loadm (by rfl) 25 _ rfl _ (1) rfl r2.r (natC G) (pa_g _ _ _ _) _ Try.underlying25 rfl size_nat ?_
 simp only [Act.put, pu]
 refine pw_value (by rfl) (.pointer (some ⟨g3, 1, none⟩)) (exec_field 27 _ 1 rfl g3 0 rfl _ Try.underlying27 _ rfl 3 Try.sizeOf25) ?_
 simp only [Act.put, pu]
 refine pw_loadm (by rfl) 25 _ rfl _ (1) rfl r3.r (natC G) (pa_g _ _ _ _) _ Try.underlying25 rfl size_nat ?_
 simp only [Act.put, pu]
 refine pw_value (by rfl) (.bool false) (fun w' => (exec_neq_nat _ _ _ rfl G G rfl rfl w').trans (by rw [neq_no])) ?_
 simp only [Act.put, pu]
 refine pw_pick (by rfl) false (v := .bool false) rfl rfl rfl ?_
 simp only [Act.put, pu]
 refine pw_nil ?_
 (repeat ((fail_if_success with_reducible refine rg ?_); go_step))
 refine wp_region_pw ?_
 refine pw_value (by rfl) (.int .i64 0) (fun _ => rfl) ?_
 simp only [Act.put, pu]
 refine pw_nil ?_
 go_wp2_with fail
 go_loopg [5] n (fun g s5 wr => ∃ k : Nat, k + g = n ∧ s5 = .int .i64 k ∧ Row wr g2 (paC (some ⟨gU, 0, none⟩) n n G) 27 ∧ Row wr g3 (paC (some ⟨gV, 0, none⟩) n n G) 27 ∧ Row wr gU (lksC n N A) 58 ∧ Row wr gV (lksC n N A) 58 ∧ Below w.heap.size w wr)
 case atStart => exact ⟨0, by omega, rfl, r2, r3, rU, rV, sb⟩
 case round =>
  clear sb r2 r3 rU rV
  obtain ⟨k, hk, rfl, r2, r3, rU, rV, sb⟩ := hrel
  cases gk with
  | zero =>
   obtain rfl : k = n := by omega
   (repeat ((fail_if_success with_reducible refine rg ?_); go_step))
   refine wp_region_pw ?_
   refine pw_mv (by rfl) rfl rfl ?_
   simp only [Act.put, pu]
   refine pw_value (by rfl) (.pointer (some ⟨g2, 0, none⟩)) (exec_field 27 _ 0 rfl g2 0 rfl _ Try.underlying27 _ rfl 0 Try.sizeOf22) ?_
   simp only [Act.put, pu]
   refine pw_loadk (by rfl) 22 _ rfl _ (0) rfl r2.r (.slice (some ⟨gU, 0, none⟩) k k) rfl Try.isAgg22 ?_
   simp only [Act.put, pu]
   refine pw_value (by rfl) (.int .i64 k) (exec_len_s 22 _ rfl (some ⟨gU, 0, none⟩) k k rfl sl_link) ?_
   simp only [Act.put, pu]
   refine pw_value (by rfl) (.bool false) (exec_lt_b _ _ _ _ rfl k k rfl rfl false (decide_eq_false (Int.lt_irrefl _))) ?_
   simp only [Act.put, pu]
   refine pw_nil ?_
   go_wp2
   go_ret
   exact ⟨rfl, sb⟩
  | succ g =>
   have hpk := hpt k (by omega)
   clear hpt
   (repeat ((fail_if_success with_reducible refine rg ?_); go_step))
   refine wp_region_pw ?_
   refine pw_mv (by rfl) rfl rfl ?_
   simp only [Act.put, pu]
   refine pw_value (by rfl) (.pointer (some ⟨g2, 0, none⟩)) (exec_field 27 _ 0 rfl g2 0 rfl _ Try.underlying27 _ rfl 0 Try.sizeOf22) ?_
   simp only [Act.put, pu]
   refine pw_loadk (by rfl) 22 _ rfl _ (0) rfl r2.r (.slice (some ⟨gU, 0, none⟩) n n) rfl Try.isAgg22 ?_
   simp only [Act.put, pu]
   refine pw_value (by rfl) (.int .i64 n) (exec_len_s 22 _ rfl (some ⟨gU, 0, none⟩) n n rfl sl_link) ?_
   simp only [Act.put, pu]
   refine pw_value (by rfl) (.bool true) (exec_lt_b _ _ _ _ rfl k n rfl rfl true (decide_eq_true (by omega))) ?_
   simp only [Act.put, pu]
   refine pw_nil ?_
   (repeat ((fail_if_success with_reducible refine rg ?_); go_step))
   refine wp_region_qw (by kernel_rfl) (by kernel_rfl) ?_
   refine qw_value (by rfl) (.pointer (some ⟨g2, 0, none⟩)) (exec_field 27 _ 0 rfl g2 0 rfl _ Try.underlying27 _ rfl 0 Try.sizeOf22) ?_
   simp only [Act.put, pu]
   refine qw_loadc (by rfl) 22 _ rfl _ (0) rfl r2 (.slice (some ⟨gU, 0, none⟩) n n) rfl Try.isAgg22 ?_
   simp only [Act.put, pu]
   refine qw_move (by rfl) rfl rfl ?_
   simp only [Act.put, pu]
   refine qw_value (by rfl) (.pointer (some ⟨gU, 0 + k * 5, none⟩)) (exec_index_s 22 _ _ rfl gU 0 n n rfl k rfl (by omega) _ Try.underlying22 5 Try.sizeOf58) ?_
   simp only [Act.put, pu]
   refine qw_loadm (by rfl) 58 _ rfl _ ((0 + k * 5)) rfl rU (lkC (N k) (A k)) hpk _ Try.underlying58 rfl size_lk ?_
   simp only [Act.put, pu]
   refine qw_value (by rfl) (.pointer (some ⟨g3, 0, none⟩)) (exec_field 27 _ 0 rfl g3 0 rfl _ Try.underlying27 _ rfl 0 Try.sizeOf22) ?_
   simp only [Act.put, pu]
   refine qw_loadc (by rfl) 22 _ rfl _ (0) rfl r3 (.slice (some ⟨gV, 0, none⟩) n n) rfl Try.isAgg22 ?_
   simp only [Act.put, pu]
   refine qw_move (by rfl) rfl rfl ?_
   simp only [Act.put, pu]
   refine qw_value (by rfl) (.pointer (some ⟨gV, 0 + k * 5, none⟩)) (exec_index_s 22 _ _ rfl gV 0 n n rfl k rfl (by omega) _ Try.underlying22 5 Try.sizeOf58) ?_
   simp only [Act.put, pu]
   refine qw_loadm (by rfl) 58 _ rfl _ ((0 + k * 5)) rfl rV (lkC (N k) (A k)) hpk _ Try.underlying58 rfl size_lk ?_
   simp only [Act.put, pu]
   refine qw_value (by rfl) (.bool false) (exec_neq_link _ _ _ rfl (N k) (A k) rfl rfl) ?_
   simp only [Act.put, pu]
   refine qw_nil ?_
   intro w5 hqb
   replace r2 := r2.belowAll hqb
   replace r3 := r3.belowAll hqb
   replace rU := rU.belowAll hqb
   replace rV := rV.belowAll hqb
   replace sb := below_on sb (Nat.le_refl _) hqb
   clear hqb
   (repeat ((fail_if_success with_reducible refine rg ?_); go_step))
   refine wp_region_pw ?_
   refine pw_mv (by rfl) rfl rfl ?_
   simp only [Act.put, pu]
   refine pw_value (by rfl) (.int .i64 ((k + 1 : Nat) : Int)) (exec_add_in _ _ _ _ rfl k 1 rfl rfl (by omega)) ?_
   simp only [Act.put, pu]
   refine pw_as (by rfl) rfl rfl ?_
   simp only [Act.put, pu]
   refine pw_nil ?_
   go_wp2
   go_roundg g
   case measure => omega
   case rel => exact ⟨k + 1, by omega, rfl, r2, r3, rU, rV, sb⟩
end Go.Proofs.Ytbmkebdfaokmhaa
