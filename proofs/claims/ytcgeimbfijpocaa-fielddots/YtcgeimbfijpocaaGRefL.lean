/- The document's Least, Other, Great; the law's same. -/
import Derived.Test.YtcgeimbfijpocaaGWri
import Derived.Test.YtcgeimbfijpocaaGGivM
import Derived.Test.YtcgeimbfijpocaaGRef
namespace Go.Proofs.Ytcgeimbfijpocaa
open Go.RowKit
theorem lit_lks {n : Nat} (vs : List (Nat × Value)) (c : Array Value) (k : Nat) (hk : k = 5) (h : Instr.fill (fun i => some (i * 5, 5)) ((Array.range (n * 5)).map ((Value.agg #[.int .u64 0, .int .u64 0, .int .u64 0, .int .u64 0, .int .i64 0]).cells[· % (Value.agg #[.int .u64 0, .int .u64 0, .int .u64 0, .int .u64 0, .int .i64 0]).cells.size]!)) vs = some c) :
  Instr.fill (fun i => some (i * k, k)) ((Array.range (n * k)).map ((Value.agg #[.int .u64 0, .int .u64 0, .int .u64 0, .int .u64 0, .int .i64 0]).cells[· % (Value.agg #[.int .u64 0, .int .u64 0, .int .u64 0, .int .u64 0, .int .i64 0]).cells.size]!)) vs = some c := by
 subst hk; exact h
set_option maxRecDepth 100000 in
set_option maxHeartbeats 2000000 in
theorem le_lits : Instr.fill (fun i => some (i * 5, 5)) ((Array.range (3 * 5)).map ((Value.agg #[.int .u64 0, .int .u64 0, .int .u64 0, .int .u64 0, .int .i64 0]).cells[· % (Value.agg #[.int .u64 0, .int .u64 0, .int .u64 0, .int .u64 0, .int .i64 0]).cells.size]!)) [(0, .agg (lkC 65521 0)), (1, .agg (lkC 1966023127 2)), (2, .agg (lkC 1055500680322183127 2))] = some (lksC 3 (lN leL) twoA) := by kernel_rfl
set_option maxRecDepth 100000 in
set_option maxHeartbeats 2000000 in
theorem rleast_any (w : World) :
  Calls Try.prog 25 #[] w fun e w' => ∃ g, e = .returned (.agg (paC (some ⟨g, 0, none⟩) 3 3 leG)) ∧ w.heap.size ≤ g ∧ Row w' g (lksC 3 (lN leL) twoA) 69 ∧ Below w.heap.size w w' := by
 obtain ⟨ie, hie, hz, hsz⟩ := info_lk'
 have hs1 : ¬ 3 * ie.size > 2 ^ 24 := by rw [hsz]; decide
 have hs2 : ¬ 3 * ie.size = 0 := by rw [hsz]; decide
 have hl := lit_lks _ _ ie.size hsz le_lits
 go_enter Try.func25, Try.ntmps25
 (repeat ((fail_if_success with_reducible refine rg ?_); go_step))
 refine wp_region_pw ?_
 refine pw_new (by rfl) 27 rfl _ zero_pa ?_
 intro g0 z0 n0 r0 k
 simp only [Act.put, List.setIfInBounds_toArray, List.set_cons_zero]
 have b0 : w.heap.size ≤ g0 := n0
 clear n0
 have sb := k.below w.heap.size (Nat.le_refl _) (by simp)
 clear k
 refine pw_nil ?_
 (repeat ((fail_if_success with_reducible refine rg ?_); go_step))
 refine wp_region_pw ?_
 refine pw_value (by rfl) (.agg (natC 65521)) (exec_buildv _ _ rfl [(0, .int .u64 65521)] rfl _ (by kernel_rfl)) ?_
 simp only [Act.put, pu]
 refine pw_value (by rfl) (.agg (lkC 65521 0)) (exec_link2 65521 0 rfl rfl rfl) ?_
 simp only [Act.put, pu]
 refine pw_value (by rfl) (.agg (natC 1966023127)) (exec_buildv _ _ rfl [(0, .int .u64 1966023127)] rfl _ (by kernel_rfl)) ?_
 simp only [Act.put, pu]
 refine pw_value (by rfl) (.agg (lkC 1966023127 2)) (exec_link2 1966023127 2 rfl rfl rfl) ?_
 simp only [Act.put, pu]
 refine pw_value (by rfl) (.agg (natC 1055500680322183127)) (exec_buildv _ _ rfl [(0, .int .u64 1055500680322183127)] rfl _ (by kernel_rfl)) ?_
 simp only [Act.put, pu]
 refine pw_value (by rfl) (.agg (lkC 1055500680322183127 2)) (exec_link2 1055500680322183127 2 rfl rfl rfl) ?_
 simp only [Act.put, pu]
 refine pw_litr (by rfl) 25 69 3 _ rfl (lksC 3 (lN leL) twoA) ie _ Try.underlying25 hie hz hs1 hs2 [(0, .agg (lkC 65521 0)), (1, .agg (lkC 1966023127 2)), (2, .agg (lkC 1055500680322183127 2))] rfl hl ?_
 intro gT z1006 n0 rT k
 simp only [Act.put, pu]
 have d0xT := Nat.lt_of_lt_of_le r0.lt n0
 have bT := Nat.le_trans sb.size n0
 clear n0
 replace r0 := k.row r0 (by simp <;> omega)
 replace sb := sb.trans (k.below w.heap.size sb.size (by simp <;> omega))
 clear k
 refine pw_value (by rfl) (.agg (natC 316543771439780984)) (exec_buildv _ _ rfl [(0, .int .u64 316543771439780984)] rfl _ (by kernel_rfl)) ?_
 simp only [Act.put, pu]
 refine pw_value (by rfl) (.agg (paC (some ⟨gT, 0, none⟩) 3 3 leG)) (exec_buildv _ _ rfl [(0, .slice (some ⟨gT, 0, none⟩) 3 3), (1, .agg (natC leG))] rfl _ (built_pa _ _ _ _)) ?_
 simp only [Act.put, pu]
 refine pw_put (by rfl) 27 _ _ rfl _ rfl r0 (paC (some ⟨gT, 0, none⟩) 3 3 leG) rfl (by exact size_pa) (by rfl) (pa_one _ _ _ _) ?_
 clear r0
 intro z1009 r0 k
 simp only [Act.put]
 replace rT := k.row rT (by simp <;> omega)
 replace sb := sb.trans (k.below w.heap.size sb.size (by simp <;> omega))
 clear k
 refine pw_nil ?_
 go_wp2
 exact ret_rowd rfl _ rfl r0 _ Try.underlying27 (by exact size_pa) rfl ⟨gT, rfl, bT, rT, sb⟩
set_option maxRecDepth 100000 in
set_option maxHeartbeats 2000000 in
theorem ot_lits : Instr.fill (fun i => some (i * 5, 5)) ((Array.range (3 * 5)).map ((Value.agg #[.int .u64 0, .int .u64 0, .int .u64 0, .int .u64 0, .int .i64 0]).cells[· % (Value.agg #[.int .u64 0, .int .u64 0, .int .u64 0, .int .u64 0, .int .i64 0]).cells.size]!)) [(0, .agg (lkC 64817 0)), (1, .agg (lkC 1815135269 2)), (2, .agg (lkC 487269091447081429 2))] = some (lksC 3 (lN otL) twoA) := by kernel_rfl
set_option maxRecDepth 100000 in
set_option maxHeartbeats 2000000 in
theorem rother_any (w : World) :
  Calls Try.prog 26 #[] w fun e w' => ∃ g, e = .returned (.agg (paC (some ⟨g, 0, none⟩) 3 3 otG)) ∧ w.heap.size ≤ g ∧ Row w' g (lksC 3 (lN otL) twoA) 69 ∧ Below w.heap.size w w' := by
 obtain ⟨ie, hie, hz, hsz⟩ := info_lk'
 have hs1 : ¬ 3 * ie.size > 2 ^ 24 := by rw [hsz]; decide
 have hs2 : ¬ 3 * ie.size = 0 := by rw [hsz]; decide
 have hl := lit_lks _ _ ie.size hsz ot_lits
 go_enter Try.func26, Try.ntmps26
 (repeat ((fail_if_success with_reducible refine rg ?_); go_step))
 refine wp_region_pw ?_
 refine pw_new (by rfl) 27 rfl _ zero_pa ?_
 intro g0 z0 n0 r0 k
 simp only [Act.put, List.setIfInBounds_toArray, List.set_cons_zero]
 have b0 : w.heap.size ≤ g0 := n0
 clear n0
 have sb := k.below w.heap.size (Nat.le_refl _) (by simp)
 clear k
 refine pw_nil ?_
 (repeat ((fail_if_success with_reducible refine rg ?_); go_step))
 refine wp_region_pw ?_
 refine pw_value (by rfl) (.agg (natC 64817)) (exec_buildv _ _ rfl [(0, .int .u64 64817)] rfl _ (by kernel_rfl)) ?_
 simp only [Act.put, pu]
 refine pw_value (by rfl) (.agg (lkC 64817 0)) (exec_link2 64817 0 rfl rfl rfl) ?_
 simp only [Act.put, pu]
 refine pw_value (by rfl) (.agg (natC 1815135269)) (exec_buildv _ _ rfl [(0, .int .u64 1815135269)] rfl _ (by kernel_rfl)) ?_
 simp only [Act.put, pu]
 refine pw_value (by rfl) (.agg (lkC 1815135269 2)) (exec_link2 1815135269 2 rfl rfl rfl) ?_
 simp only [Act.put, pu]
 refine pw_value (by rfl) (.agg (natC 487269091447081429)) (exec_buildv _ _ rfl [(0, .int .u64 487269091447081429)] rfl _ (by kernel_rfl)) ?_
 simp only [Act.put, pu]
 refine pw_value (by rfl) (.agg (lkC 487269091447081429 2)) (exec_link2 487269091447081429 2 rfl rfl rfl) ?_
 simp only [Act.put, pu]
 refine pw_litr (by rfl) 25 69 3 _ rfl (lksC 3 (lN otL) twoA) ie _ Try.underlying25 hie hz hs1 hs2 [(0, .agg (lkC 64817 0)), (1, .agg (lkC 1815135269 2)), (2, .agg (lkC 487269091447081429 2))] rfl hl ?_
 intro gT z1006 n0 rT k
 simp only [Act.put, pu]
 have d0xT := Nat.lt_of_lt_of_le r0.lt n0
 have bT := Nat.le_trans sb.size n0
 clear n0
 replace r0 := k.row r0 (by simp <;> omega)
 replace sb := sb.trans (k.below w.heap.size sb.size (by simp <;> omega))
 clear k
 refine pw_value (by rfl) (.agg (natC 54624333139524128)) (exec_buildv _ _ rfl [(0, .int .u64 54624333139524128)] rfl _ (by kernel_rfl)) ?_
 simp only [Act.put, pu]
 refine pw_value (by rfl) (.agg (paC (some ⟨gT, 0, none⟩) 3 3 otG)) (exec_buildv _ _ rfl [(0, .slice (some ⟨gT, 0, none⟩) 3 3), (1, .agg (natC otG))] rfl _ (built_pa _ _ _ _)) ?_
 simp only [Act.put, pu]
 refine pw_put (by rfl) 27 _ _ rfl _ rfl r0 (paC (some ⟨gT, 0, none⟩) 3 3 otG) rfl (by exact size_pa) (by rfl) (pa_one _ _ _ _) ?_
 clear r0
 intro z1009 r0 k
 simp only [Act.put]
 replace rT := k.row rT (by simp <;> omega)
 replace sb := sb.trans (k.below w.heap.size sb.size (by simp <;> omega))
 clear k
 refine pw_nil ?_
 go_wp2
 exact ret_rowd rfl _ rfl r0 _ Try.underlying27 (by exact size_pa) rfl ⟨gT, rfl, bT, rT, sb⟩
set_option maxRecDepth 100000 in
set_option maxHeartbeats 2000000 in
theorem gr_lits : Instr.fill (fun i => some (i * 5, 5)) ((Array.range (5 * 5)).map ((Value.agg #[.int .u64 0, .int .u64 0, .int .u64 0, .int .u64 0, .int .i64 0]).cells[· % (Value.agg #[.int .u64 0, .int .u64 0, .int .u64 0, .int .u64 0, .int .i64 0]).cells.size]!)) [(0, .agg (lkC 65519 0)), (1, .agg (lkC 1313918027 2)), (2, .agg (lkC 88175567203779761 2)), (3, .agg (lkC 6353719225633997551192976661815171 2)), (4, .agg (lkC 128868735840905246597005622286753383510486359307609845843856143183 2))] = some (lksC 5 (lN grL) twoA) := by kernel_rfl
set_option maxRecDepth 100000 in
set_option maxHeartbeats 2000000 in
theorem rgreat_any (w : World) :
  Calls Try.prog 27 #[] w fun e w' => ∃ g, e = .returned (.agg (paC (some ⟨g, 0, none⟩) 5 5 grG)) ∧ w.heap.size ≤ g ∧ Row w' g (lksC 5 (lN grL) twoA) 69 ∧ Below w.heap.size w w' := by
 obtain ⟨ie, hie, hz, hsz⟩ := info_lk'
 have hs1 : ¬ 5 * ie.size > 2 ^ 24 := by rw [hsz]; decide
 have hs2 : ¬ 5 * ie.size = 0 := by rw [hsz]; decide
 have hl := lit_lks _ _ ie.size hsz gr_lits
 go_enter Try.func27, Try.ntmps27
 (repeat ((fail_if_success with_reducible refine rg ?_); go_step))
 refine wp_region_pw ?_
 refine pw_new (by rfl) 27 rfl _ zero_pa ?_
 intro g0 z0 n0 r0 k
 simp only [Act.put, List.setIfInBounds_toArray, List.set_cons_zero]
 have b0 : w.heap.size ≤ g0 := n0
 clear n0
 have sb := k.below w.heap.size (Nat.le_refl _) (by simp)
 clear k
 refine pw_nil ?_
 (repeat ((fail_if_success with_reducible refine rg ?_); go_step))
 refine wp_region_pw ?_
 refine pw_value (by rfl) (.agg (natC 65519)) (exec_buildv _ _ rfl [(0, .int .u64 65519)] rfl _ (by kernel_rfl)) ?_
 simp only [Act.put, pu]
 refine pw_value (by rfl) (.agg (lkC 65519 0)) (exec_link2 65519 0 rfl rfl rfl) ?_
 simp only [Act.put, pu]
 refine pw_value (by rfl) (.agg (natC 1313918027)) (exec_buildv _ _ rfl [(0, .int .u64 1313918027)] rfl _ (by kernel_rfl)) ?_
 simp only [Act.put, pu]
 refine pw_value (by rfl) (.agg (lkC 1313918027 2)) (exec_link2 1313918027 2 rfl rfl rfl) ?_
 simp only [Act.put, pu]
 refine pw_value (by rfl) (.agg (natC 88175567203779761)) (exec_buildv _ _ rfl [(0, .int .u64 88175567203779761)] rfl _ (by kernel_rfl)) ?_
 simp only [Act.put, pu]
 refine pw_value (by rfl) (.agg (lkC 88175567203779761 2)) (exec_link2 88175567203779761 2 rfl rfl rfl) ?_
 simp only [Act.put, pu]
 refine pw_value (by rfl) (.agg (natC 6353719225633997551192976661815171)) (exec_buildv _ _ rfl [(0, .int .u64 15752163429641756547), (1, .int .u64 344435809389764)] rfl _ (by kernel_rfl)) ?_
 simp only [Act.put, pu]
 refine pw_value (by rfl) (.agg (lkC 6353719225633997551192976661815171 2)) (exec_link2 6353719225633997551192976661815171 2 rfl rfl rfl) ?_
 simp only [Act.put, pu]
 refine pw_value (by rfl) (.agg (natC 128868735840905246597005622286753383510486359307609845843856143183)) (exec_buildv _ _ rfl [(0, .int .u64 3727879549075534671), (1, .int .u64 12844076830096575486), (2, .int .u64 1228573241546452547), (3, .int .u64 20529974)] rfl _ (by kernel_rfl)) ?_
 simp only [Act.put, pu]
 refine pw_value (by rfl) (.agg (lkC 128868735840905246597005622286753383510486359307609845843856143183 2)) (exec_link2 128868735840905246597005622286753383510486359307609845843856143183 2 rfl rfl rfl) ?_
 simp only [Act.put, pu]
 refine pw_litr (by rfl) 25 69 5 _ rfl (lksC 5 (lN grL) twoA) ie _ Try.underlying25 hie hz hs1 hs2 [(0, .agg (lkC 65519 0)), (1, .agg (lkC 1313918027 2)), (2, .agg (lkC 88175567203779761 2)), (3, .agg (lkC 6353719225633997551192976661815171 2)), (4, .agg (lkC 128868735840905246597005622286753383510486359307609845843856143183 2))] rfl hl ?_
 intro gT z1010 n0 rT k
 simp only [Act.put, pu]
 have d0xT := Nat.lt_of_lt_of_le r0.lt n0
 have bT := Nat.le_trans sb.size n0
 clear n0
 replace r0 := k.row r0 (by simp <;> omega)
 replace sb := sb.trans (k.below w.heap.size sb.size (by simp <;> omega))
 clear k
 refine pw_value (by rfl) (.agg (natC 9151157341667469615800997130231454865425018181917904921479972729)) (exec_buildv _ _ rfl [(0, .int .u64 12280068205398558585), (1, .int .u64 6413536983304955349), (2, .int .u64 8741009603146644127), (3, .int .u64 1457863)] rfl _ (by kernel_rfl)) ?_
 simp only [Act.put, pu]
 refine pw_value (by rfl) (.agg (paC (some ⟨gT, 0, none⟩) 5 5 grG)) (exec_buildv _ _ rfl [(0, .slice (some ⟨gT, 0, none⟩) 5 5), (1, .agg (natC grG))] rfl _ (built_pa _ _ _ _)) ?_
 simp only [Act.put, pu]
 refine pw_put (by rfl) 27 _ _ rfl _ rfl r0 (paC (some ⟨gT, 0, none⟩) 5 5 grG) rfl (by exact size_pa) (by rfl) (pa_one _ _ _ _) ?_
 clear r0
 intro z1013 r0 k
 simp only [Act.put]
 replace rT := k.row rT (by simp <;> omega)
 replace sb := sb.trans (k.below w.heap.size sb.size (by simp <;> omega))
 clear k
 refine pw_nil ?_
 go_wp2
 exact ret_rowd rfl _ rfl r0 _ Try.underlying27 (by exact size_pa) rfl ⟨gT, rfl, bT, rT, sb⟩
theorem lks_part (n : Nat) (N : Nat → Nat) (A : Nat → Int) (k : Nat) (h : k < n) : ∀ j v, (lkC (N k) (A k)).toList[j]? = some v → (lksC n N A)[0 + k * 5 + j]? = some v := by
 intro j v hv
 rw [Array.getElem?_toList] at hv
 have hj : j < 5 := by
  have := (Array.getElem?_eq_some_iff.1 hv).1
  rw [lkC_size] at this
  exact this
 rw [lkv_get _ _ _ hj] at hv
 rw [lksC_get n N A _ (by omega), show (0 + k * 5 + j) / 5 = k by omega, show (0 + k * 5 + j) % 5 = j by omega]
 exact hv
end Go.Proofs.Ytcgeimbfijpocaa
