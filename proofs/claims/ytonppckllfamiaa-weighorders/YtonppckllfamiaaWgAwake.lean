/- The check of layer 17. -/
import Derived.Test.YtonppckllfamiaaWgStm
import Derived.Test.YtonppckllfamiaaWgNext
namespace Go.Proofs.Ytonppckllfamiaa
open Go.RowKit
set_option linter.unusedVariables false
set_option linter.unusedSectionVars false
set_option linter.unusedSimpArgs false
/-- The bits that the check takes. -/
def bts : Nat → Nat
 | 0 => 9221120237041090560
 | 1 => 9218868437227405312
 | 2 => 0
 | 3 => 9223372036854775808
 | _ => 18442240474082181120
theorem bts_lt (i : Nat) (h : i < 5) : bts i < 18446744073709551616 := by
 have h5 : i = 0 ∨ i = 1 ∨ i = 2 ∨ i = 3 ∨ i = 4 := by omega
 rcases h5 with rfl | rfl | rfl | rfl | rfl <;> decide
def bkr (i : Nat) : Int := rnk (bts i)
theorem bk0 : bkr 0 = 9223372036854775807 := by decide
theorem bk1 : bkr 1 = 9218868437227405312 := by decide
theorem bk2 : bkr 2 = 0 := by decide
theorem bk3 : bkr 3 = -1 := by decide
theorem bk4 : bkr 4 = -9218868437227405313 := by decide
theorem bts_ord : Ord (fun i => rnk (bts i)) 5 (fun i => 4 - i) := by
 refine ⟨fun i h => by omega, fun i j h1 h2 e => by omega, fun i j h1 h2 h3 => ?_⟩
 show ahd bkr (4 - i) (4 - j)
 left
 have hi : i = 0 ∨ i = 1 ∨ i = 2 ∨ i = 3 := by omega
 have hj : j = 1 ∨ j = 2 ∨ j = 3 ∨ j = 4 := by omega
 rcases hi with rfl | rfl | rfl | rfl <;> rcases hj with rfl | rfl | rfl | rfl <;> first | omega | (simp only [Nat.sub_zero, Nat.reduceSub, bk0, bk1, bk2, bk3, bk4]; decide)
theorem bts_lsz : lsz (fun i => rnk (bts i)) 5 = 4 := by decide
theorem u5_at (i : Nat) (h : i < 5) : (#[.int .u64 9221120237041090560, .int .u64 9218868437227405312, .int .u64 0, .int .u64 9223372036854775808, .int .u64 18442240474082181120] : Array Value)[0 + i * 1]? = some (u6v bts i) := by
 have h5 : i = 0 ∨ i = 1 ∨ i = 2 ∨ i = 3 ∨ i = 4 := by omega
 rcases h5 with rfl | rfl | rfl | rfl | rfl <;> rfl
theorem i5_at (i : Nat) (h : i < 5) : (#[.int .i64 4, .int .i64 3, .int .i64 2, .int .i64 1, .int .i64 0] : Array Value)[0 + i * 1]? = some (.int .i64 ((4 - i : Nat) : Int)) := by
 have h5 : i = 0 ∨ i = 1 ∨ i = 2 ∨ i = 3 ∨ i = 4 := by omega
 rcases h5 with rfl | rfl | rfl | rfl | rfl <;> rfl
theorem info_u6x : (Try.prog.info? 22).map (fun i => (i.zero, i.size)) = some (some (.int .u64 0), 1) := by kernel_rfl
theorem info_u6 : ∃ i, Try.prog.info? 22 = some i ∧ i.zero = some (.int .u64 0) ∧ i.size = 1 := by
 cases hi : Try.prog.info? 22 with
 | none => have := info_u6x; rw [hi] at this; cases this
 | some i =>
  have h := info_u6x
  rw [hi] at h
  simp only [Option.map_some, Option.some.injEq, Prod.mk.injEq] at h
  exact ⟨i, rfl, h.1, h.2⟩
theorem lit_u5 (k : Nat) (hk : k = 1) : Instr.fill (fun i => some (i * k, k)) ((Array.range (5 * k)).map ((Value.int .u64 0).cells[· % (Value.int .u64 0).cells.size]!)) [(0, .int .u64 9221120237041090560), (1, .int .u64 9218868437227405312), (2, .int .u64 0), (3, .int .u64 9223372036854775808), (4, .int .u64 18442240474082181120)] = some #[.int .u64 9221120237041090560, .int .u64 9218868437227405312, .int .u64 0, .int .u64 9223372036854775808, .int .u64 18442240474082181120] := by
 subst hk
 kernel_rfl
theorem lit_i5 (k : Nat) (hk : k = 1) : Instr.fill (fun i => some (i * k, k)) ((Array.range (5 * k)).map ((Value.int .i64 0).cells[· % (Value.int .i64 0).cells.size]!)) [(0, .int .i64 4), (1, .int .i64 3), (2, .int .i64 2), (3, .int .i64 1), (4, .int .i64 0)] = some #[.int .i64 4, .int .i64 3, .int .i64 2, .int .i64 1, .int .i64 0] := by
 subst hk
 kernel_rfl
theorem nxt_0 : nxt 9223372036854775808 = 0 := by decide
theorem sme_0 : sme 0 0 = true := by decide
theorem cpz_0 : cpz (rnk 9223372036854775808) (rnk 0) = -1 := by decide
theorem rnk_0 : rnk 9223372036854775808 = -1 := by decide
set_option maxRecDepth 100000 in
set_option maxHeartbeats 2000000 in
theorem awake_any (w : World) :
  Calls Try.prog 12 #[] w fun e w' => e = .returned (.bool true) ∧ Below w.heap.size w w' := by
 obtain ⟨iu, hiu, hzu, hsu⟩ := info_u6
 have hu1 : ¬ 5 * iu.size > 2 ^ 24 := by rw [hsu]; decide
 have hu2 : ¬ 5 * iu.size = 0 := by rw [hsu]; decide
 have hlu := lit_u5 iu.size hsu
 obtain ⟨ii, hii, hzi, hsi, _⟩ := info_int'
 have hi1 : ¬ 5 * ii.size > 2 ^ 24 := by rw [hsi]; decide
 have hi2 : ¬ 5 * ii.size = 0 := by rw [hsi]; decide
 have hli := lit_i5 ii.size hsi
 have hfl := fun w' g (q : Row w' g #[.int .u64 9221120237041090560, .int .u64 9218868437227405312, .int .u64 0, .int .u64 9223372036854775808, .int .u64 18442240474082181120] 22) => floats_any (some ⟨g, 0, none⟩) 5 5 bts g 0 _ _ w' (by omega) ⟨.inr ⟨rfl, q.r, u5_at⟩⟩
 have hnm := fun w' g g' v (hO : Ord (fun i => rnk (bts i)) 5 v) (q : Row w' g (isC 5 v) 3) (q' : Row w' g' #[.int .i64 4, .int .i64 3, .int .i64 2, .int .i64 1, .int .i64 0] 3) => nums_yes (some ⟨g, 0, none⟩) (some ⟨g', 0, none⟩) 5 5 5 v (fun i => 4 - i) g 0 g' 0 _ _ _ _ w' (by omega) (hO.uniq bts_ord) (nums_row q) ⟨.inr ⟨rfl, q'.r, i5_at⟩⟩
 have hcm := fun w' => cmp_any 9223372036854775808 0 (by decide) (by decide) w'
 have hke := fun w' => key_any 9223372036854775808 (by decide) w'
 have hne := fun w' => next_any 9223372036854775808 (by decide) w'
 have hsa := fun w' => same_any 0 0 w'
 rw [cpz_0] at hcm
 rw [rnk_0] at hke
 rw [nxt_0] at hne
 rw [sme_0] at hsa
 go_enter Try.func12, Try.ntmps12
 have sb := sbmk w
 (repeat ((fail_if_success with_reducible refine rg ?_); go_step))
 refine wp_region_pw ?_
 refine pw_value (by rfl) (.bool false) (fun _ => rfl) ?_
 simp only [Act.put, List.setIfInBounds_toArray, List.set_cons_zero]
 refine pw_nil ?_
 (repeat ((fail_if_success with_reducible refine rg ?_); go_step))
 refine wp_region_pw ?_
 refine pw_litr (by rfl) 29 22 5 _ rfl #[.int .u64 9221120237041090560, .int .u64 9218868437227405312, .int .u64 0, .int .u64 9223372036854775808, .int .u64 18442240474082181120] iu _ Try.underlying29 hiu hzu hu1 hu2 [(0, .int .u64 9221120237041090560), (1, .int .u64 9218868437227405312), (2, .int .u64 0), (3, .int .u64 9223372036854775808), (4, .int .u64 18442240474082181120)] rfl hlu ?_
 intro gL z1000 n0 rL k
 simp only [Act.put, pu]
 have bL := Nat.le_trans sb.size n0
 clear n0
 replace sb := sb.trans (k.below w.heap.size sb.size (by simp <;> omega))
 clear k
 refine pw_callE (by rfl) 13 _ _ rfl Try.func13 (by kernel_rfl) #[.slice (some ⟨gL, 0, none⟩) 5 5] rfl (hfl _ _ rL) ?_
 rintro _ z1001 ⟨v, rfl, hF, hb⟩
 refine ⟨_, rfl, ?_⟩
 simp only [Act.put, pu]
 have k := Kept.ofBelow hb
 clear hb
 replace rL := k.row rL (by simp <;> omega)
 replace sb := sb.trans (k.below w.heap.size sb.size (by simp <;> omega))
 clear k
 refine pw_as (by rfl) rfl rfl ?_
 simp only [Act.put, pu]
 refine pw_nil ?_
 obtain ⟨av, cv, rfl⟩ := own_shape hF
 obtain ⟨_, gb, cur, hV⟩ := ownF_vs hF
 clear hF hfl
 have hor := fun w' (q : VsAt w' av 5 (flv bts) gb 0 cur 23) => order_sm av 5 cv bts gb 0 cur _ w' (by omega) bts_lt q
 have hle := fun w' (q : VsAt w' av 5 (flv bts) gb 0 cur 23) => least_any av 5 cv bts gb 0 cur _ w' (by omega) bts_lt q
 rw [bts_lsz] at hle
 (repeat ((fail_if_success with_reducible refine rg ?_); go_step))
 refine wp_region_pw ?_
 refine pw_mv (by rfl) rfl rfl ?_
 simp only [Act.put, pu]
 refine pw_callE (by rfl) 17 _ _ rfl Try.func17 (by kernel_rfl) #[.slice av 5 cv] rfl (hor _ hV) ?_
 rintro _ z2001 ⟨gD, v, rfl, hO, rD, hb⟩
 refine ⟨_, rfl, ?_⟩
 simp only [Act.put, pu]
 have k := Kept.ofBelow hb
 clear hb
 replace hV := hV.below k.nil
 replace sb := sb.trans (k.below w.heap.size sb.size (by simp <;> omega))
 clear k
 refine pw_litr (by rfl) 34 3 5 _ rfl #[.int .i64 4, .int .i64 3, .int .i64 2, .int .i64 1, .int .i64 0] ii _ Try.underlying34 hii hzi hi1 hi2 [(0, .int .i64 4), (1, .int .i64 3), (2, .int .i64 2), (3, .int .i64 1), (4, .int .i64 0)] rfl hli ?_
 intro gE z2002 n0 rE k
 simp only [Act.put, pu]
 have dDxE := Nat.lt_of_lt_of_le rD.lt n0
 have bE := Nat.le_trans sb.size n0
 clear n0
 replace hV := hV.below k.nil
 replace rD := k.row rD (by simp <;> omega)
 replace sb := sb.trans (k.below w.heap.size sb.size (by simp <;> omega))
 clear k
 refine pw_callB (by rfl) 16 _ _ rfl Try.func16 (by kernel_rfl) #[.slice (some ⟨gD, 0, none⟩) 5 5, .slice (some ⟨gE, 0, none⟩) 5 5] rfl _ (hnm _ _ _ _ hO rD rE) ?_
 intro z2003 k
 simp only [Act.put, pu]
 replace hV := hV.below k.nil
 replace rD := k.row rD (by simp <;> omega)
 replace rE := k.row rE (by simp <;> omega)
 replace sb := sb.trans (k.below w.heap.size sb.size (by simp <;> omega))
 clear k
 refine pw_mv (by rfl) rfl rfl ?_
 simp only [Act.put, pu]
 refine pw_mv (by rfl) rfl rfl ?_
 simp only [Act.put, pu]
 refine pw_callB (by rfl) 14 _ _ rfl Try.func14 (by kernel_rfl) #[.slice av 5 cv] rfl _ (hle _ hV) ?_
 intro z2006 k
 simp only [Act.put, pu]
 replace hV := hV.below k.nil
 replace rD := k.row rD (by simp <;> omega)
 replace rE := k.row rE (by simp <;> omega)
 replace sb := sb.trans (k.below w.heap.size sb.size (by simp <;> omega))
 clear k
 refine pw_value (by rfl) (.bool true) (exec_eql_k .i64 _ _ _ _ rfl (4) (4) rfl rfl true rfl) ?_
 simp only [Act.put, pu]
 refine pw_pick (by rfl) true (v := .bool true) rfl rfl rfl ?_
 simp only [Act.put, pu]
 refine pw_mv (by rfl) rfl rfl ?_
 simp only [Act.put, pu]
 refine pw_callB (by rfl) 7 _ _ rfl Try.func7 (by kernel_rfl) #[.int .u64 9223372036854775808] rfl _ (of_any 9223372036854775808 _) ?_
 intro z2010 k
 simp only [Act.put, pu]
 replace hV := hV.below k.nil
 replace rD := k.row rD (by simp <;> omega)
 replace rE := k.row rE (by simp <;> omega)
 replace sb := sb.trans (k.below w.heap.size sb.size (by simp <;> omega))
 clear k
 refine pw_callB (by rfl) 7 _ _ rfl Try.func7 (by kernel_rfl) #[.int .u64 0] rfl _ (of_any 0 _) ?_
 intro z2011 k
 simp only [Act.put, pu]
 replace hV := hV.below k.nil
 replace rD := k.row rD (by simp <;> omega)
 replace rE := k.row rE (by simp <;> omega)
 replace sb := sb.trans (k.below w.heap.size sb.size (by simp <;> omega))
 clear k
 refine pw_callB (by rfl) 10 _ _ rfl Try.func10 (by kernel_rfl) #[.float .f64 9223372036854775808, .float .f64 0] rfl _ (hcm _) ?_
 intro z2012 k
 simp only [Act.put, pu]
 replace hV := hV.below k.nil
 replace rD := k.row rD (by simp <;> omega)
 replace rE := k.row rE (by simp <;> omega)
 replace sb := sb.trans (k.below w.heap.size sb.size (by simp <;> omega))
 clear k
 refine pw_value (by rfl) (.bool true) (exec_eql_k .i64 _ _ _ _ rfl (-1) (-1) rfl rfl true rfl) ?_
 simp only [Act.put, pu]
 refine pw_pick (by rfl) true (v := .bool true) rfl rfl rfl ?_
 simp only [Act.put, pu]
 refine pw_mv (by rfl) rfl rfl ?_
 simp only [Act.put, pu]
 refine pw_callB (by rfl) 7 _ _ rfl Try.func7 (by kernel_rfl) #[.int .u64 9223372036854775808] rfl _ (of_any 9223372036854775808 _) ?_
 intro z2016 k
 simp only [Act.put, pu]
 replace hV := hV.below k.nil
 replace rD := k.row rD (by simp <;> omega)
 replace rE := k.row rE (by simp <;> omega)
 replace sb := sb.trans (k.below w.heap.size sb.size (by simp <;> omega))
 clear k
 refine pw_callB (by rfl) 8 _ _ rfl Try.func8 (by kernel_rfl) #[.float .f64 9223372036854775808] rfl _ (hke _) ?_
 intro z2017 k
 simp only [Act.put, pu]
 replace hV := hV.below k.nil
 replace rD := k.row rD (by simp <;> omega)
 replace rE := k.row rE (by simp <;> omega)
 replace sb := sb.trans (k.below w.heap.size sb.size (by simp <;> omega))
 clear k
 refine pw_value (by rfl) (.bool true) (exec_eql_k .i64 _ _ _ _ rfl (-1) (-1) rfl rfl true rfl) ?_
 simp only [Act.put, pu]
 refine pw_pick (by rfl) true (v := .bool true) rfl rfl rfl ?_
 simp only [Act.put, pu]
 refine pw_mv (by rfl) rfl rfl ?_
 simp only [Act.put, pu]
 refine pw_callB (by rfl) 7 _ _ rfl Try.func7 (by kernel_rfl) #[.int .u64 9223372036854775808] rfl _ (of_any 9223372036854775808 _) ?_
 intro z2021 k
 simp only [Act.put, pu]
 replace hV := hV.below k.nil
 replace rD := k.row rD (by simp <;> omega)
 replace rE := k.row rE (by simp <;> omega)
 replace sb := sb.trans (k.below w.heap.size sb.size (by simp <;> omega))
 clear k
 refine pw_callB (by rfl) 19 _ _ rfl Try.func19 (by kernel_rfl) #[.float .f64 9223372036854775808] rfl _ (hne _) ?_
 intro z2022 k
 simp only [Act.put, pu]
 replace hV := hV.below k.nil
 replace rD := k.row rD (by simp <;> omega)
 replace rE := k.row rE (by simp <;> omega)
 replace sb := sb.trans (k.below w.heap.size sb.size (by simp <;> omega))
 clear k
 refine pw_callB (by rfl) 7 _ _ rfl Try.func7 (by kernel_rfl) #[.int .u64 0] rfl _ (of_any 0 _) ?_
 intro z2023 k
 simp only [Act.put, pu]
 replace hV := hV.below k.nil
 replace rD := k.row rD (by simp <;> omega)
 replace rE := k.row rE (by simp <;> omega)
 replace sb := sb.trans (k.below w.heap.size sb.size (by simp <;> omega))
 clear k
 refine pw_callB (by rfl) 22 _ _ rfl Try.func22 (by kernel_rfl) #[.float .f64 0, .float .f64 0] rfl _ (hsa _) ?_
 intro z2024 k
 simp only [Act.put, pu]
 replace hV := hV.below k.nil
 replace rD := k.row rD (by simp <;> omega)
 replace rE := k.row rE (by simp <;> omega)
 replace sb := sb.trans (k.below w.heap.size sb.size (by simp <;> omega))
 clear k
 refine pw_pick (by rfl) true (v := .bool true) rfl rfl rfl ?_
 simp only [Act.put, pu]
 refine pw_as (by rfl) rfl rfl ?_
 simp only [Act.put, List.setIfInBounds_toArray, List.set_cons_zero]
 refine pw_nil ?_
 go_wp2
 go_ret
 exact ⟨rfl, sb⟩
end Go.Proofs.Ytonppckllfamiaa
