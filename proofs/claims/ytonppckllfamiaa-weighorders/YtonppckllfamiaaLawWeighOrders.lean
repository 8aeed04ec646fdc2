/- WeighOrders: for the floats of any bits, up to forty: Least and Order answer as the document says; no condition. -/
import Derived.Test.YtonppckllfamiaaWgAwake
import Derived.Test.YtonppckllfamiaaWgStb
import Derived.Test.YtonppckllfamiaaWgOpen
namespace Go.Proofs.Ytonppckllfamiaa
open Go.ChangeShapes Go.WideShapes Go.ChangeAt Go.RowKit
set_option linter.unusedVariables false
set_option linter.unusedSectionVars false
set_option linter.unusedSimpArgs false
namespace weighOrdersP
set_option maxRecDepth 100000 in
set_option maxHeartbeats 2000000 in
theorem walk (ab : Option Addr) (n c : Nat) (B : Nat → Nat) (gb ob : Nat) (bcs : Array Value) (tb : TypeId) (w : World) (hf : VsAt w ab n (u6v B) gb ob bcs tb) (hB : ∀ i, i < n → B i < 18446744073709551616) :
  Calls Try.prog 4 #[.slice ab n c] w fun e w' => e = .returned (.bool true) ∧ Below w.heap.size w w' := by
 by_cases hn : 40 < n
 ·clear hf hB
  go_enter Try.func4, Try.ntmps4
  have sb := sbmk w
  (repeat ((fail_if_success with_reducible refine rg ?_); go_step))
  refine wp_region_pw ?_
  refine pw_value (by rfl) (.bool false) (fun _ => rfl) ?_
  simp only [Act.put, pu]
  refine pw_nil ?_
  (repeat ((fail_if_success with_reducible refine rg ?_); go_step))
  refine wp_region_pw ?_
  refine pw_mv (by rfl) rfl rfl ?_
  simp only [Act.put, pu]
  refine pw_value (by rfl) (.int .i64 (n : Nat)) (exec_len_s 29 _ rfl (ab) (n) (c) rfl sl_u6) ?_
  simp only [Act.put, pu]
  refine pw_value (by rfl) (.bool true) (exec_gt_i _ _ _ _ rfl (n : Nat) 40 rfl rfl true (decide_eq_true (by omega))) ?_
  simp only [Act.put, pu]
  refine pw_nil ?_
  (repeat ((fail_if_success with_reducible refine rg ?_); go_step))
  refine wp_region_pw ?_
  refine pw_callB (by rfl) 12 _ _ rfl Try.func12 (by kernel_rfl) #[] rfl _ (awake_any _) ?_
  intro z2000 k
  simp only [Act.put, pu]
  replace sb := sb.trans (k.below w.heap.size sb.size (by simp <;> omega))
  clear k
  refine pw_as (by rfl) rfl rfl ?_
  simp only [Act.put, pu]
  refine pw_nil ?_
  go_wp2
  go_ret
  exact ⟨rfl, sb⟩
 ·have hfl := fun w' (hb : Below w.heap.size w w') => floats_any ab n c B gb ob bcs tb w' (by omega) (hf.below hb)
  have hor := fun av cv gv cur w' (q : VsAt w' av n (flv B) gv 0 cur 23) => order_any av n cv B gv 0 cur _ w' (by omega) hB q
  have hro := fun av cv gv cur w' (q : VsAt w' av n (flv B) gv 0 cur 23) => rorder_any av n cv B gv 0 cur _ w' (by omega) hB q
  have hle := fun av cv gv cur w' (q : VsAt w' av n (flv B) gv 0 cur 23) => least_any av n cv B gv 0 cur _ w' (by omega) hB q
  have hrl := fun av cv gv cur w' (q : VsAt w' av n (flv B) gv 0 cur 23) => rleast_any av n cv B gv 0 cur _ w' (by omega) hB q
  clear hf hB
  generalize (fun i => rnk (B i)) = κ at *
  have hnm := fun w' g ae ce (v u : Nat → Nat) base (h1 : Ord κ n v) (h2 : Ord κ n u) (q : Row w' g (isC n v) 3) (q' : OwnI w' base (.slice ae n ce) n u) => show Calls Try.prog 16 #[.slice (some ⟨g, 0, none⟩) n n, .slice ae n ce] w' _ from (by
   obtain ⟨_, ge, cur, hu⟩ := ownI_nums q'
   exact nums_yes (some ⟨g, 0, none⟩) ae n n ce v u g 0 ge 0 _ _ _ _ w' (by omega) (h1.uniq h2) (nums_row q) hu)
  go_enter Try.func4, Try.ntmps4
  have sb := sbmk w
  (repeat ((fail_if_success with_reducible refine rg ?_); go_step))
  refine wp_region_pw ?_
  refine pw_value (by rfl) (.bool false) (fun _ => rfl) ?_
  simp only [Act.put, pu]
  refine pw_nil ?_
  (repeat ((fail_if_success with_reducible refine rg ?_); go_step))
  refine wp_region_pw ?_
  refine pw_mv (by rfl) rfl rfl ?_
  simp only [Act.put, pu]
  refine pw_value (by rfl) (.int .i64 (n : Nat)) (exec_len_s 29 _ rfl (ab) (n) (c) rfl sl_u6) ?_
  simp only [Act.put, pu]
  refine pw_value (by rfl) (.bool false) (exec_gt_i _ _ _ _ rfl (n : Nat) 40 rfl rfl false (decide_eq_false (by omega))) ?_
  simp only [Act.put, pu]
  refine pw_nil ?_
  (repeat ((fail_if_success with_reducible refine rg ?_); go_step))
  refine wp_region_pw ?_
  refine pw_mv (by rfl) rfl rfl ?_
  simp only [Act.put, pu]
  refine pw_callE (by rfl) 13 _ _ rfl Try.func13 (by kernel_rfl) #[.slice ab n c] rfl (hfl _ sb) ?_
  rintro _ z3001 ⟨v, rfl, hF, hb⟩
  refine ⟨_, rfl, ?_⟩
  simp only [Act.put, pu]
  have k := Kept.ofBelow hb
  clear hb
  replace sb := sb.trans (k.below w.heap.size sb.size (by simp <;> omega))
  clear k
  refine pw_as (by rfl) rfl rfl ?_
  simp only [Act.put, pu]
  refine pw_nil ?_
  obtain ⟨av, cv, rfl⟩ := own_shape hF
  obtain ⟨_, gv, cur, hV⟩ := ownF_vs hF
  clear hF hfl
  generalize lsz κ n = lz at *
  (repeat ((fail_if_success with_reducible refine rg ?_); go_step))
  refine wp_region_pw ?_
  refine pw_mv (by rfl) rfl rfl ?_
  simp only [Act.put, pu]
  refine pw_callB (by rfl) 14 _ _ rfl Try.func14 (by kernel_rfl) #[.slice av n cv] rfl _ (hle _ _ _ _ _ hV) ?_
  intro z4001 k
  simp only [Act.put, pu]
  replace hV := hV.below k.nil
  replace sb := sb.trans (k.below w.heap.size sb.size (by simp <;> omega))
  clear k
  refine pw_mv (by rfl) rfl rfl ?_
  simp only [Act.put, pu]
  refine pw_callB (by rfl) 15 _ _ rfl Try.func15 (by kernel_rfl) #[.slice av n cv] rfl _ (hrl _ _ _ _ _ hV) ?_
  intro z4003 k
  simp only [Act.put, pu]
  replace hV := hV.below k.nil
  replace sb := sb.trans (k.below w.heap.size sb.size (by simp <;> omega))
  clear k
  refine pw_value (by rfl) (.bool true) (exec_eql_k .i64 _ _ _ _ rfl (lz) (lz) rfl rfl true (decide_eq_true rfl)) ?_
  simp only [Act.put, pu]
  refine pw_mv (by rfl) rfl rfl ?_
  simp only [Act.put, pu]
  refine pw_mv (by rfl) rfl rfl ?_
  simp only [Act.put, pu]
  refine pw_callE (by rfl) 17 _ _ rfl Try.func17 (by kernel_rfl) #[.slice av n cv] rfl (hor _ _ _ _ _ hV) ?_
  rintro _ z4007 ⟨gD, v, rfl, hO, rD, hb⟩
  refine ⟨_, rfl, ?_⟩
  simp only [Act.put, pu]
  have k := Kept.ofBelow hb
  clear hb
  replace hV := hV.below k.nil
  replace sb := sb.trans (k.below w.heap.size sb.size (by simp <;> omega))
  clear k
  refine pw_mv (by rfl) rfl rfl ?_
  simp only [Act.put, pu]
  refine pw_callE (by rfl) 18 _ _ rfl Try.func18 (by kernel_rfl) #[.slice av n cv] rfl (hro _ _ _ _ _ hV) ?_
  rintro _ z4009 ⟨v2, u, rfl, hL, hO2, hb⟩
  refine ⟨_, rfl, ?_⟩
  simp only [Act.put, pu]
  have k := Kept.ofBelow hb
  clear hb
  replace hV := hV.below k.nil
  replace rD := k.row rD (by simp <;> omega)
  replace sb := sb.trans (k.below w.heap.size sb.size (by simp <;> omega))
  clear k
  obtain ⟨a2, c2, rfl⟩ := own_shape hL
  refine pw_callB (by rfl) 16 _ _ rfl Try.func16 (by kernel_rfl) #[.slice (some ⟨gD, 0, none⟩) n n, .slice a2 n c2] rfl _ (hnm _ _ _ _ _ _ _ hO hO2 rD hL) ?_
  intro z4010 k
  simp only [Act.put, pu]
  replace hV := hV.below k.nil
  replace rD := k.row rD (by simp <;> omega)
  replace sb := sb.trans (k.below w.heap.size sb.size (by simp <;> omega))
  clear k
  refine pw_pick (by rfl) true (v := .bool true) rfl rfl rfl ?_
  simp only [Act.put, pu]
  refine pw_mv (by rfl) rfl rfl ?_
  simp only [Act.put, pu]
  refine pw_callB (by rfl) 12 _ _ rfl Try.func12 (by kernel_rfl) #[] rfl _ (awake_any _) ?_
  intro z4013 k
  simp only [Act.put, pu]
  replace hV := hV.below k.nil
  replace rD := k.row rD (by simp <;> omega)
  replace sb := sb.trans (k.below w.heap.size sb.size (by simp <;> omega))
  clear k
  refine pw_pick (by rfl) true (v := .bool true) rfl rfl rfl ?_
  simp only [Act.put, pu]
  refine pw_as (by rfl) rfl rfl ?_
  simp only [Act.put, pu]
  refine pw_nil ?_
  go_wp2
  go_ret
  exact ⟨rfl, sb⟩
set_option maxRecDepth 100000 in
theorem lifted (os : Os) (started : os.Started) (H : Type) (enc : TypeId × Value → H) :
  ReturnsInHanded {} Try.checked os 4 .any (Rows.weighOrdersSpec.pre6 enc Try.prog Try.f4 Rows.weighOrdersRow.domain false) (Rows.weighOrdersSpec.post enc Try.prog Try.f4 false true false false) := by
 refine returnsInHanded_of_change (C := Try.checked) own started (by kernel_rfl) Try.func4
  (ChangeSpec.witness6 (enc := enc) (C := Try.checked) false ⟨#[], #[.slice none 0 0], []⟩ 8 (by kernel_rfl) (by kernel_rfl) (by kernel_rfl) (by kernel_rfl)) ?_
 intro W base args ds gs before hval0 hW hcnd _
 have hval : ∀ (j : Nat) t v, Try.f4.params[j]? = some t → args[j]? = some v → Value.okWide Try.prog W .any base t v := hval0
 have hW' := hW
 obtain ⟨p, q, hA0, hV, rfl, hfz, hnd⟩ := hW
 have hA : DataW.TrodAll enc Try.prog W 0 (fun _ => true) true Try.f4.params.toList args.toList ds p := hA0
 rw [Try.params4] at hA hval
 obtain ⟨v0, vs0, d0, ds0, p0, q0, hargs, rfl, rfl, h0, r0⟩ := trodAll_cons hA
 obtain ⟨rfl, rfl, rfl⟩ := trodAll_nil r0
 obtain rfl : args = #[v0] := by cases args; simp_all
 obtain ⟨rfl, rfl⟩ := trodVars_none hV
 have k0 := h0
 have lt0 := lt_of_trod h0
 obtain ⟨ab0, n0, c0, B0, gb0, ob0, bcs0, tb0, rfl, hn0, hb0⟩ := open_u6s (hval 0 29 v0 rfl rfl) h0
 clear hA0 hval0
 refine (walk ab0 n0 c0 B0 gb0 ob0 bcs0 tb0 W hn0 hb0).mono fun e W' ⟨he, bel⟩ => ?_
 subst he
 exact ⟨_, rfl, _, _, _, [], _, [], hW', trodAll_mk1 (shut_bool Try.underlying4 _), (trodAll_cons_mk (Below.trod laidOut (by kernel_rfl) (of_decide_eq_true (by kernel_rfl)) k0 bel lt0) trodAll_mk0), rfl, bel.frame _, fun h => by cases h⟩
theorem over : Rows.weighOrdersRow.holds Try.pinned (OpenSpec.ofChange Rows.weighOrdersSpec) :=
 OpenClaim.holds_of_wide 4 Try.f4 rfl rfl rfl rfl rfl rfl rfl ⟨rfl, rfl, rfl, rfl, rfl⟩ rfl rfl rfl rfl rfl (by kernel_rfl) Try.func4 (by kernel_rfl)
  (of_decide_eq_true (by kernel_rfl)) (by unfold Func.isWrapper; first | (rw [if_pos (by decide +kernel)]; kernel_rfl) | (rw [if_neg (by decide +kernel)]; exact ⟨rfl, rfl⟩))
  (fun os started H enc _ => lifted os started H enc)
end weighOrdersP
/-- for the floats of any bits, up to forty: Least and Order answer as the document says; no condition. -/
theorem weighOrders_holds : Rows.WeighOrdersSaid := weighOrdersP.over
end Go.Proofs.Ytonppckllfamiaa
