/- What must come, whatever the arguments are: the check of the laws of layer 7. -/
import Derived.Test.YtbmkebdfaokmhaaGKnow
import Derived.Test.YtbmkebdfaokmhaaGGiv
namespace Go.Proofs.Ytbmkebdfaokmhaa
open Go.RowKit
theorem links_none (w : World) : LinksAt w none 0 (fun _ => 0) (fun _ => 0) 0 0 #[] 0 := ⟨.inl rfl, fun i hi => absurd hi (Nat.not_lt_zero i)⟩
theorem gr_none (G : Nat) : grN 0 (fun _ => 0) (fun _ => 0) G = false := rfl
theorem le_size : sizeZ 1966023127 = 3 := by decide +kernel
theorem le_p : lN leL (3 - 1) = 1055500680322183127 := rfl
theorem le_q : lN leL (3 - 2) = 1966023127 := rfl
theorem eqn_yes (X : Nat) : decide (X % 2 ^ 256 = X % 2 ^ 256) = true := decide_eq_true rfl
set_option maxRecDepth 100000 in
set_option maxHeartbeats 2000000 in
theorem awake7_any (w : World) :
  Calls Try.prog 26 #[] w fun e w' => e = .returned (.bool true) ∧ Below w.heap.size w w' := by
 have hnw := fun w' g (r : Row w' g (lksC 3 (lN leL) twoA) 58) => gnew_yes 3 3 (some ⟨g, 0, none⟩) leG _ _ g 0 _ _ w' (by decide) (by decide) (lks_links r le_lt) least_is
 rw [le_p, le_q] at hnw
 have hsz := fun w' g gr gf (h : GrpAt w' g gr gf 1055500680322183127 1966023127 leG) => grpSize_any _ _ _ _ _ _ w' (by decide) h.kn
 rw [le_size] at hsz
 have hq := fun w' g gr gf (h : GrpAt w' g gr gf 1055500680322183127 1966023127 leG) => grpQ_any _ _ _ _ _ _ w' h.kn
 have hp := fun w' g gr gf (h : GrpAt w' g gr gf 1055500680322183127 1966023127 leG) => grpP_any _ _ _ _ _ _ w' h.kn
 have hi1 := fun w' => rint_any 1966023127 w' (by decide)
 rw [show (1966023127 : Int).toNat = 1966023127 from rfl] at hi1
 have hi2 := fun w' => rint_any 1055500680322183127 w' (by decide)
 rw [show (1055500680322183127 : Int).toNat = 1055500680322183127 from rfl] at hi2
 have hck := fun w' => gcheck_no 0 0 none 0 _ _ 0 0 _ _ w' (by decide) (by decide) (links_none w') (gr_none 0)
 go_enter Try.func26, Try.ntmps26
 have sb := Below.refl w.heap.size w
 (repeat ((fail_if_success with_reducible refine rg ?_); go_step))
 refine wp_region_pw ?_
 refine pw_value (by rfl) (.bool false) (fun _ => rfl) ?_
 simp only [Act.put, List.setIfInBounds_toArray, List.set_cons_zero]
 refine pw_nil ?_
 (repeat ((fail_if_success with_reducible refine rg ?_); go_step))
 refine wp_region_pw ?_
 refine pw_callE (by rfl) 7 _ _ rfl Try.func7 (by kernel_rfl) #[] rfl (gleast_any _) ?_
 rintro _ z1000 ⟨gL, rfl, nL, rL, hb⟩
 refine ⟨_, rfl, ?_⟩
 simp only [Act.put, pu]
 have bL := Nat.le_trans sb.size nL
 clear nL
 have k := Kept.ofBelow hb
 clear hb
 replace sb := sb.trans (k.below w.heap.size sb.size (by simp <;> omega))
 clear k
 refine pw_callE (by rfl) 13 _ _ rfl Try.func13 (by kernel_rfl) #[.agg (paC (some ⟨gL, 0, none⟩) 3 3 leG)] rfl (hnw _ gL rL) ?_
 rintro _ z1001 ⟨g, gr, gf, rfl, hg, hb⟩
 refine ⟨_, rfl, ?_⟩
 simp only [Act.put, pu]
 have k := Kept.ofBelow hb
 clear hb
 replace rL := k.row rL (by simp <;> omega)
 replace sb := sb.trans (k.below w.heap.size sb.size (by simp <;> omega))
 clear k
 refine pw_mv (by rfl) rfl rfl ?_
 simp only [Act.put, pu]
 refine pw_ext (by rfl) rfl rfl rfl ?_
 simp only [Act.put, pu]
 refine pw_ext (by rfl) rfl rfl rfl ?_
 simp only [Act.put, pu]
 refine pw_as (by rfl) rfl rfl ?_
 simp only [Act.put, pu]
 refine pw_as (by rfl) rfl rfl ?_
 simp only [Act.put, pu]
 refine pw_nil ?_
 clear hnw rL
 (repeat ((fail_if_success with_reducible refine rg ?_); go_step))
 refine wp_region_pw ?_
 refine pw_mv (by rfl) rfl rfl ?_
 simp only [Act.put, pu]
 refine pw_value (by rfl) (.bool true) (exec_eql_k .i64 _ _ _ _ rfl 0 0 rfl rfl true rfl) ?_
 simp only [Act.put, pu]
 refine pw_mv (by rfl) rfl rfl ?_
 simp only [Act.put, pu]
 refine pw_mv (by rfl) rfl rfl ?_
 simp only [Act.put, pu]
 refine pw_value (by rfl) (.bool true) (exec_neq_nilp _ _ _ _ rfl (some ⟨g, 0, none⟩) rfl rfl ptr_grp) ?_
 simp only [Act.put, pu]
 refine pw_pick (by rfl) true (v := .bool true) rfl rfl rfl ?_
 simp only [Act.put, pu]
 refine pw_mv (by rfl) rfl rfl ?_
 simp only [Act.put, pu]
 refine pw_mv (by rfl) rfl rfl ?_
 simp only [Act.put, pu]
 refine pw_callB (by rfl) 21 _ _ rfl Try.func21 (by kernel_rfl) #[.pointer (some ⟨g, 0, none⟩)] rfl _ (hsz _ g gr gf hg) ?_
 intro z2008 k
 simp only [Act.put, pu]
 replace hg := hg.below k.nil
 replace sb := sb.trans (k.below w.heap.size sb.size (by simp <;> omega))
 clear k
 refine pw_value (by rfl) (.bool true) (exec_eql_k .i64 _ _ _ _ rfl 3 3 rfl rfl true rfl) ?_
 simp only [Act.put, pu]
 refine pw_pick (by rfl) true (v := .bool true) rfl rfl rfl ?_
 simp only [Act.put, pu]
 refine pw_mv (by rfl) rfl rfl ?_
 simp only [Act.put, pu]
 refine pw_mv (by rfl) rfl rfl ?_
 simp only [Act.put, pu]
 refine pw_callB (by rfl) 18 _ _ rfl Try.func18 (by kernel_rfl) #[.pointer (some ⟨g, 0, none⟩)] rfl _ (hq _ g gr gf hg) ?_
 intro z2013 k
 simp only [Act.put, pu]
 replace hg := hg.below k.nil
 replace sb := sb.trans (k.below w.heap.size sb.size (by simp <;> omega))
 clear k
 refine pw_callB (by rfl) 31 _ _ rfl Try.func31 (by kernel_rfl) #[.int .i64 1966023127] rfl _ (hi1 _) ?_
 intro z2014 k
 simp only [Act.put, pu]
 replace hg := hg.below k.nil
 replace sb := sb.trans (k.below w.heap.size sb.size (by simp <;> omega))
 clear k
 refine pw_value (by rfl) (.bool true) (fun w' => (exec_eql_nat _ _ _ rfl 1966023127 1966023127 rfl rfl w').trans (by rw [eqn_yes])) ?_
 simp only [Act.put, pu]
 refine pw_pick (by rfl) true (v := .bool true) rfl rfl rfl ?_
 simp only [Act.put, pu]
 refine pw_mv (by rfl) rfl rfl ?_
 simp only [Act.put, pu]
 refine pw_mv (by rfl) rfl rfl ?_
 simp only [Act.put, pu]
 refine pw_callB (by rfl) 16 _ _ rfl Try.func16 (by kernel_rfl) #[.pointer (some ⟨g, 0, none⟩)] rfl _ (hp _ g gr gf hg) ?_
 intro z2019 k
 simp only [Act.put, pu]
 replace hg := hg.below k.nil
 replace sb := sb.trans (k.below w.heap.size sb.size (by simp <;> omega))
 clear k
 refine pw_callB (by rfl) 31 _ _ rfl Try.func31 (by kernel_rfl) #[.int .i64 1055500680322183127] rfl _ (hi2 _) ?_
 intro z2020 k
 simp only [Act.put, pu]
 replace hg := hg.below k.nil
 replace sb := sb.trans (k.below w.heap.size sb.size (by simp <;> omega))
 clear k
 refine pw_value (by rfl) (.bool true) (fun w' => (exec_eql_nat _ _ _ rfl 1055500680322183127 1055500680322183127 rfl rfl w').trans (by rw [eqn_yes])) ?_
 simp only [Act.put, pu]
 refine pw_pick (by rfl) true (v := .bool true) rfl rfl rfl ?_
 simp only [Act.put, pu]
 refine pw_mv (by rfl) rfl rfl ?_
 simp only [Act.put, pu]
 refine pw_value (by rfl) (.agg (paC none 0 0 0)) (exec_build0 _ rfl _ built_pa0) ?_
 simp only [Act.put, pu]
 refine pw_callB (by rfl) 15 _ _ rfl Try.func15 (by kernel_rfl) #[.agg (paC none 0 0 0)] rfl _ (hck _) ?_
 intro z2025 k
 simp only [Act.put, pu]
 replace hg := hg.below k.nil
 replace sb := sb.trans (k.below w.heap.size sb.size (by simp <;> omega))
 clear k
 refine pw_value (by rfl) (.bool true) (exec_eql_k .i64 _ _ _ _ rfl 4 4 rfl rfl true rfl) ?_
 simp only [Act.put, pu]
 refine pw_pick (by rfl) true (v := .bool true) rfl rfl rfl ?_
 simp only [Act.put, pu]
 refine pw_as (by rfl) rfl rfl ?_
 simp only [Act.put, List.setIfInBounds_toArray, List.set_cons_zero]
 refine pw_nil ?_
 go_wp2
 go_ret
 exact ⟨rfl, sb⟩
end Go.Proofs.Ytbmkebdfaokmhaa
