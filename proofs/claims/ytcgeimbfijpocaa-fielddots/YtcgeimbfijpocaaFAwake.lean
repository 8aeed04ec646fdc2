/- What must come, whatever the arguments are: the check of the laws of layer 8. -/
import Derived.Test.YtcgeimbfijpocaaFFun
import Derived.Test.YtcgeimbfijpocaaFRef
namespace Go.Proofs.Ytcgeimbfijpocaa
open Go.RowKit
set_option maxRecDepth 100000 in
set_option maxHeartbeats 2000000 in
theorem of8_any (n : Nat) (w : World) (h : (n : Int) < 9223372036854775808) :
  Calls Try.prog 15 #[.int .i64 n] w fun e w' => e = .returned (.agg (natC n)) ∧ Below w.heap.size w w' := by
 have hin := fun w' => rint_any (n : Int) w' h
 rw [Int.toNat_natCast] at hin
 clear h
 go_enter Try.func15, Try.ntmps15
 (repeat ((fail_if_success with_reducible refine rg ?_); go_step))
 refine wp_region_pw ?_
 refine pw_new (by rfl) 24 rfl _ zero_nat ?_
 intro g2 z0 n0 r2 k
 simp only [Act.put, pu]
 have b2 : w.heap.size ≤ g2 := n0
 clear n0
 have sb := k.below w.heap.size (Nat.le_refl _) (by simp)
 clear k
 refine pw_nil ?_
 (repeat ((fail_if_success with_reducible refine rg ?_); go_step))
 refine wp_region_pw ?_
 refine pw_mv (by rfl) rfl rfl ?_
 simp only [Act.put, pu]
 refine pw_callB (by rfl) 37 _ _ rfl Try.func37 (by kernel_rfl) #[.int .i64 n] rfl _ (hin _) ?_
 intro z1001 k
 simp only [Act.put, pu]
 replace r2 := k.row r2 (by simp <;> omega)
 replace sb := sb.trans (k.below w.heap.size sb.size (by simp <;> omega))
 clear k
 refine pw_put (by rfl) 24 _ _ rfl _ rfl r2 (natC n) rfl (by exact size_nat) (by simp only [natC_size]) (natC_one _) ?_
 clear r2
 intro z1002 r2 k
 simp only [Act.put]
 replace sb := sb.trans (k.below w.heap.size sb.size (by simp <;> omega))
 clear k
 refine pw_nil ?_
 go_wp2
 exact ret_row rfl _ rfl r2 4 _ Try.underlying24 (by exact size_nat) rfl ⟨rfl, sb⟩
theorem le_fd : FdQ 1966023127 := ⟨⟨by decide, by decide, by decide⟩, (grN_primes least_is).2⟩
theorem le_dot : dotN (two2 2 3) (two2 5 7) 1966023127 2 = 31 := by decide +kernel
theorem le_sb : sbN 1 2 1966023127 = 1966023126 := by decide +kernel
theorem le_inv : invZ 9 1966023127 * 9 % 1966023127 = 1 := (inv_is 9 1966023127 (by decide) (by decide +kernel)).2
set_option maxRecDepth 100000 in
set_option maxHeartbeats 2000000 in
theorem awake8_any (w : World) :
  Calls Try.prog 23 #[] w fun e w' => e = .returned (.bool true) ∧ Below w.heap.size w w' := by
 obtain ⟨ie, hie, hz, hsz, _⟩ := info_nat'
 have hs1 : ¬ 2 * ie.size > 2 ^ 24 := by rw [hsz]; decide
 have hs2 : ¬ 2 * ie.size = 0 := by rw [hsz]; decide
 have hlA := lit_two 2 3 ie.size hsz
 have hlB := lit_two 5 7 ie.size hsz
 have hnw := fun w' g (r : Row w' g (lksC 3 (lN leL) twoA) 69) => gnew_yes 3 3 (some ⟨g, 0, none⟩) leG _ _ g 0 _ _ w' (by decide) (by decide) (lks_links r le_lt) least_is
 rw [le_p, le_q] at hnw
 have hdo := fun w' g gr gf (h : GrpAt w' g gr gf 1055500680322183127 1966023127 leG) gU gV (rU : Row w' gU (natC 2 ++ natC 3) 24) (rV : Row w' gV (natC 5 ++ natC 7) 24) => fDot_ok g gr gf _ _ _ 2 2 2 (some ⟨gU, 0, none⟩) (some ⟨gV, 0, none⟩) _ _ gU 0 gV 0 _ _ _ _ w' le_fd (by decide) (nats_two rU (by decide) (by decide)) (nats_two rV (by decide) (by decide)) h
 rw [le_dot] at hdo
 have had := fun w' g gr gf (h : GrpAt w' g gr gf 1055500680322183127 1966023127 leG) => fAdd_ok 1966023126 3 g gr gf _ _ _ w' (by decide) (by decide) le_fd h
 rw [show (1966023126 + 3) % 1966023127 = 2 from rfl] at had
 have hsb := fun w' g gr gf (h : GrpAt w' g gr gf 1055500680322183127 1966023127 leG) => fSub_ok 1 2 g gr gf _ _ _ w' (by decide) (by decide) le_fd h
 rw [le_sb] at hsb
 have hiv := fun w' g gr gf (h : GrpAt w' g gr gf 1055500680322183127 1966023127 leG) => fInv_ok 9 g gr gf _ _ _ w' (by decide) le_fd h
 have hmu := fun w' g gr gf (h : GrpAt w' g gr gf 1055500680322183127 1966023127 leG) => fMul_ok (invZ 9 1966023127) 9 g gr gf _ _ _ w' (Nat.lt_trans (inv_lt 9 _ le_fd.pr) le_fd.m) (by decide) le_fd h
 rw [le_inv] at hmu
 generalize invZ 9 1966023127 = IV at *
 have hin := fun w' g gr gf (h : GrpAt w' g gr gf 1055500680322183127 1966023127 leG) => fIn_ok 5 g gr gf _ _ _ w' (by decide) le_fd h
 rw [show decide (5 < 1966023127) = true from rfl] at hin
 have o1 := fun w' => of8_any 1 w' (by decide)
 have o2 := fun w' => of8_any 2 w' (by decide)
 have o3 := fun w' => of8_any 3 w' (by decide)
 have o5 := fun w' => of8_any 5 w' (by decide)
 have o7 := fun w' => of8_any 7 w' (by decide)
 have o9 := fun w' => of8_any 9 w' (by decide)
 have o31 := fun w' => of8_any 31 w' (by decide)
 have oM := fun w' => of8_any 1966023126 w' (by decide)
 go_enter Try.func23, Try.ntmps23
 have sb := Below.refl w.heap.size w
 (repeat ((fail_if_success with_reducible refine rg ?_); go_step))
 refine wp_region_pw ?_
 refine pw_value (by rfl) (.bool false) (fun _ => rfl) ?_
 simp only [Act.put, List.setIfInBounds_toArray, List.set_cons_zero]
 refine pw_nil ?_
 (repeat ((fail_if_success with_reducible refine rg ?_); go_step))
 refine wp_region_pw ?_
 refine pw_callE (by rfl) 25 _ _ rfl Try.func25 (by kernel_rfl) #[] rfl (rleast_any _) ?_
 rintro _ z1000 ⟨gL, rfl, nL, rL, hb⟩
 refine ⟨_, rfl, ?_⟩
 simp only [Act.put, pu]
 have bL := Nat.le_trans sb.size nL
 clear nL
 have k := Kept.ofBelow hb
 clear hb
 replace sb := sb.trans (k.below w.heap.size sb.size (by simp <;> omega))
 clear k
 refine pw_callE (by rfl) 8 _ _ rfl Try.func8 (by kernel_rfl) #[.agg (paC (some ⟨gL, 0, none⟩) 3 3 leG)] rfl (hnw _ gL rL) ?_
 rintro _ z1001 ⟨g, gr, gf, rfl, ⟨rG, rR, rF⟩, hb⟩
 refine ⟨_, rfl, ?_⟩
 simp only [Act.put, pu]
 have k := Kept.ofBelow hb
 clear hb
 replace rL := k.row rL (by simp <;> omega)
 replace sb := sb.trans (k.below w.heap.size sb.size (by simp <;> omega))
 clear k
 refine pw_mv (by rfl) rfl rfl ?_
 simp only [Act.put, pu]
 refine pw_ext (by rfl) rfl rfl rfl ?_
 simp only [Act.put, pu]
 refine pw_ext (by rfl) rfl rfl rfl ?_
 simp only [Act.put, pu]
 refine pw_as (by rfl) rfl rfl ?_
 simp only [Act.put, pu]
 refine pw_as (by rfl) rfl rfl ?_
 simp only [Act.put, pu]
 refine pw_nil ?_
 clear hnw rL
 (repeat ((fail_if_success with_reducible refine rg ?_); go_step))
 refine wp_region_pw ?_
 refine pw_mv (by rfl) rfl rfl ?_
 simp only [Act.put, pu]
 refine pw_callB (by rfl) 15 _ _ rfl Try.func15 (by kernel_rfl) #[.int .i64 2] rfl _ (o2 _) ?_
 intro z2001 k
 simp only [Act.put, pu]
 replace rG := k.row rG (by simp <;> omega)
 replace rR := k.row rR (by simp <;> omega)
 replace rF := k.row rF (by simp <;> omega)
 replace sb := sb.trans (k.below w.heap.size sb.size (by simp <;> omega))
 clear k
 refine pw_callB (by rfl) 15 _ _ rfl Try.func15 (by kernel_rfl) #[.int .i64 3] rfl _ (o3 _) ?_
 intro z2002 k
 simp only [Act.put, pu]
 replace rG := k.row rG (by simp <;> omega)
 replace rR := k.row rR (by simp <;> omega)
 replace rF := k.row rF (by simp <;> omega)
 replace sb := sb.trans (k.below w.heap.size sb.size (by simp <;> omega))
 clear k
 refine pw_litr (by rfl) 46 24 2 _ rfl (natC 2 ++ natC 3) ie _ Try.underlying46 hie hz hs1 hs2 [(0, .agg (natC 2)), (1, .agg (natC 3))] rfl hlA ?_
 intro gU z2003 n0 rU k
 simp only [Act.put, pu]
 have dGxU := Nat.lt_of_lt_of_le rG.lt n0
 have dRxU := Nat.lt_of_lt_of_le rR.lt n0
 have dFxU := Nat.lt_of_lt_of_le rF.lt n0
 have bU := Nat.le_trans sb.size n0
 clear n0
 replace rG := k.row rG (by simp <;> omega)
 replace rR := k.row rR (by simp <;> omega)
 replace rF := k.row rF (by simp <;> omega)
 replace sb := sb.trans (k.below w.heap.size sb.size (by simp <;> omega))
 clear k
 refine pw_callB (by rfl) 15 _ _ rfl Try.func15 (by kernel_rfl) #[.int .i64 5] rfl _ (o5 _) ?_
 intro z2004 k
 simp only [Act.put, pu]
 replace rG := k.row rG (by simp <;> omega)
 replace rR := k.row rR (by simp <;> omega)
 replace rF := k.row rF (by simp <;> omega)
 replace rU := k.row rU (by simp <;> omega)
 replace sb := sb.trans (k.below w.heap.size sb.size (by simp <;> omega))
 clear k
 refine pw_callB (by rfl) 15 _ _ rfl Try.func15 (by kernel_rfl) #[.int .i64 7] rfl _ (o7 _) ?_
 intro z2005 k
 simp only [Act.put, pu]
 replace rG := k.row rG (by simp <;> omega)
 replace rR := k.row rR (by simp <;> omega)
 replace rF := k.row rF (by simp <;> omega)
 replace rU := k.row rU (by simp <;> omega)
 replace sb := sb.trans (k.below w.heap.size sb.size (by simp <;> omega))
 clear k
 refine pw_litr (by rfl) 46 24 2 _ rfl (natC 5 ++ natC 7) ie _ Try.underlying46 hie hz hs1 hs2 [(0, .agg (natC 5)), (1, .agg (natC 7))] rfl hlB ?_
 intro gV z2006 n0 rV k
 simp only [Act.put, pu]
 have dGxV := Nat.lt_of_lt_of_le rG.lt n0
 have dRxV := Nat.lt_of_lt_of_le rR.lt n0
 have dFxV := Nat.lt_of_lt_of_le rF.lt n0
 have dUxV := Nat.lt_of_lt_of_le rU.lt n0
 have bV := Nat.le_trans sb.size n0
 clear n0
 replace rG := k.row rG (by simp <;> omega)
 replace rR := k.row rR (by simp <;> omega)
 replace rF := k.row rF (by simp <;> omega)
 replace rU := k.row rU (by simp <;> omega)
 replace sb := sb.trans (k.below w.heap.size sb.size (by simp <;> omega))
 clear k
 refine pw_callB (by rfl) 24 _ _ rfl Try.func24 (by kernel_rfl) #[.pointer (some ⟨g, 0, none⟩), .slice (some ⟨gU, 0, none⟩) 2 2, .slice (some ⟨gV, 0, none⟩) 2 2] rfl _ (hdo _ g gr gf ⟨rG, rR, rF⟩ gU gV rU rV) ?_
 intro z2007 k
 simp only [Act.put, pu]
 replace rG := k.row rG (by simp <;> omega)
 replace rR := k.row rR (by simp <;> omega)
 replace rF := k.row rF (by simp <;> omega)
 replace rU := k.row rU (by simp <;> omega)
 replace rV := k.row rV (by simp <;> omega)
 replace sb := sb.trans (k.below w.heap.size sb.size (by simp <;> omega))
 clear k
 refine pw_mv (by rfl) rfl rfl ?_
 simp only [Act.put, pu]
 refine pw_ext (by rfl) rfl rfl rfl ?_
 simp only [Act.put, pu]
 refine pw_ext (by rfl) rfl rfl rfl ?_
 simp only [Act.put, pu]
 refine pw_new (by rfl) 24 rfl _ zero_nat ?_
 intro g3 z2011 n0 r3 k
 simp only [Act.put, pu]
 have dGx3 := Nat.lt_of_lt_of_le rG.lt n0
 have dRx3 := Nat.lt_of_lt_of_le rR.lt n0
 have dFx3 := Nat.lt_of_lt_of_le rF.lt n0
 have dUx3 := Nat.lt_of_lt_of_le rU.lt n0
 have dVx3 := Nat.lt_of_lt_of_le rV.lt n0
 have b3 := Nat.le_trans sb.size n0
 clear n0
 replace rG := k.row rG (by simp <;> omega)
 replace rR := k.row rR (by simp <;> omega)
 replace rF := k.row rF (by simp <;> omega)
 replace rU := k.row rU (by simp <;> omega)
 replace rV := k.row rV (by simp <;> omega)
 replace sb := sb.trans (k.below w.heap.size sb.size (by simp <;> omega))
 clear k
 refine pw_put (by rfl) 24 _ _ rfl _ rfl r3 (natC 31) rfl (by exact size_nat) (by simp only [natC_size]) (natC_one _) ?_
 clear r3
 intro z2012 r3 k
 simp only [Act.put]
 replace rG := k.row rG (by simp <;> omega)
 replace rR := k.row rR (by simp <;> omega)
 replace rF := k.row rF (by simp <;> omega)
 replace rU := k.row rU (by simp <;> omega)
 replace rV := k.row rV (by simp <;> omega)
 replace sb := sb.trans (k.below w.heap.size sb.size (by simp <;> omega))
 clear k
 refine pw_as (by rfl) rfl rfl ?_
 simp only [Act.put, pu]
 refine pw_nil ?_
 have hg : GrpAt _ g gr gf 1055500680322183127 1966023127 leG := ⟨rG, rR, rF⟩
 clear hlA hlB hdo rG rR rF rU rV hie hz hs1 hs2 hsz o7
 (repeat ((fail_if_success with_reducible refine rg ?_); go_step))
 refine wp_region_qw (by kernel_rfl) (by kernel_rfl) ?_
 refine qw_move (by rfl) rfl rfl ?_
 simp only [Act.put, pu]
 refine qw_value (by rfl) (.bool true) (exec_eql_k .i64 _ _ _ _ rfl 0 0 rfl rfl true rfl) ?_
 simp only [Act.put, pu]
 refine qw_move (by rfl) rfl rfl ?_
 simp only [Act.put, pu]
 refine qw_load (by rfl) 24 _ rfl _ rfl r3 4 _ Try.underlying24 size_nat ?_
 simp only [Act.put, pu]
 refine qw_call (by rfl) 15 _ _ rfl Try.func15 (by kernel_rfl) #[.int .i64 31] rfl _ o31 ?_
 simp only [Act.put, pu]
 refine qw_value (by rfl) (.bool true) (fun w' => (exec_eql_nat _ _ _ rfl 31 31 rfl rfl w').trans (by rw [eqn_yes])) ?_
 simp only [Act.put, pu]
 refine qw_pick true (v := .bool true) (by rfl) rfl rfl rfl ?_
 simp only [Act.put, pu]
 refine qw_move (by rfl) rfl rfl ?_
 simp only [Act.put, pu]
 refine qw_move (by rfl) rfl rfl ?_
 simp only [Act.put, pu]
 refine qw_value (by rfl) (.bool true) (exec_eql_k .i64 _ _ _ _ rfl 0 0 rfl rfl true rfl) ?_
 simp only [Act.put, pu]
 refine qw_pick true (v := .bool true) (by rfl) rfl rfl rfl ?_
 simp only [Act.put, pu]
 refine qw_move (by rfl) rfl rfl ?_
 simp only [Act.put, pu]
 refine qw_move (by rfl) rfl rfl ?_
 simp only [Act.put, pu]
 refine qw_call (by rfl) 15 _ _ rfl Try.func15 (by kernel_rfl) #[.int .i64 1966023126] rfl _ oM ?_
 simp only [Act.put, pu]
 refine qw_call (by rfl) 15 _ _ rfl Try.func15 (by kernel_rfl) #[.int .i64 3] rfl _ o3 ?_
 simp only [Act.put, pu]
 refine qw_callK (by rfl) 14 _ _ rfl Try.func14 (by kernel_rfl) #[.pointer (some ⟨g, 0, none⟩), .agg (natC 1966023126), .agg (natC 3)] rfl _ (fun w' hb => had w' g gr gf (hg.below hb)) ?_
 simp only [Act.put, pu]
 refine qw_call (by rfl) 15 _ _ rfl Try.func15 (by kernel_rfl) #[.int .i64 2] rfl _ o2 ?_
 simp only [Act.put, pu]
 refine qw_value (by rfl) (.bool true) (fun w' => (exec_eql_nat _ _ _ rfl 2 2 rfl rfl w').trans (by rw [eqn_yes])) ?_
 simp only [Act.put, pu]
 refine qw_pick true (v := .bool true) (by rfl) rfl rfl rfl ?_
 simp only [Act.put, pu]
 refine qw_move (by rfl) rfl rfl ?_
 simp only [Act.put, pu]
 refine qw_move (by rfl) rfl rfl ?_
 simp only [Act.put, pu]
 refine qw_call (by rfl) 15 _ _ rfl Try.func15 (by kernel_rfl) #[.int .i64 1] rfl _ o1 ?_
 simp only [Act.put, pu]
 refine qw_call (by rfl) 15 _ _ rfl Try.func15 (by kernel_rfl) #[.int .i64 2] rfl _ o2 ?_
 simp only [Act.put, pu]
 refine qw_callK (by rfl) 17 _ _ rfl Try.func17 (by kernel_rfl) #[.pointer (some ⟨g, 0, none⟩), .agg (natC 1), .agg (natC 2)] rfl _ (fun w' hb => hsb w' g gr gf (hg.below hb)) ?_
 simp only [Act.put, pu]
 refine qw_call (by rfl) 15 _ _ rfl Try.func15 (by kernel_rfl) #[.int .i64 1966023126] rfl _ oM ?_
 simp only [Act.put, pu]
 refine qw_value (by rfl) (.bool true) (fun w' => (exec_eql_nat _ _ _ rfl 1966023126 1966023126 rfl rfl w').trans (by rw [eqn_yes])) ?_
 simp only [Act.put, pu]
 refine qw_pick true (v := .bool true) (by rfl) rfl rfl rfl ?_
 simp only [Act.put, pu]
 refine qw_move (by rfl) rfl rfl ?_
 simp only [Act.put, pu]
 refine qw_move (by rfl) rfl rfl ?_
 simp only [Act.put, pu]
 refine qw_move (by rfl) rfl rfl ?_
 simp only [Act.put, pu]
 refine qw_call (by rfl) 15 _ _ rfl Try.func15 (by kernel_rfl) #[.int .i64 9] rfl _ o9 ?_
 simp only [Act.put, pu]
 refine qw_callK (by rfl) 21 _ _ rfl Try.func21 (by kernel_rfl) #[.pointer (some ⟨g, 0, none⟩), .agg (natC 9)] rfl _ (fun w' hb => hiv w' g gr gf (hg.below hb)) ?_
 simp only [Act.put, pu]
 refine qw_call (by rfl) 15 _ _ rfl Try.func15 (by kernel_rfl) #[.int .i64 9] rfl _ o9 ?_
 simp only [Act.put, pu]
 refine qw_callK (by rfl) 19 _ _ rfl Try.func19 (by kernel_rfl) #[.pointer (some ⟨g, 0, none⟩), .agg (natC IV), .agg (natC 9)] rfl _ (fun w' hb => hmu w' g gr gf (hg.below hb)) ?_
 simp only [Act.put, pu]
 refine qw_call (by rfl) 15 _ _ rfl Try.func15 (by kernel_rfl) #[.int .i64 1] rfl _ o1 ?_
 simp only [Act.put, pu]
 refine qw_value (by rfl) (.bool true) (fun w' => (exec_eql_nat _ _ _ rfl 1 1 rfl rfl w').trans (by rw [eqn_yes])) ?_
 simp only [Act.put, pu]
 refine qw_pick true (v := .bool true) (by rfl) rfl rfl rfl ?_
 simp only [Act.put, pu]
 refine qw_move (by rfl) rfl rfl ?_
 simp only [Act.put, pu]
 refine qw_move (by rfl) rfl rfl ?_
 simp only [Act.put, pu]
 refine qw_call (by rfl) 15 _ _ rfl Try.func15 (by kernel_rfl) #[.int .i64 5] rfl _ o5 ?_
 simp only [Act.put, pu]
 refine qw_callK (by rfl) 12 _ _ rfl Try.func12 (by kernel_rfl) #[.pointer (some ⟨g, 0, none⟩), .agg (natC 5)] rfl _ (fun w' hb => hin w' g gr gf (hg.below hb)) ?_
 simp only [Act.put, pu]
 refine qw_pick true (v := .bool true) (by rfl) rfl rfl rfl ?_
 simp only [Act.put, pu]
 refine qw_asg (by rfl) rfl rfl ?_
 simp only [Act.put, List.setIfInBounds_toArray, List.set_cons_zero]
 refine qw_nil ?_
 intro w9 hqb
 replace sb := below_on sb (Nat.le_refl _) hqb
 clear hqb
 go_wp2
 go_ret
 exact ⟨rfl, sb⟩
end Go.Proofs.Ytcgeimbfijpocaa
