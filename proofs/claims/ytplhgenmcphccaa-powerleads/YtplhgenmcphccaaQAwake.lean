/- What must come, whatever the arguments are: the check of the laws of layer 9. -/
import Derived.Test.YtplhgenmcphccaaQRef
import Derived.Test.YtplhgenmcphccaaMixG
namespace Go.Proofs.Ytplhgenmcphccaa
open Go.RowKit
theorem paf_g (ab : Option Addr) (n c G : Nat) (w : World) : (Instr.field 27 (.agg (paC ab n c G)) 1).run Try.prog w = .ok (.agg (natC G)) w := by
 unfold paC natC
 generalize lm G 0 = a0
 generalize lm G 1 = a1
 generalize lm G 2 = a2
 generalize lm G 3 = a3
 kernel_rfl
theorem mem_no (P Q A : Nat) (hQ : Q < 2 ^ 256) (h : pwf P 256 A Q ≠ 1) : memN P Q A = false := by
 unfold memN
 rw [← pwf_eq P 256 A Q hQ, decide_eq_false h, Bool.and_false]
theorem mem_yes {P Q G : Nat} (h2 : 2 ≤ P) (h : G ^ Q % P = 1) (a : Nat) : memN P Q (G ^ a % P) = true := by
 unfold memN
 rw [decide_eq_true (Nat.mod_lt _ (by omega)), decide_eq_true (pow_order h2 h a)]
 rfl
def le5 : Nat := 499752131551553962
theorem le_rg : RgQ 1055500680322183127 := ⟨by decide, by decide, by decide⟩
theorem le_ord : leG ^ 1966023127 % 1055500680322183127 = 1 := by
 have h := ((grN_iff _ _ _ _).1 least_is).2.2.2.2.2.2
 rw [le_p, le_q] at h
 exact h
theorem le_5 : leG ^ 5 % 1055500680322183127 = le5 := by decide +kernel
theorem le_multi : prd (fun i => two2 leG leG i ^ two2 2 3 i) 2 % 1055500680322183127 = le5 := by decide +kernel
theorem le_in5 : memN 1055500680322183127 1966023127 le5 = true := le_5 ▸ mem_yes (by decide) le_ord 5
theorem le_in2 : memN 1055500680322183127 1966023127 2 = false := mem_no _ _ 2 (by decide) (by decide +kernel)
theorem le_in0 : memN 1055500680322183127 1966023127 0 = false := mem_no _ _ 0 (by decide) (by decide +kernel)
set_option maxRecDepth 100000 in
set_option maxHeartbeats 2000000 in
theorem awake9_any (w : World) :
  Calls Try.prog 22 #[] w fun e w' => e = .returned (.bool true) ∧ Below w.heap.size w w' := by
 obtain ⟨ie, hie, hz, hsz, _⟩ := info_nat'
 have hs1 : ¬ 2 * ie.size > 2 ^ 24 := by rw [hsz]; decide
 have hs2 : ¬ 2 * ie.size = 0 := by rw [hsz]; decide
 have hlA := lit_two leG leG ie.size hsz
 have hlB := lit_two 2 3 ie.size hsz
 have hnw := fun w' g (r : Row w' g (lksC 3 (lN leL) twoA) 74) => gnew_yes 3 3 (some ⟨g, 0, none⟩) leG _ _ g 0 _ _ w' (by decide) (by decide) (lks_links r le_lt) least_is
 rw [le_p, le_q] at hnw
 have hmu := fun w' g gr gf (h : GrpAt w' g gr gf 1055500680322183127 1966023127 leG) gU gV (rU : Row w' gU (natC leG ++ natC leG) 24) (rV : Row w' gV (natC 2 ++ natC 3) 24) => qMulti_ok g gr gf _ _ _ 2 2 2 (some ⟨gU, 0, none⟩) (some ⟨gV, 0, none⟩) _ _ gU 0 gV 0 _ _ _ _ w' (by decide) (nats_two rU (by decide) (by decide)) (nats_two rV (by decide) (by decide)) le_rg h
 rw [le_multi] at hmu
 have hof0 := fun w' g gr gf (h : GrpAt w' g gr gf 1055500680322183127 1966023127 leG) => qOf_ok 0 g gr gf _ _ _ w' (by decide) (by decide) le_rg h
 rw [show leG ^ 0 % 1055500680322183127 = 1 from rfl] at hof0
 have hof1 := fun w' g gr gf (h : GrpAt w' g gr gf 1055500680322183127 1966023127 leG) => qOf_ok 1 g gr gf _ _ _ w' (by decide) (by decide) le_rg h
 rw [show leG ^ 1 % 1055500680322183127 = leG by decide +kernel] at hof1
 have hof5 := fun w' g gr gf (h : GrpAt w' g gr gf 1055500680322183127 1966023127 leG) => qOf_ok 5 g gr gf _ _ _ w' (by decide) (by decide) le_rg h
 rw [le_5] at hof5
 have hin5 := fun w' g gr gf (h : GrpAt w' g gr gf 1055500680322183127 1966023127 leG) => qIn_ok le5 g gr gf _ _ _ w' (by decide) (by decide) le_rg h
 rw [le_in5] at hin5
 have hin2 := fun w' g gr gf (h : GrpAt w' g gr gf 1055500680322183127 1966023127 leG) => qIn_ok 2 g gr gf _ _ _ w' (by decide) (by decide) le_rg h
 rw [le_in2] at hin2
 have hin0 := fun w' g gr gf (h : GrpAt w' g gr gf 1055500680322183127 1966023127 leG) => qIn_ok 0 g gr gf _ _ _ w' (by decide) (by decide) le_rg h
 rw [le_in0] at hin0
 have o1 := fun w' => of9_any 1 w' (by decide)
 have o2 := fun w' => of9_any 2 w' (by decide)
 have o3 := fun w' => of9_any 3 w' (by decide)
 have o5 := fun w' => of9_any 5 w' (by decide)
 go_enter Try.func22, Try.ntmps22
 have sb := Below.refl w.heap.size w
 (repeat ((fail_if_success with_reducible refine rg ?_); go_step))
 refine wp_region_pw ?_
 refine pw_value (by rfl) (.bool false) (fun _ => rfl) ?_
 simp only [Act.put, List.setIfInBounds_toArray, List.set_cons_zero]
 refine pw_nil ?_
 (repeat ((fail_if_success with_reducible refine rg ?_); go_step))
 refine wp_region_pw ?_
 refine pw_callE (by rfl) 25 _ _ rfl Try.func25 (by kernel_rfl) #[] rfl (rleast_any _) ?_
 rintro _ z1000 ⟨gL, rfl, nL, rL, hb⟩
 refine ⟨_, rfl, ?_⟩
 simp only [Act.put, pu]
 have bL := Nat.le_trans sb.size nL
 clear nL
 have k := Kept.ofBelow hb
 clear hb
 replace sb := sb.trans (k.below w.heap.size sb.size (by simp <;> omega))
 clear k
 refine pw_callE (by rfl) 8 _ _ rfl Try.func8 (by kernel_rfl) #[.agg (paC (some ⟨gL, 0, none⟩) 3 3 leG)] rfl (hnw _ gL rL) ?_
 rintro _ z1001 ⟨g, gr, gf, rfl, ⟨rG, rR, rF⟩, hb⟩
 refine ⟨_, rfl, ?_⟩
 simp only [Act.put, pu]
 have k := Kept.ofBelow hb
 clear hb
 replace rL := k.row rL (by simp <;> omega)
 replace sb := sb.trans (k.below w.heap.size sb.size (by simp <;> omega))
 clear k
 refine pw_mv (by rfl) rfl rfl ?_
 simp only [Act.put, pu]
 refine pw_ext (by rfl) rfl rfl rfl ?_
 simp only [Act.put, pu]
 refine pw_ext (by rfl) rfl rfl rfl ?_
 simp only [Act.put, pu]
 refine pw_as (by rfl) rfl rfl ?_
 simp only [Act.put, pu]
 refine pw_as (by rfl) rfl rfl ?_
 simp only [Act.put, pu]
 refine pw_nil ?_
 clear hnw rL
 (repeat ((fail_if_success with_reducible refine rg ?_); go_step))
 refine wp_region_pw ?_
 refine pw_mv (by rfl) rfl rfl ?_
 simp only [Act.put, pu]
 refine pw_callE (by rfl) 25 _ _ rfl Try.func25 (by kernel_rfl) #[] rfl (rleast_any _) ?_
 rintro _ z2001 ⟨gA, rfl, nA, rA, hb⟩
 refine ⟨_, rfl, ?_⟩
 simp only [Act.put, pu]
 have dGxA := Nat.lt_of_lt_of_le rG.lt nA
 have dRxA := Nat.lt_of_lt_of_le rR.lt nA
 have dFxA := Nat.lt_of_lt_of_le rF.lt nA
 have bA := Nat.le_trans sb.size nA
 clear nA
 have k := Kept.ofBelow hb
 clear hb
 replace rG := k.row rG (by simp <;> omega)
 replace rR := k.row rR (by simp <;> omega)
 replace rF := k.row rF (by simp <;> omega)
 replace sb := sb.trans (k.below w.heap.size sb.size (by simp <;> omega))
 clear k
 refine pw_value (by rfl) (.agg (natC leG)) (exec_fieldv _ _ _ rfl _ _ rfl (paf_g _ _ _ _)) ?_
 simp only [Act.put, pu]
 refine pw_callE (by rfl) 25 _ _ rfl Try.func25 (by kernel_rfl) #[] rfl (rleast_any _) ?_
 rintro _ z2003 ⟨gB, rfl, nB, rB, hb⟩
 refine ⟨_, rfl, ?_⟩
 simp only [Act.put, pu]
 have dGxB := Nat.lt_of_lt_of_le rG.lt nB
 have dRxB := Nat.lt_of_lt_of_le rR.lt nB
 have dFxB := Nat.lt_of_lt_of_le rF.lt nB
 have dAxB := Nat.lt_of_lt_of_le rA.lt nB
 have bB := Nat.le_trans sb.size nB
 clear nB
 have k := Kept.ofBelow hb
 clear hb
 replace rG := k.row rG (by simp <;> omega)
 replace rR := k.row rR (by simp <;> omega)
 replace rF := k.row rF (by simp <;> omega)
 replace rA := k.row rA (by simp <;> omega)
 replace sb := sb.trans (k.below w.heap.size sb.size (by simp <;> omega))
 clear k
 refine pw_value (by rfl) (.agg (natC leG)) (exec_fieldv _ _ _ rfl _ _ rfl (paf_g _ _ _ _)) ?_
 simp only [Act.put, pu]
 refine pw_litr (by rfl) 49 24 2 _ rfl (natC leG ++ natC leG) ie _ Try.underlying49 hie hz hs1 hs2 [(0, .agg (natC leG)), (1, .agg (natC leG))] rfl hlA ?_
 intro gU z2005 n0 rU k
 simp only [Act.put, pu]
 have dGxU := Nat.lt_of_lt_of_le rG.lt n0
 have dRxU := Nat.lt_of_lt_of_le rR.lt n0
 have dFxU := Nat.lt_of_lt_of_le rF.lt n0
 have dAxU := Nat.lt_of_lt_of_le rA.lt n0
 have dBxU := Nat.lt_of_lt_of_le rB.lt n0
 have bU := Nat.le_trans sb.size n0
 clear n0
 replace rG := k.row rG (by simp <;> omega)
 replace rR := k.row rR (by simp <;> omega)
 replace rF := k.row rF (by simp <;> omega)
 replace rA := k.row rA (by simp <;> omega)
 replace rB := k.row rB (by simp <;> omega)
 replace sb := sb.trans (k.below w.heap.size sb.size (by simp <;> omega))
 clear k
 refine pw_callB (by rfl) 13 _ _ rfl Try.func13 (by kernel_rfl) #[.int .i64 2] rfl _ (o2 _) ?_
 intro z2006 k
 simp only [Act.put, pu]
 replace rG := k.row rG (by simp <;> omega)
 replace rR := k.row rR (by simp <;> omega)
 replace rF := k.row rF (by simp <;> omega)
 replace rA := k.row rA (by simp <;> omega)
 replace rB := k.row rB (by simp <;> omega)
 replace rU := k.row rU (by simp <;> omega)
 replace sb := sb.trans (k.below w.heap.size sb.size (by simp <;> omega))
 clear k
 refine pw_callB (by rfl) 13 _ _ rfl Try.func13 (by kernel_rfl) #[.int .i64 3] rfl _ (o3 _) ?_
 intro z2007 k
 simp only [Act.put, pu]
 replace rG := k.row rG (by simp <;> omega)
 replace rR := k.row rR (by simp <;> omega)
 replace rF := k.row rF (by simp <;> omega)
 replace rA := k.row rA (by simp <;> omega)
 replace rB := k.row rB (by simp <;> omega)
 replace rU := k.row rU (by simp <;> omega)
 replace sb := sb.trans (k.below w.heap.size sb.size (by simp <;> omega))
 clear k
 refine pw_litr (by rfl) 49 24 2 _ rfl (natC 2 ++ natC 3) ie _ Try.underlying49 hie hz hs1 hs2 [(0, .agg (natC 2)), (1, .agg (natC 3))] rfl hlB ?_
 intro gV z2008 n0 rV k
 simp only [Act.put, pu]
 have dGxV := Nat.lt_of_lt_of_le rG.lt n0
 have dRxV := Nat.lt_of_lt_of_le rR.lt n0
 have dFxV := Nat.lt_of_lt_of_le rF.lt n0
 have dAxV := Nat.lt_of_lt_of_le rA.lt n0
 have dBxV := Nat.lt_of_lt_of_le rB.lt n0
 have dUxV := Nat.lt_of_lt_of_le rU.lt n0
 have bV := Nat.le_trans sb.size n0
 clear n0
 replace rG := k.row rG (by simp <;> omega)
 replace rR := k.row rR (by simp <;> omega)
 replace rF := k.row rF (by simp <;> omega)
 replace rA := k.row rA (by simp <;> omega)
 replace rB := k.row rB (by simp <;> omega)
 replace rU := k.row rU (by simp <;> omega)
 replace sb := sb.trans (k.below w.heap.size sb.size (by simp <;> omega))
 clear k
 refine pw_callB (by rfl) 23 _ _ rfl Try.func23 (by kernel_rfl) #[.pointer (some ⟨g, 0, none⟩), .slice (some ⟨gU, 0, none⟩) 2 2, .slice (some ⟨gV, 0, none⟩) 2 2] rfl _ (hmu _ g gr gf ⟨rG, rR, rF⟩ gU gV rU rV) ?_
 intro z2009 k
 simp only [Act.put, pu]
 replace rG := k.row rG (by simp <;> omega)
 replace rR := k.row rR (by simp <;> omega)
 replace rF := k.row rF (by simp <;> omega)
 replace rA := k.row rA (by simp <;> omega)
 replace rB := k.row rB (by simp <;> omega)
 replace rU := k.row rU (by simp <;> omega)
 replace rV := k.row rV (by simp <;> omega)
 replace sb := sb.trans (k.below w.heap.size sb.size (by simp <;> omega))
 clear k
 refine pw_mv (by rfl) rfl rfl ?_
 simp only [Act.put, pu]
 refine pw_ext (by rfl) rfl rfl rfl ?_
 simp only [Act.put, pu]
 refine pw_ext (by rfl) rfl rfl rfl ?_
 simp only [Act.put, pu]
 refine pw_new (by rfl) 24 rfl _ zero_nat ?_
 intro g3 z2013 n0 r3 k
 simp only [Act.put, pu]
 have dGx3 := Nat.lt_of_lt_of_le rG.lt n0
 have dRx3 := Nat.lt_of_lt_of_le rR.lt n0
 have dFx3 := Nat.lt_of_lt_of_le rF.lt n0
 have dAx3 := Nat.lt_of_lt_of_le rA.lt n0
 have dBx3 := Nat.lt_of_lt_of_le rB.lt n0
 have dUx3 := Nat.lt_of_lt_of_le rU.lt n0
 have dVx3 := Nat.lt_of_lt_of_le rV.lt n0
 have b3 := Nat.le_trans sb.size n0
 clear n0
 replace rG := k.row rG (by simp <;> omega)
 replace rR := k.row rR (by simp <;> omega)
 replace rF := k.row rF (by simp <;> omega)
 replace rA := k.row rA (by simp <;> omega)
 replace rB := k.row rB (by simp <;> omega)
 replace rU := k.row rU (by simp <;> omega)
 replace rV := k.row rV (by simp <;> omega)
 replace sb := sb.trans (k.below w.heap.size sb.size (by simp <;> omega))
 clear k
 refine pw_put (by rfl) 24 _ _ rfl _ rfl r3 (natC le5) rfl (by exact size_nat) (by simp only [natC_size]) (natC_one _) ?_
 clear r3
 intro z2014 r3 k
 simp only [Act.put]
 replace rG := k.row rG (by simp <;> omega)
 replace rR := k.row rR (by simp <;> omega)
 replace rF := k.row rF (by simp <;> omega)
 replace rA := k.row rA (by simp <;> omega)
 replace rB := k.row rB (by simp <;> omega)
 replace rU := k.row rU (by simp <;> omega)
 replace rV := k.row rV (by simp <;> omega)
 replace sb := sb.trans (k.below w.heap.size sb.size (by simp <;> omega))
 clear k
 refine pw_as (by rfl) rfl rfl ?_
 simp only [Act.put, pu]
 refine pw_nil ?_
 have hg : GrpAt _ g gr gf 1055500680322183127 1966023127 leG := ⟨rG, rR, rF⟩
 clear hlA hlB hmu rG rR rF rU rV rA rB hie hz hs1 hs2 hsz o3
 (repeat ((fail_if_success with_reducible refine rg ?_); go_step))
 apply wp_region_mixg (by kernel_rfl) [] [_, _, _, _, _, _, _, _, _, _, _, _, _, _, _, _, _, _, _, _, _, _, _, _, _, _, _, _, _, _, _, _, _, _, _, _, _, _, _, _, _, _, _, _, _, _] trivial List.nodup_nil
 ·intro p
  refine mg_step (by rfl) (mx_move rfl rfl (mx_end ?_))
  simp only [Act.put, pu]
  refine mg_step (by rfl) (mx_val (.bool true) (exec_eql_k .i64 _ _ _ _ rfl 0 0 rfl rfl true rfl) (mx_end ?_))
  simp only [Act.put, pu]
  refine mg_step (by rfl) (mx_move rfl rfl (mx_end ?_))
  simp only [Act.put, pu]
  refine mg_step (by rfl) (mx_move rfl rfl (mx_end ?_))
  simp only [Act.put, pu]
  refine mg_step (by rfl) (mx_val (.agg (natC 0)) (exec_build0 _ rfl _ built_nat) (mx_end ?_))
  simp only [Act.put, pu]
  refine mg_step (by rfl) (mx_callK 20 _ _ rfl Try.func20 (by kernel_rfl) #[.pointer (some ⟨g, 0, none⟩), .agg (natC 0)] rfl _ (fun w' hk => hof0 w' g gr gf (hg.below (hk.below _ (Nat.le_refl _) (by simp)))) (mx_end ?_))
  simp only [Act.put, pu]
  refine mg_step (by rfl) (mx_call 13 _ _ rfl Try.func13 (by kernel_rfl) #[.int .i64 1] rfl _ o1 (mx_end ?_))
  simp only [Act.put, pu]
  refine mg_step (by rfl) (mx_val (.bool true) (fun w' => (exec_eql_nat _ _ _ rfl 1 1 rfl rfl w').trans (by rw [eqn_yes])) (mx_end ?_))
  simp only [Act.put, pu]
  refine mg_step (by rfl) (mx_pick true (v := .bool true) rfl rfl rfl (mx_end ?_))
  simp only [Act.put, pu]
  refine mg_step (by rfl) (mx_move rfl rfl (mx_end ?_))
  simp only [Act.put, pu]
  refine mg_step (by rfl) (mx_move rfl rfl (mx_end ?_))
  simp only [Act.put, pu]
  refine mg_step (by rfl) (mx_call 13 _ _ rfl Try.func13 (by kernel_rfl) #[.int .i64 1] rfl _ o1 (mx_end ?_))
  simp only [Act.put, pu]
  refine mg_step (by rfl) (mx_callK 20 _ _ rfl Try.func20 (by kernel_rfl) #[.pointer (some ⟨g, 0, none⟩), .agg (natC 1)] rfl _ (fun w' hk => hof1 w' g gr gf (hg.below (hk.below _ (Nat.le_refl _) (by simp)))) (mx_end ?_))
  simp only [Act.put, pu]
  refine mg_step (by rfl) (mx_callN 25 _ _ rfl Try.func25 (by kernel_rfl) #[] rfl (fun g => .agg (paC (some ⟨g, 0, none⟩) 3 3 leG)) 74 (lksC 3 (lN leL) twoA) (fun w' _ => rleast_any w') (mx_end ?_))
  simp only [Act.put, pu]
  refine mg_step (by rfl) (mx_val (.agg (natC leG)) (exec_fieldv _ _ _ rfl _ _ rfl (paf_g _ _ _ _)) (mx_end ?_))
  simp only [Act.put, pu]
  refine mg_step (by rfl) (mx_val (.bool true) (fun w' => (exec_eql_nat _ _ _ rfl leG leG rfl rfl w').trans (by rw [eqn_yes])) (mx_end ?_))
  simp only [Act.put, pu]
  refine mg_step (by rfl) (mx_pick true (v := .bool true) rfl rfl rfl (mx_end ?_))
  simp only [Act.put, pu]
  refine mg_step (by rfl) (mx_move rfl rfl (mx_end ?_))
  simp only [Act.put, pu]
  refine mg_step (by rfl) (mx_load 24 _ rfl _ rfl r3 (by simp <;> omega) 4 _ Try.underlying24 size_nat (mx_end ?_))
  simp only [Act.put, pu]
  refine mg_step (by rfl) (mx_move rfl rfl (mx_end ?_))
  simp only [Act.put, pu]
  refine mg_step (by rfl) (mx_call 13 _ _ rfl Try.func13 (by kernel_rfl) #[.int .i64 5] rfl _ o5 (mx_end ?_))
  simp only [Act.put, pu]
  refine mg_step (by rfl) (mx_callK 20 _ _ rfl Try.func20 (by kernel_rfl) #[.pointer (some ⟨g, 0, none⟩), .agg (natC 5)] rfl _ (fun w' hk => hof5 w' g gr gf (hg.below (hk.below _ (Nat.le_refl _) (by simp)))) (mx_end ?_))
  simp only [Act.put, pu]
  refine mg_step (by rfl) (mx_val (.bool true) (fun w' => (exec_eql_nat _ _ _ rfl le5 le5 rfl rfl w').trans (by rw [eqn_yes])) (mx_end ?_))
  simp only [Act.put, pu]
  refine mg_step (by rfl) (mx_pick true (v := .bool true) rfl rfl rfl (mx_end ?_))
  simp only [Act.put, pu]
  refine mg_step (by rfl) (mx_move rfl rfl (mx_end ?_))
  simp only [Act.put, pu]
  refine mg_step (by rfl) (mx_move rfl rfl (mx_end ?_))
  simp only [Act.put, pu]
  refine mg_step (by rfl) (mx_val (.bool true) (exec_eql_k .i64 _ _ _ _ rfl 0 0 rfl rfl true rfl) (mx_end ?_))
  simp only [Act.put, pu]
  refine mg_step (by rfl) (mx_pick true (v := .bool true) rfl rfl rfl (mx_end ?_))
  simp only [Act.put, pu]
  refine mg_step (by rfl) (mx_move rfl rfl (mx_end ?_))
  simp only [Act.put, pu]
  refine mg_step (by rfl) (mx_move rfl rfl (mx_end ?_))
  simp only [Act.put, pu]
  refine mg_step (by rfl) (mx_load 24 _ rfl _ rfl r3 (by simp <;> omega) 4 _ Try.underlying24 size_nat (mx_end ?_))
  simp only [Act.put, pu]
  refine mg_step (by rfl) (mx_callK 14 _ _ rfl Try.func14 (by kernel_rfl) #[.pointer (some ⟨g, 0, none⟩), .agg (natC le5)] rfl _ (fun w' hk => hin5 w' g gr gf (hg.below (hk.below _ (Nat.le_refl _) (by simp)))) (mx_end ?_))
  simp only [Act.put, pu]
  refine mg_step (by rfl) (mx_pick true (v := .bool true) rfl rfl rfl (mx_end ?_))
  simp only [Act.put, pu]
  refine mg_step (by rfl) (mx_move rfl rfl (mx_end ?_))
  simp only [Act.put, pu]
  refine mg_step (by rfl) (mx_move rfl rfl (mx_end ?_))
  simp only [Act.put, pu]
  refine mg_step (by rfl) (mx_call 13 _ _ rfl Try.func13 (by kernel_rfl) #[.int .i64 2] rfl _ o2 (mx_end ?_))
  simp only [Act.put, pu]
  refine mg_step (by rfl) (mx_callK 14 _ _ rfl Try.func14 (by kernel_rfl) #[.pointer (some ⟨g, 0, none⟩), .agg (natC 2)] rfl _ (fun w' hk => hin2 w' g gr gf (hg.below (hk.below _ (Nat.le_refl _) (by simp)))) (mx_end ?_))
  simp only [Act.put, pu]
  refine mg_step (by rfl) (mx_val (.bool true) (exec_not _ _ rfl false rfl) (mx_end ?_))
  simp only [Act.put, pu]
  refine mg_step (by rfl) (mx_pick true (v := .bool true) rfl rfl rfl (mx_end ?_))
  simp only [Act.put, pu]
  refine mg_step (by rfl) (mx_move rfl rfl (mx_end ?_))
  simp only [Act.put, pu]
  refine mg_step (by rfl) (mx_move rfl rfl (mx_end ?_))
  simp only [Act.put, pu]
  refine mg_step (by rfl) (mx_val (.agg (natC 0)) (exec_build0 _ rfl _ built_nat) (mx_end ?_))
  simp only [Act.put, pu]
  refine mg_step (by rfl) (mx_callK 14 _ _ rfl Try.func14 (by kernel_rfl) #[.pointer (some ⟨g, 0, none⟩), .agg (natC 0)] rfl _ (fun w' hk => hin0 w' g gr gf (hg.below (hk.below _ (Nat.le_refl _) (by simp)))) (mx_end ?_))
  simp only [Act.put, pu]
  refine mg_step (by rfl) (mx_val (.bool true) (exec_not _ _ rfl false rfl) (mx_end ?_))
  simp only [Act.put, pu]
  refine mg_step (by rfl) (mx_pick true (v := .bool true) rfl rfl rfl (mx_end ?_))
  simp only [Act.put, pu]
  refine mg_step (by rfl) (mx_asg rfl rfl (mx_end ?_))
  simp only [Act.put, List.setIfInBounds_toArray, List.set_cons_zero]
  refine mg_end ?_
  intro w9 hkw hrw hnew hdis
  have n36 := hnew 13 rfl
  have zr36 : Row w9 (p 13) (lksC 3 (lN leL) twoA) 74 := hrw 27 (74, lksC 3 (lN leL) twoA) rfl
  replace sb := sb.trans (hkw.below w.heap.size sb.size (by simp <;> omega))
  clear hkw hrw hnew hdis n36
  generalize p 13 = g36 at *
  have r36 := zr36
  clear zr36
  go_wp2
  go_ret
  exact ⟨rfl, sb⟩
 ·kernel_rfl
end Go.Proofs.Ytplhgenmcphccaa
