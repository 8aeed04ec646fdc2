/- What must come, whatever the arguments are: the check of the laws of layer 11. -/
import Derived.Test.YtdemabfpcepnfaaGreatDoorCA
import Derived.Test.YtdemabfpcepnfaaGreatDoorGAwake
import Derived.Test.YtdemabfpcepnfaaGreatDoorGW
namespace Go.Proofs.YtdemabfpcepnfaaGreatDoor
open Go.RowKit
set_option linter.unusedVariables false
def abL : List UInt8 := [97, 98]
theorem ab_n : pN (ckL abL true).length 3 = 1 := by decide
theorem ab_f : ckF (ckL abL true) 3 0 = 221538 := by decide +kernel
theorem ab_row : nsC 1 (ckF (ckL abL true) 3) = nsC 1 (fun _ => 221538) := nsC_congr 1 _ _ fun k hk => by
 obtain rfl : k = 0 := by omega
 exact ab_f
theorem ab_tk : tkR 3 1 (fun _ => 221538) = some (abL, true) := tkR_of (by decide) ⟨by decide, ab_n.symm, fun k hk => by
 obtain rfl : k = 0 := by omega
 exact ab_f.symm⟩ (fun h => by cases h)
theorem sz_le : sizeZ 1966023127 = ((3 : Nat) : Int) := by decide +kernel
theorem ck_3 : ckN 3 3 = 2 := by decide
theorem nsC_1 (A : Nat) : nsC 1 (fun _ => A) = natC A := by
 apply Array.ext'
 rw [← nsC_snoc]
 simp [nsC]
theorem GrpAt.szz {w : World} {g gr gf P Q G : Nat} {z : Int} (h : GrpAt w g gr gf P Q G) (hQ : Q < 2 ^ 256) (hz : sizeZ Q = z) : SzAt w (some ⟨g, 0, none⟩) z := hz ▸ h.kn.sz hQ
set_option maxRecDepth 100000 in
set_option maxHeartbeats 2000000 in
theorem awake11_any (w : World) :
  Calls Tryz.prog 6 #[] w fun e w' => e = .returned (.bool true) ∧ Below w.heap.size w w' := by
 have hnw := fun w' g (r : Row w' g (lksC 3 (lN leL) twoA) 81) => gnew_yes 3 3 (some ⟨g, 0, none⟩) leG _ _ g 0 _ _ w' (by decide) (by decide) (lks_links r le_lt) least_is
 rw [le_p, le_q] at hnw
 have hpu := fun w' g gr gf (h : GrpAt w' g gr gf 1055500680322183127 1966023127 leG) => put_some (some ⟨g, 0, none⟩) 3 abL w' (by decide) (by decide) (by decide) (h.szz (by decide) sz_le)
 rw [ab_n, ab_row] at hpu
 have htk := fun w' g gr gf (h : GrpAt w' g gr gf 1055500680322183127 1966023127 leG) x (r : Row w' x (nsC 1 (fun _ => 221538)) 26) => ckTake_any (some ⟨g, 0, none⟩) 3 1 1 (some ⟨x, 0, none⟩) (fun _ => 221538) x 0 _ _ w' (by decide) (by decide) (h.szz (by decide) sz_le) (nats_row r (fun _ _ => by decide))
 obtain ⟨e1, e2, e3⟩ := tk_some ab_tk
 rw [e1, e2, e3] at htk
 clear e1 e2 e3
 have hct := fun w' g gr gf (h : GrpAt w' g gr gf 1055500680322183127 1966023127 leG) => ckCount_any (some ⟨g, 0, none⟩) 3 3 w' (by decide) (by decide) (h.szz (by decide) sz_le)
 rw [ck_3] at hct
 have hin := fun w' => rint_yes 221538 w' (by decide) (by decide)
 obtain ⟨ie, hie, hze, hsz, _⟩ := info_nat'
 have hs1 : ¬ 1 * ie.size > 2 ^ 24 := by rw [hsz]; decide
 have hs2 : ¬ 1 * ie.size = 0 := by rw [hsz]; decide
 have hl1 := lit_one 221538 ie.size hsz
 have hsm := fun w' x y (r : Row w' x (nsC 1 (fun _ => 221538)) 26) (q : Row w' y (nsC 1 (fun _ => 221538)) 26) => rsame_yes 1 1 1 (some ⟨x, 0, none⟩) (some ⟨y, 0, none⟩) (fun _ => 221538) x 0 y 0 _ _ _ _ w' (by decide) (nats_row r (fun _ _ => by decide)) (nats_row q (fun _ _ => by decide))
 rw [nsC_1] at hpu htk hsm
 go_enter Tryz.func6, Tryz.ntmps6
 have sb := sbmk w
 (repeat ((fail_if_success with_reducible refine rg ?_); go_step))
 refine wp_region_pw ?_
 refine pw_value (by rfl) (.bool false) (fun _ => rfl) ?_
 simp only [Act.put, List.setIfInBounds_toArray, List.set_cons_zero]
 refine pw_nil ?_
 (repeat ((fail_if_success with_reducible refine rg ?_); go_step))
 refine wp_region_pw ?_
 refine pw_callE (by rfl) 18 _ _ rfl Tryz.func18 (by kernel_rfl) #[] rfl (rleast_any _) ?_
 rintro _ z1000 ⟨gL, rfl, nL, rL, hb⟩
 refine ⟨_, rfl, ?_⟩
 simp only [Act.put, pu]
 have bL := Nat.le_trans sb.size nL
 clear nL
 have k := Kept.ofBelow hb
 clear hb
 replace sb := sb.trans (k.below w.heap.size sb.size (by simp <;> omega))
 clear k
 refine pw_callE (by rfl) 8 _ _ rfl Tryz.func8 (by kernel_rfl) #[.agg (paC (some ⟨gL, 0, none⟩) 3 3 leG)] rfl (hnw _ gL rL) ?_
 rintro _ z1001 ⟨g, gr, gf, rfl, ⟨rG, rR, rF⟩, hb⟩
 refine ⟨_, rfl, ?_⟩
 simp only [Act.put, pu]
 have k := Kept.ofBelow hb
 clear hb
 replace rL := k.row rL (by simp <;> omega)
 replace sb := sb.trans (k.below w.heap.size sb.size (by simp <;> omega))
 clear k
 refine pw_mv (by rfl) rfl rfl ?_
 simp only [Act.put, pu]
 refine pw_ext (by rfl) rfl rfl rfl ?_
 simp only [Act.put, pu]
 refine pw_ext (by rfl) rfl rfl rfl ?_
 simp only [Act.put, pu]
 refine pw_as (by rfl) rfl rfl ?_
 simp only [Act.put, pu]
 refine pw_as (by rfl) rfl rfl ?_
 simp only [Act.put, pu]
 refine pw_nil ?_
 clear hnw rL
 (repeat ((fail_if_success with_reducible refine rg ?_); go_step))
 refine wp_region_pw ?_
 refine pw_mv (by rfl) rfl rfl ?_
 simp only [Act.put, pu]
 refine pw_callE (by rfl) 9 _ _ rfl Tryz.func9 (by kernel_rfl) #[.pointer (some ⟨g, 0, none⟩), .string ⟨(abL).toArray⟩, .bool true] rfl (hpu _ g gr gf ⟨rG, rR, rF⟩) ?_
 rintro _ z2001 ⟨gA, rfl, nA, rA, hb⟩
 refine ⟨_, rfl, ?_⟩
 simp only [Act.put, pu]
 have dGxA := Nat.lt_of_lt_of_le rG.lt nA
 have dRxA := Nat.lt_of_lt_of_le rR.lt nA
 have dFxA := Nat.lt_of_lt_of_le rF.lt nA
 have bA := Nat.le_trans sb.size nA
 clear nA
 have k := Kept.ofBelow hb
 clear hb
 replace rG := k.row rG (by simp <;> omega)
 replace rR := k.row rR (by simp <;> omega)
 replace rF := k.row rF (by simp <;> omega)
 replace sb := sb.trans (k.below w.heap.size sb.size (by simp <;> omega))
 clear k
 refine pw_mv (by rfl) rfl rfl ?_
 simp only [Act.put, pu]
 refine pw_ext (by rfl) rfl rfl rfl ?_
 simp only [Act.put, pu]
 refine pw_ext (by rfl) rfl rfl rfl ?_
 simp only [Act.put, pu]
 refine pw_as (by rfl) rfl rfl ?_
 simp only [Act.put, pu]
 refine pw_as (by rfl) rfl rfl ?_
 simp only [Act.put, pu]
 refine pw_nil ?_
 clear hpu
 (repeat ((fail_if_success with_reducible refine rg ?_); go_step))
 refine wp_region_pw ?_
 refine pw_mv (by rfl) rfl rfl ?_
 simp only [Act.put, pu]
 refine pw_mv (by rfl) rfl rfl ?_
 simp only [Act.put, pu]
 refine pw_callB (by rfl) 14 _ _ rfl Tryz.func14 (by kernel_rfl) #[.pointer (some ⟨g, 0, none⟩), .slice (some ⟨gA, 0, none⟩) 1 1] rfl _ (htk _ g gr gf ⟨rG, rR, rF⟩ gA rA) ?_
 intro z3002 k
 simp only [Act.put, pu]
 replace rG := k.row rG (by simp <;> omega)
 replace rR := k.row rR (by simp <;> omega)
 replace rF := k.row rF (by simp <;> omega)
 replace rA := k.row rA (by simp <;> omega)
 replace sb := sb.trans (k.below w.heap.size sb.size (by simp <;> omega))
 clear k
 refine pw_mv (by rfl) rfl rfl ?_
 simp only [Act.put, pu]
 refine pw_ext (by rfl) rfl rfl rfl ?_
 simp only [Act.put, pu]
 refine pw_ext (by rfl) rfl rfl rfl ?_
 simp only [Act.put, pu]
 refine pw_ext (by rfl) rfl rfl rfl ?_
 simp only [Act.put, pu]
 refine pw_as (by rfl) rfl rfl ?_
 simp only [Act.put, pu]
 refine pw_as (by rfl) rfl rfl ?_
 simp only [Act.put, pu]
 refine pw_as (by rfl) rfl rfl ?_
 simp only [Act.put, pu]
 refine pw_nil ?_
 clear htk
 (repeat ((fail_if_success with_reducible refine rg ?_); go_step))
 refine wp_region_pw ?_
 refine pw_mv (by rfl) rfl rfl ?_
 simp only [Act.put, pu]
 refine pw_value (by rfl) (.bool true) (exec_eql_k .i64 _ _ _ _ rfl 0 0 rfl rfl true rfl) ?_
 simp only [Act.put, pu]
 refine pw_mv (by rfl) rfl rfl ?_
 simp only [Act.put, pu]
 refine pw_mv (by rfl) rfl rfl ?_
 simp only [Act.put, pu]
 refine pw_value (by rfl) (.bool true) (exec_eql_k .i64 _ _ _ _ rfl 0 0 rfl rfl true rfl) ?_
 simp only [Act.put, pu]
 refine pw_pick (by rfl) true (v := .bool true) rfl rfl rfl ?_
 simp only [Act.put, pu]
 refine pw_mv (by rfl) rfl rfl ?_
 simp only [Act.put, pu]
 refine pw_mv (by rfl) rfl rfl ?_
 simp only [Act.put, pu]
 refine pw_callB (by rfl) 19 _ _ rfl Tryz.func19 (by kernel_rfl) #[.int .i64 221538] rfl _ (hin _) ?_
 intro z4008 k
 simp only [Act.put, pu]
 replace rG := k.row rG (by simp <;> omega)
 replace rR := k.row rR (by simp <;> omega)
 replace rF := k.row rF (by simp <;> omega)
 replace rA := k.row rA (by simp <;> omega)
 replace sb := sb.trans (k.below w.heap.size sb.size (by simp <;> omega))
 clear k
 refine pw_litr (by rfl) 34 26 1 _ rfl (natC 221538) ie _ Tryz.underlying34 hie hze hs1 hs2 [(0, .agg (natC 221538))] rfl hl1 ?_
 intro gX z4009 n0 rX k
 simp only [Act.put, pu]
 have dGxX := Nat.lt_of_lt_of_le rG.lt n0
 have dRxX := Nat.lt_of_lt_of_le rR.lt n0
 have dFxX := Nat.lt_of_lt_of_le rF.lt n0
 have dAxX := Nat.lt_of_lt_of_le rA.lt n0
 have bX := Nat.le_trans sb.size n0
 clear n0
 replace rG := k.row rG (by simp <;> omega)
 replace rR := k.row rR (by simp <;> omega)
 replace rF := k.row rF (by simp <;> omega)
 replace rA := k.row rA (by simp <;> omega)
 replace sb := sb.trans (k.below w.heap.size sb.size (by simp <;> omega))
 clear k
 refine pw_callB (by rfl) 11 _ _ rfl Tryz.func11 (by kernel_rfl) #[.slice (some ⟨gA, 0, none⟩) 1 1, .slice (some ⟨gX, 0, none⟩) 1 1] rfl _ (hsm _ gA gX rA rX) ?_
 intro z4010 k
 simp only [Act.put, pu]
 replace rG := k.row rG (by simp <;> omega)
 replace rR := k.row rR (by simp <;> omega)
 replace rF := k.row rF (by simp <;> omega)
 replace rA := k.row rA (by simp <;> omega)
 replace rX := k.row rX (by simp <;> omega)
 replace sb := sb.trans (k.below w.heap.size sb.size (by simp <;> omega))
 clear k
 refine pw_pick (by rfl) true (v := .bool true) rfl rfl rfl ?_
 simp only [Act.put, pu]
 refine pw_mv (by rfl) rfl rfl ?_
 simp only [Act.put, pu]
 refine pw_mv (by rfl) rfl rfl ?_
 simp only [Act.put, pu]
 refine pw_value (by rfl) (.bool true) (y_eqS _ _ _ _ rfl abL abL rfl rfl true rfl) ?_
 simp only [Act.put, pu]
 refine pw_pick (by rfl) true (v := .bool true) rfl rfl rfl ?_
 simp only [Act.put, pu]
 refine pw_mv (by rfl) rfl rfl ?_
 simp only [Act.put, pu]
 refine pw_mv (by rfl) rfl rfl ?_
 simp only [Act.put, pu]
 refine pw_pick (by rfl) true (v := .bool true) rfl rfl rfl ?_
 simp only [Act.put, pu]
 refine pw_mv (by rfl) rfl rfl ?_
 simp only [Act.put, pu]
 refine pw_mv (by rfl) rfl rfl ?_
 simp only [Act.put, pu]
 refine pw_value (by rfl) (.bool true) (exec_eql_k .i64 _ _ _ _ rfl 0 0 rfl rfl true rfl) ?_
 simp only [Act.put, pu]
 refine pw_pick (by rfl) true (v := .bool true) rfl rfl rfl ?_
 simp only [Act.put, pu]
 refine pw_mv (by rfl) rfl rfl ?_
 simp only [Act.put, pu]
 refine pw_mv (by rfl) rfl rfl ?_
 simp only [Act.put, pu]
 refine pw_callB (by rfl) 12 _ _ rfl Tryz.func12 (by kernel_rfl) #[.pointer (some ⟨g, 0, none⟩), .int .i64 3] rfl _ (hct _ g gr gf ⟨rG, rR, rF⟩) ?_
 intro z4025 k
 simp only [Act.put, pu]
 replace rG := k.row rG (by simp <;> omega)
 replace rR := k.row rR (by simp <;> omega)
 replace rF := k.row rF (by simp <;> omega)
 replace rA := k.row rA (by simp <;> omega)
 replace rX := k.row rX (by simp <;> omega)
 replace sb := sb.trans (k.below w.heap.size sb.size (by simp <;> omega))
 clear k
 refine pw_value (by rfl) (.bool true) (exec_eql_k .i64 _ _ _ _ rfl 2 2 rfl rfl true rfl) ?_
 simp only [Act.put, pu]
 refine pw_pick (by rfl) true (v := .bool true) rfl rfl rfl ?_
 simp only [Act.put, pu]
 refine pw_as (by rfl) rfl rfl ?_
 simp only [Act.put, List.setIfInBounds_toArray, List.set_cons_zero]
 refine pw_nil ?_
 go_wp2
 go_ret
 exact ⟨rfl, sb⟩
end Go.Proofs.YtdemabfpcepnfaaGreatDoor
/- params of layer 11's laws: one of the three groups; their sizes. -/
namespace Go.Proofs.YtdemabfpcepnfaaGreatDoor
open Go.RowKit
set_option linter.unusedVariables false
theorem pk_size (m : Nat) : sizeZ (lN (pk m leL otL grL) (pk m 3 3 5 - 2)) = ((pk m 3 3 14 : Nat) : Int) ∧ 0 < pk m 3 3 14 ∧ pk m 3 3 14 ≤ 32 ∧ 2 ^ (8 * pk m 3 3 14) ≤ lN (pk m leL otL grL) (pk m 3 3 5 - 2) := by
 unfold pk
 split
 ·exact ⟨by decide +kernel, by decide, by decide, by decide⟩
 ·split
  ·exact ⟨by decide +kernel, by decide, by decide, by decide⟩
  ·exact ⟨by decide +kernel, by decide, by decide, by decide⟩
set_option maxRecDepth 100000 in
set_option maxHeartbeats 2000000 in
theorem params_core (a0 : Int) (m0 mm n0 n1 n2 G0 G1 G2 : Nat) (L0 L1 L2 : Array Value) (w : World) (hm0 : bits .and .i64 a0 255 = (m0 : Int)) (hmm : m0 % 3 = mm)
  (hA0 : ∀ w', Calls Tryz.prog 18 #[] w' fun e w2 => ∃ g, e = .returned (.agg (paC (some ⟨g, 0, none⟩) n0 n0 G0)) ∧ w'.heap.size ≤ g ∧ Row w2 g L0 81 ∧ Below w'.heap.size w' w2)
  (hA1 : ∀ w', Calls Tryz.prog 20 #[] w' fun e w2 => ∃ g, e = .returned (.agg (paC (some ⟨g, 0, none⟩) n1 n1 G1)) ∧ w'.heap.size ≤ g ∧ Row w2 g L1 81 ∧ Below w'.heap.size w' w2)
  (hA2 : ∀ w', Calls Tryz.prog 21 #[] w' fun e w2 => ∃ g, e = .returned (.agg (paC (some ⟨g, 0, none⟩) n2 n2 G2)) ∧ w'.heap.size ≤ g ∧ Row w2 g L2 81 ∧ Below w'.heap.size w' w2) :
  Calls Tryz.prog 7 #[.int .i64 a0] w fun e w' => ∃ g, e = .returned (.agg (paC (some ⟨g, 0, none⟩) (pk mm n0 n1 n2) (pk mm n0 n1 n2) (pk mm G0 G1 G2))) ∧ w.heap.size ≤ g ∧ Row w' g (pk mm L0 L1 L2) 81 ∧ Below w.heap.size w w' := by
 obtain ⟨ie, hie, hz, hsz⟩ := info_pa'
 have hs1 : ¬ 3 * ie.size > 2 ^ 24 := by rw [hsz]; decide
 have hs2 : ¬ 3 * ie.size = 0 := by rw [hsz]; decide
 have hl := fun x y z n m l X Y Z => lit_pas x y z n m l X Y Z ie.size hsz
 have hm3 : mm < 3 := by rw [← hmm]; exact Nat.mod_lt _ (by decide)
 have hpp := fun x y z => pas_part x y z n0 n1 n2 G0 G1 G2 mm hm3
 simp only [Nat.zero_add] at hpp
 go_enter Tryz.func7, Tryz.ntmps7
 (repeat ((fail_if_success with_reducible refine rg ?_); go_step))
 refine wp_region_pw ?_
 refine pw_new (by rfl) 28 rfl _ zero_pa ?_
 intro g2 z0 n0 r2 k
 simp only [Act.put, pu]
 have b2 : w.heap.size ≤ g2 := n0
 clear n0
 have sb := k.below w.heap.size (Nat.le_refl _) (by simp)
 clear k
 refine pw_nil ?_
 (repeat ((fail_if_success with_reducible refine rg ?_); go_step))
 refine wp_region_pw ?_
 refine pw_callE (by rfl) 18 _ _ rfl Tryz.func18 (by kernel_rfl) #[] rfl (hA0 _) ?_
 rintro _ z1000 ⟨gU, rfl, nU, rU, hb⟩
 refine ⟨_, rfl, ?_⟩
 simp only [Act.put, pu]
 have d2xU := Nat.lt_of_lt_of_le r2.lt nU
 have bU := Nat.le_trans sb.size nU
 clear nU
 have k := Kept.ofBelow hb
 clear hb
 replace r2 := k.row r2 (by simp <;> omega)
 replace sb := sb.trans (k.below w.heap.size sb.size (by simp <;> omega))
 clear k
 refine pw_callE (by rfl) 20 _ _ rfl Tryz.func20 (by kernel_rfl) #[] rfl (hA1 _) ?_
 rintro _ z1001 ⟨gV, rfl, nV, rV, hb⟩
 refine ⟨_, rfl, ?_⟩
 simp only [Act.put, pu]
 have d2xV := Nat.lt_of_lt_of_le r2.lt nV
 have dUxV := Nat.lt_of_lt_of_le rU.lt nV
 have bV := Nat.le_trans sb.size nV
 clear nV
 have k := Kept.ofBelow hb
 clear hb
 replace r2 := k.row r2 (by simp <;> omega)
 replace rU := k.row rU (by simp <;> omega)
 replace sb := sb.trans (k.below w.heap.size sb.size (by simp <;> omega))
 clear k
 refine pw_callE (by rfl) 21 _ _ rfl Tryz.func21 (by kernel_rfl) #[] rfl (hA2 _) ?_
 rintro _ z1002 ⟨gW, rfl, nW, rW, hb⟩
 refine ⟨_, rfl, ?_⟩
 simp only [Act.put, pu]
 have d2xW := Nat.lt_of_lt_of_le r2.lt nW
 have dUxW := Nat.lt_of_lt_of_le rU.lt nW
 have dVxW := Nat.lt_of_lt_of_le rV.lt nW
 have bW := Nat.le_trans sb.size nW
 clear nW
 have k := Kept.ofBelow hb
 clear hb
 replace r2 := k.row r2 (by simp <;> omega)
 replace rU := k.row rU (by simp <;> omega)
 replace rV := k.row rV (by simp <;> omega)
 replace sb := sb.trans (k.below w.heap.size sb.size (by simp <;> omega))
 clear k
 refine pw_litr (by rfl) 51 28 3 _ rfl (pasC (some ⟨gU, 0, none⟩) (some ⟨gV, 0, none⟩) (some ⟨gW, 0, none⟩) n0 n1 n2 G0 G1 G2) ie _ Tryz.underlying51 hie hz hs1 hs2 [(0, .agg (paC (some ⟨gU, 0, none⟩) n0 n0 G0)), (1, .agg (paC (some ⟨gV, 0, none⟩) n1 n1 G1)), (2, .agg (paC (some ⟨gW, 0, none⟩) n2 n2 G2))] rfl (hl _ _ _ _ _ _ _ _ _) ?_
 intro gA z1003 n0 rA k
 simp only [Act.put, pu]
 have d2xA := Nat.lt_of_lt_of_le r2.lt n0
 have dUxA := Nat.lt_of_lt_of_le rU.lt n0
 have dVxA := Nat.lt_of_lt_of_le rV.lt n0
 have dWxA := Nat.lt_of_lt_of_le rW.lt n0
 have bA := Nat.le_trans sb.size n0
 clear n0
 replace r2 := k.row r2 (by simp <;> omega)
 replace rU := k.row rU (by simp <;> omega)
 replace rV := k.row rV (by simp <;> omega)
 replace rW := k.row rW (by simp <;> omega)
 replace sb := sb.trans (k.below w.heap.size sb.size (by simp <;> omega))
 clear k
 refine pw_mv (by rfl) rfl rfl ?_
 simp only [Act.put, pu]
 refine pw_value (by rfl) (.int .i64 (m0 : Nat)) (fun w' => (exec_bits_i .and _ _ _ _ (.inl rfl) rfl a0 255 rfl rfl w').trans (by rw [hm0])) ?_
 simp only [Act.put, pu]
 refine pw_value (by rfl) (.int .i64 (mm : Nat)) (fun w' => (exec_rem_i _ _ _ _ rfl m0 3 rfl rfl (by decide) w').trans (by rw [hmm])) ?_
 simp only [Act.put, pu]
 refine pw_value (by rfl) (.pointer (some ⟨gA, mm * 5, none⟩)) (fun w' => (exec_index_s 51 _ _ rfl gA 0 3 3 rfl mm rfl hm3 _ Tryz.underlying51 5 Tryz.sizeOf28 w').trans (by rw [Nat.zero_add])) ?_
 simp only [Act.put, pu]
 refine pw_loadm (by rfl) 28 _ rfl _ (mm * 5) rfl rA.r (paC (some ⟨pk mm gU gV gW, 0, none⟩) (pk mm n0 n1 n2) (pk mm n0 n1 n2) (pk mm G0 G1 G2)) (hpp gU gV gW) _ Tryz.underlying28 rfl size_pa ?_
 simp only [Act.put, pu]
 refine pw_put (by rfl) 28 _ _ rfl _ rfl r2 (paC (some ⟨pk mm gU gV gW, 0, none⟩) (pk mm n0 n1 n2) (pk mm n0 n1 n2) (pk mm G0 G1 G2)) rfl (by exact size_pa) (by rfl) (pa_one _ _ _ _) ?_
 clear r2
 intro z1009 r2 k
 simp only [Act.put]
 replace rU := k.row rU (by simp <;> omega)
 replace rV := k.row rV (by simp <;> omega)
 replace rW := k.row rW (by simp <;> omega)
 replace rA := k.row rA (by simp <;> omega)
 replace sb := sb.trans (k.below w.heap.size sb.size (by simp <;> omega))
 clear k
 refine pw_nil ?_
 have rP := pk_row mm rU rV rW
 go_wp2
 exact ret_rowd rfl _ rfl r2 _ Tryz.underlying28 (by exact size_pa) rfl ⟨pk mm gU gV gW, rfl, by unfold pk; split; exact bU; split; exact bV; exact bW, rP, sb⟩
theorem params_any (a0 : Int) (w : World) :
  Calls Tryz.prog 7 #[.int .i64 a0] w fun e w' => ∃ g, e = .returned (.agg (paC (some ⟨g, 0, none⟩) (pk (ly8 a0 % 3) 3 3 5) (pk (ly8 a0 % 3) 3 3 5) (pk (ly8 a0 % 3) leG otG grG))) ∧ w.heap.size ≤ g ∧ Row w' g (pk (ly8 a0 % 3) (lksC 3 (lN leL) twoA) (lksC 3 (lN otL) twoA) (lksC 5 (lN grL) twoA)) 81 ∧ Below w.heap.size w w' :=
 params_core a0 (ly8 a0) (ly8 a0 % 3) 3 3 5 leG otG grG _ _ _ w (and_ly8 a0) rfl rleast_any rother_any rgreat_any
end Go.Proofs.YtdemabfpcepnfaaGreatDoor
