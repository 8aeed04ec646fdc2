/- What must come, whatever the arguments are: the check of the laws of layer 11. -/
import Derived.Test.YtdemabfpcepnfaaDoorCA
import Derived.Test.YtdemabfpcepnfaaDoorGAwake
import Derived.Test.YtdemabfpcepnfaaDoorGW
namespace Go.Proofs.YtdemabfpcepnfaaDoor
open Go.RowKit
set_option linter.unusedVariables false
def abL : List UInt8 := [97, 98]
theorem ab_n : pN (ckL abL true).length 3 = 1 := by decide
theorem ab_f : ckF (ckL abL true) 3 0 = 221538 := by decide +kernel
theorem ab_row : nsC 1 (ckF (ckL abL true) 3) = nsC 1 (fun _ => 221538) := nsC_congr 1 _ _ fun k hk => by
 obtain rfl : k = 0 := by omega
 exact ab_f
theorem ab_tk : tkR 3 1 (fun _ => 221538) = some (abL, true) := tkR_of (by decide) ⟨by decide, ab_n.symm, fun k hk => by
 obtain rfl : k = 0 := by omega
 exact ab_f.symm⟩ (fun h => by cases h)
theorem sz_le : sizeZ 1966023127 = ((3 : Nat) : Int) := by decide +kernel
theorem ck_3 : ckN 3 3 = 2 := by decide
theorem nsC_1 (A : Nat) : nsC 1 (fun _ => A) = natC A := by
 apply Array.ext'
 rw [← nsC_snoc]
 simp [nsC]
theorem GrpAt.szz {w : World} {g gr gf P Q G : Nat} {z : Int} (h : GrpAt w g gr gf P Q G) (hQ : Q < 2 ^ 256) (hz : sizeZ Q = z) : SzAt w (some ⟨g, 0, none⟩) z := hz ▸ h.kn.sz hQ
set_option maxRecDepth 100000 in
set_option maxHeartbeats 2000000 in
theorem awake11_any (w : World) :
  Calls Tryd.prog 4 #[] w fun e w' => e = .returned (.bool true) ∧ Below w.heap.size w w' := by
 have hnw := fun w' g (r : Row w' g (lksC 3 (lN leL) twoA) 61) => gnew_yes 3 3 (some ⟨g, 0, none⟩) leG _ _ g 0 _ _ w' (by decide) (by decide) (lks_links r le_lt) least_is
 rw [le_p, le_q] at hnw
 have hpu := fun w' g gr gf (h : GrpAt w' g gr gf 1055500680322183127 1966023127 leG) => put_some (some ⟨g, 0, none⟩) 3 abL w' (by decide) (by decide) (by decide) (h.szz (by decide) sz_le)
 rw [ab_n, ab_row] at hpu
 have htk := fun w' g gr gf (h : GrpAt w' g gr gf 1055500680322183127 1966023127 leG) x (r : Row w' x (nsC 1 (fun _ => 221538)) 27) => ckTake_any (some ⟨g, 0, none⟩) 3 1 1 (some ⟨x, 0, none⟩) (fun _ => 221538) x 0 _ _ w' (by decide) (by decide) (h.szz (by decide) sz_le) (nats_row r (fun _ _ => by decide))
 obtain ⟨e1, e2, e3⟩ := tk_some ab_tk
 rw [e1, e2, e3] at htk
 clear e1 e2 e3
 have hct := fun w' g gr gf (h : GrpAt w' g gr gf 1055500680322183127 1966023127 leG) => ckCount_any (some ⟨g, 0, none⟩) 3 3 w' (by decide) (by decide) (h.szz (by decide) sz_le)
 rw [ck_3] at hct
 have hin := fun w' => rint_yes 221538 w' (by decide) (by decide)
 obtain ⟨ie, hie, hze, hsz, _⟩ := info_nat'
 have hs1 : ¬ 1 * ie.size > 2 ^ 24 := by rw [hsz]; decide
 have hs2 : ¬ 1 * ie.size = 0 := by rw [hsz]; decide
 have hl1 := lit_one 221538 ie.size hsz
 have hsm := fun w' x y (r : Row w' x (nsC 1 (fun _ => 221538)) 27) (q : Row w' y (nsC 1 (fun _ => 221538)) 27) => rsame_yes 1 1 1 (some ⟨x, 0, none⟩) (some ⟨y, 0, none⟩) (fun _ => 221538) x 0 y 0 _ _ _ _ w' (by decide) (nats_row r (fun _ _ => by decide)) (nats_row q (fun _ _ => by decide))
 rw [nsC_1] at hpu htk hsm
 go_enter Tryd.func4, Tryd.ntmps4
 have sb := sbmk w
 (repeat ((fail_if_success with_reducible refine rg ?_); go_step))
 refine wp_region_pw ?_
 refine pw_value (by rfl) (.bool false) (fun _ => rfl) ?_
 simp only [Act.put, List.setIfInBounds_toArray, List.set_cons_zero]
 refine pw_nil ?_
 (repeat ((fail_if_success with_reducible refine rg ?_); go_step))
 refine wp_region_pw ?_
 refine pw_callE (by rfl) 9 _ _ rfl Tryd.func9 (by kernel_rfl) #[] rfl (rleast_any _) ?_
 rintro _ z1000 ⟨gL, rfl, nL, rL, hb⟩
 refine ⟨_, rfl, ?_⟩
 simp only [Act.put, pu]
 have bL := Nat.le_trans sb.size nL
 clear nL
 have k := Kept.ofBelow hb
 clear hb
 replace sb := sb.trans (k.below w.heap.size sb.size (by simp <;> omega))
 clear k
 refine pw_callE (by rfl) 8 _ _ rfl Tryd.func8 (by kernel_rfl) #[.agg (paC (some ⟨gL, 0, none⟩) 3 3 leG)] rfl (hnw _ gL rL) ?_
 rintro _ z1001 ⟨g, gr, gf, rfl, ⟨rG, rR, rF⟩, hb⟩
 refine ⟨_, rfl, ?_⟩
 simp only [Act.put, pu]
 have k := Kept.ofBelow hb
 clear hb
 replace rL := k.row rL (by simp <;> omega)
 replace sb := sb.trans (k.below w.heap.size sb.size (by simp <;> omega))
 clear k
 refine pw_mv (by rfl) rfl rfl ?_
 simp only [Act.put, pu]
 refine pw_ext (by rfl) rfl rfl rfl ?_
 simp only [Act.put, pu]
 refine pw_ext (by rfl) rfl rfl rfl ?_
 simp only [Act.put, pu]
 refine pw_as (by rfl) rfl rfl ?_
 simp only [Act.put, pu]
 refine pw_as (by rfl) rfl rfl ?_
 simp only [Act.put, pu]
 refine pw_nil ?_
 clear hnw rL
 (repeat ((fail_if_success with_reducible refine rg ?_); go_step))
 refine wp_region_pw ?_
 refine pw_mv (by rfl) rfl rfl ?_
 simp only [Act.put, pu]
 refine pw_callE (by rfl) 5 _ _ rfl Tryd.func5 (by kernel_rfl) #[.pointer (some ⟨g, 0, none⟩), .string ⟨(abL).toArray⟩, .bool true] rfl (hpu _ g gr gf ⟨rG, rR, rF⟩) ?_
 rintro _ z2001 ⟨gA, rfl, nA, rA, hb⟩
 refine ⟨_, rfl, ?_⟩
 simp only [Act.put, pu]
 have dGxA := Nat.lt_of_lt_of_le rG.lt nA
 have dRxA := Nat.lt_of_lt_of_le rR.lt nA
 have dFxA := Nat.lt_of_lt_of_le rF.lt nA
 have bA := Nat.le_trans sb.size nA
 clear nA
 have k := Kept.ofBelow hb
 clear hb
 replace rG := k.row rG (by simp <;> omega)
 replace rR := k.row rR (by simp <;> omega)
 replace rF := k.row rF (by simp <;> omega)
 replace sb := sb.trans (k.below w.heap.size sb.size (by simp <;> omega))
 clear k
 refine pw_mv (by rfl) rfl rfl ?_
 simp only [Act.put, pu]
 refine pw_ext (by rfl) rfl rfl rfl ?_
 simp only [Act.put, pu]
 refine pw_ext (by rfl) rfl rfl rfl ?_
 simp only [Act.put, pu]
 refine pw_as (by rfl) rfl rfl ?_
 simp only [Act.put, pu]
 refine pw_as (by rfl) rfl rfl ?_
 simp only [Act.put, pu]
 refine pw_nil ?_
 clear hpu
 (repeat ((fail_if_success with_reducible refine rg ?_); go_step))
 refine wp_region_pw ?_
 refine pw_mv (by rfl) rfl rfl ?_
 simp only [Act.put, pu]
 refine pw_mv (by rfl) rfl rfl ?_
 simp only [Act.put, pu]
 refine pw_callB (by rfl) 6 _ _ rfl Tryd.func6 (by kernel_rfl) #[.pointer (some ⟨g, 0, none⟩), .slice (some ⟨gA, 0, none⟩) 1 1] rfl _ (htk _ g gr gf ⟨rG, rR, rF⟩ gA rA) ?_
 intro z3002 k
 simp only [Act.put, pu]
 replace rG := k.row rG (by simp <;> omega)
 replace rR := k.row rR (by simp <;> omega)
 replace rF := k.row rF (by simp <;> omega)
 replace rA := k.row rA (by simp <;> omega)
 replace sb := sb.trans (k.below w.heap.size sb.size (by simp <;> omega))
 clear k
 refine pw_mv (by rfl) rfl rfl ?_
 simp only [Act.put, pu]
 refine pw_ext (by rfl) rfl rfl rfl ?_
 simp only [Act.put, pu]
 refine pw_ext (by rfl) rfl rfl rfl ?_
 simp only [Act.put, pu]
 refine pw_ext (by rfl) rfl rfl rfl ?_
 simp only [Act.put, pu]
 refine pw_as (by rfl) rfl rfl ?_
 simp only [Act.put, pu]
 refine pw_as (by rfl) rfl rfl ?_
 simp only [Act.put, pu]
 refine pw_as (by rfl) rfl rfl ?_
 simp only [Act.put, pu]
 refine pw_nil ?_
 clear htk
 (repeat ((fail_if_success with_reducible refine rg ?_); go_step))
 refine wp_region_pw ?_
 refine pw_mv (by rfl) rfl rfl ?_
 simp only [Act.put, pu]
 refine pw_value (by rfl) (.bool true) (exec_eql_k .i64 _ _ _ _ rfl 0 0 rfl rfl true rfl) ?_
 simp only [Act.put, pu]
 refine pw_mv (by rfl) rfl rfl ?_
 simp only [Act.put, pu]
 refine pw_mv (by rfl) rfl rfl ?_
 simp only [Act.put, pu]
 refine pw_value (by rfl) (.bool true) (exec_eql_k .i64 _ _ _ _ rfl 0 0 rfl rfl true rfl) ?_
 simp only [Act.put, pu]
 refine pw_pick (by rfl) true (v := .bool true) rfl rfl rfl ?_
 simp only [Act.put, pu]
 refine pw_mv (by rfl) rfl rfl ?_
 simp only [Act.put, pu]
 refine pw_mv (by rfl) rfl rfl ?_
 simp only [Act.put, pu]
 refine pw_callB (by rfl) 11 _ _ rfl Tryd.func11 (by kernel_rfl) #[.int .i64 221538] rfl _ (hin _) ?_
 intro z4008 k
 simp only [Act.put, pu]
 replace rG := k.row rG (by simp <;> omega)
 replace rR := k.row rR (by simp <;> omega)
 replace rF := k.row rF (by simp <;> omega)
 replace rA := k.row rA (by simp <;> omega)
 replace sb := sb.trans (k.below w.heap.size sb.size (by simp <;> omega))
 clear k
 refine pw_litr (by rfl) 22 27 1 _ rfl (natC 221538) ie _ Tryd.underlying22 hie hze hs1 hs2 [(0, .agg (natC 221538))] rfl hl1 ?_
 intro gX z4009 n0 rX k
 simp only [Act.put, pu]
 have dGxX := Nat.lt_of_lt_of_le rG.lt n0
 have dRxX := Nat.lt_of_lt_of_le rR.lt n0
 have dFxX := Nat.lt_of_lt_of_le rF.lt n0
 have dAxX := Nat.lt_of_lt_of_le rA.lt n0
 have bX := Nat.le_trans sb.size n0
 clear n0
 replace rG := k.row rG (by simp <;> omega)
 replace rR := k.row rR (by simp <;> omega)
 replace rF := k.row rF (by simp <;> omega)
 replace rA := k.row rA (by simp <;> omega)
 replace sb := sb.trans (k.below w.heap.size sb.size (by simp <;> omega))
 clear k
 refine pw_callB (by rfl) 10 _ _ rfl Tryd.func10 (by kernel_rfl) #[.slice (some ⟨gA, 0, none⟩) 1 1, .slice (some ⟨gX, 0, none⟩) 1 1] rfl _ (hsm _ gA gX rA rX) ?_
 intro z4010 k
 simp only [Act.put, pu]
 replace rG := k.row rG (by simp <;> omega)
 replace rR := k.row rR (by simp <;> omega)
 replace rF := k.row rF (by simp <;> omega)
 replace rA := k.row rA (by simp <;> omega)
 replace rX := k.row rX (by simp <;> omega)
 replace sb := sb.trans (k.below w.heap.size sb.size (by simp <;> omega))
 clear k
 refine pw_pick (by rfl) true (v := .bool true) rfl rfl rfl ?_
 simp only [Act.put, pu]
 refine pw_mv (by rfl) rfl rfl ?_
 simp only [Act.put, pu]
 refine pw_mv (by rfl) rfl rfl ?_
 simp only [Act.put, pu]
 refine pw_value (by rfl) (.bool true) (y_eqS _ _ _ _ rfl abL abL rfl rfl true rfl) ?_
 simp only [Act.put, pu]
 refine pw_pick (by rfl) true (v := .bool true) rfl rfl rfl ?_
 simp only [Act.put, pu]
 refine pw_mv (by rfl) rfl rfl ?_
 simp only [Act.put, pu]
 refine pw_mv (by rfl) rfl rfl ?_
 simp only [Act.put, pu]
 refine pw_pick (by rfl) true (v := .bool true) rfl rfl rfl ?_
 simp only [Act.put, pu]
 refine pw_mv (by rfl) rfl rfl ?_
 simp only [Act.put, pu]
 refine pw_mv (by rfl) rfl rfl ?_
 simp only [Act.put, pu]
 refine pw_value (by rfl) (.bool true) (exec_eql_k .i64 _ _ _ _ rfl 0 0 rfl rfl true rfl) ?_
 simp only [Act.put, pu]
 refine pw_pick (by rfl) true (v := .bool true) rfl rfl rfl ?_
 simp only [Act.put, pu]
 refine pw_mv (by rfl) rfl rfl ?_
 simp only [Act.put, pu]
 refine pw_mv (by rfl) rfl rfl ?_
 simp only [Act.put, pu]
 refine pw_callB (by rfl) 7 _ _ rfl Tryd.func7 (by kernel_rfl) #[.pointer (some ⟨g, 0, none⟩), .int .i64 3] rfl _ (hct _ g gr gf ⟨rG, rR, rF⟩) ?_
 intro z4025 k
 simp only [Act.put, pu]
 replace rG := k.row rG (by simp <;> omega)
 replace rR := k.row rR (by simp <;> omega)
 replace rF := k.row rF (by simp <;> omega)
 replace rA := k.row rA (by simp <;> omega)
 replace rX := k.row rX (by simp <;> omega)
 replace sb := sb.trans (k.below w.heap.size sb.size (by simp <;> omega))
 clear k
 refine pw_value (by rfl) (.bool true) (exec_eql_k .i64 _ _ _ _ rfl 2 2 rfl rfl true rfl) ?_
 simp only [Act.put, pu]
 refine pw_pick (by rfl) true (v := .bool true) rfl rfl rfl ?_
 simp only [Act.put, pu]
 refine pw_as (by rfl) rfl rfl ?_
 simp only [Act.put, List.setIfInBounds_toArray, List.set_cons_zero]
 refine pw_nil ?_
 go_wp2
 go_ret
 exact ⟨rfl, sb⟩
end Go.Proofs.YtdemabfpcepnfaaDoor
/- params of layer 11's laws: one of the three groups; their sizes. -/
namespace Go.Proofs.YtdemabfpcepnfaaDoor
open Go.RowKit
set_option linter.unusedVariables false
theorem pk_size (m : Nat) : sizeZ (lN (pk m leL otL grL) (pk m 3 3 5 - 2)) = ((pk m 3 3 14 : Nat) : Int) ∧ 0 < pk m 3 3 14 ∧ pk m 3 3 14 ≤ 32 ∧ 2 ^ (8 * pk m 3 3 14) ≤ lN (pk m leL otL grL) (pk m 3 3 5 - 2) := by
 unfold pk
 split
 ·exact ⟨by decide +kernel, by decide, by decide, by decide⟩
 ·split
  ·exact ⟨by decide +kernel, by decide, by decide, by decide⟩
  ·exact ⟨by decide +kernel, by decide, by decide, by decide⟩
end Go.Proofs.YtdemabfpcepnfaaDoor
