/- params of layer 11's laws: one of the three groups; their sizes. -/
import Derived.Test.YtdemabfpcepnfaaGreatDoorCkAwake
import Derived.Test.YtdemabfpcepnfaaGreatDoorGW
namespace Go.Proofs.YtdemabfpcepnfaaGreatDoor
open Go.RowKit
set_option linter.unusedVariables false
theorem pk_size (m : Nat) : sizeZ (lN (pk m leL otL grL) (pk m 3 3 5 - 2)) = ((pk m 3 3 14 : Nat) : Int) ∧ 0 < pk m 3 3 14 ∧ pk m 3 3 14 ≤ 32 ∧ 2 ^ (8 * pk m 3 3 14) ≤ lN (pk m leL otL grL) (pk m 3 3 5 - 2) := by
 unfold pk
 split
 ·exact ⟨by decide +kernel, by decide, by decide, by decide⟩
 ·split
  ·exact ⟨by decide +kernel, by decide, by decide, by decide⟩
  ·exact ⟨by decide +kernel, by decide, by decide, by decide⟩
set_option maxRecDepth 100000 in
set_option maxHeartbeats 2000000 in
theorem params_core (a0 : Int) (m0 mm n0 n1 n2 G0 G1 G2 : Nat) (L0 L1 L2 : Array Value) (w : World) (hm0 : bits .and .i64 a0 255 = (m0 : Int)) (hmm : m0 % 3 = mm)
  (hA0 : ∀ w', Calls Tryz.prog 18 #[] w' fun e w2 => ∃ g, e = .returned (.agg (paC (some ⟨g, 0, none⟩) n0 n0 G0)) ∧ w'.heap.size ≤ g ∧ Row w2 g L0 81 ∧ Below w'.heap.size w' w2)
  (hA1 : ∀ w', Calls Tryz.prog 20 #[] w' fun e w2 => ∃ g, e = .returned (.agg (paC (some ⟨g, 0, none⟩) n1 n1 G1)) ∧ w'.heap.size ≤ g ∧ Row w2 g L1 81 ∧ Below w'.heap.size w' w2)
  (hA2 : ∀ w', Calls Tryz.prog 21 #[] w' fun e w2 => ∃ g, e = .returned (.agg (paC (some ⟨g, 0, none⟩) n2 n2 G2)) ∧ w'.heap.size ≤ g ∧ Row w2 g L2 81 ∧ Below w'.heap.size w' w2) :
  Calls Tryz.prog 7 #[.int .i64 a0] w fun e w' => ∃ g, e = .returned (.agg (paC (some ⟨g, 0, none⟩) (pk mm n0 n1 n2) (pk mm n0 n1 n2) (pk mm G0 G1 G2))) ∧ w.heap.size ≤ g ∧ Row w' g (pk mm L0 L1 L2) 81 ∧ Below w.heap.size w w' := by
 obtain ⟨ie, hie, hz, hsz⟩ := info_pa'
 have hs1 : ¬ 3 * ie.size > 2 ^ 24 := by rw [hsz]; decide
 have hs2 : ¬ 3 * ie.size = 0 := by rw [hsz]; decide
 have hl := fun x y z n m l X Y Z => lit_pas x y z n m l X Y Z ie.size hsz
 have hm3 : mm < 3 := by rw [← hmm]; exact Nat.mod_lt _ (by decide)
 have hpp := fun x y z => pas_part x y z n0 n1 n2 G0 G1 G2 mm hm3
 simp only [Nat.zero_add] at hpp
 go_enter Tryz.func7, Tryz.ntmps7
 (repeat ((fail_if_success with_reducible refine rg ?_); go_step))
 refine wp_region_pw ?_
 refine pw_new (by rfl) 28 rfl _ zero_pa ?_
 intro g2 z0 n0 r2 k
 simp only [Act.put, pu]
 have b2 : w.heap.size ≤ g2 := n0
 clear n0
 have sb := k.below w.heap.size (Nat.le_refl _) (by simp)
 clear k
 refine pw_nil ?_
 (repeat ((fail_if_success with_reducible refine rg ?_); go_step))
 refine wp_region_pw ?_
 refine pw_callE (by rfl) 18 _ _ rfl Tryz.func18 (by kernel_rfl) #[] rfl (hA0 _) ?_
 rintro _ z1000 ⟨gU, rfl, nU, rU, hb⟩
 refine ⟨_, rfl, ?_⟩
 simp only [Act.put, pu]
 have d2xU := Nat.lt_of_lt_of_le r2.lt nU
 have bU := Nat.le_trans sb.size nU
 clear nU
 have k := Kept.ofBelow hb
 clear hb
 replace r2 := k.row r2 (by simp <;> omega)
 replace sb := sb.trans (k.below w.heap.size sb.size (by simp <;> omega))
 clear k
 refine pw_callE (by rfl) 20 _ _ rfl Tryz.func20 (by kernel_rfl) #[] rfl (hA1 _) ?_
 rintro _ z1001 ⟨gV, rfl, nV, rV, hb⟩
 refine ⟨_, rfl, ?_⟩
 simp only [Act.put, pu]
 have d2xV := Nat.lt_of_lt_of_le r2.lt nV
 have dUxV := Nat.lt_of_lt_of_le rU.lt nV
 have bV := Nat.le_trans sb.size nV
 clear nV
 have k := Kept.ofBelow hb
 clear hb
 replace r2 := k.row r2 (by simp <;> omega)
 replace rU := k.row rU (by simp <;> omega)
 replace sb := sb.trans (k.below w.heap.size sb.size (by simp <;> omega))
 clear k
 refine pw_callE (by rfl) 21 _ _ rfl Tryz.func21 (by kernel_rfl) #[] rfl (hA2 _) ?_
 rintro _ z1002 ⟨gW, rfl, nW, rW, hb⟩
 refine ⟨_, rfl, ?_⟩
 simp only [Act.put, pu]
 have d2xW := Nat.lt_of_lt_of_le r2.lt nW
 have dUxW := Nat.lt_of_lt_of_le rU.lt nW
 have dVxW := Nat.lt_of_lt_of_le rV.lt nW
 have bW := Nat.le_trans sb.size nW
 clear nW
 have k := Kept.ofBelow hb
 clear hb
 replace r2 := k.row r2 (by simp <;> omega)
 replace rU := k.row rU (by simp <;> omega)
 replace rV := k.row rV (by simp <;> omega)
 replace sb := sb.trans (k.below w.heap.size sb.size (by simp <;> omega))
 clear k
 refine pw_litr (by rfl) 51 28 3 _ rfl (pasC (some ⟨gU, 0, none⟩) (some ⟨gV, 0, none⟩) (some ⟨gW, 0, none⟩) n0 n1 n2 G0 G1 G2) ie _ Tryz.underlying51 hie hz hs1 hs2 [(0, .agg (paC (some ⟨gU, 0, none⟩) n0 n0 G0)), (1, .agg (paC (some ⟨gV, 0, none⟩) n1 n1 G1)), (2, .agg (paC (some ⟨gW, 0, none⟩) n2 n2 G2))] rfl (hl _ _ _ _ _ _ _ _ _) ?_
 intro gA z1003 n0 rA k
 simp only [Act.put, pu]
 have d2xA := Nat.lt_of_lt_of_le r2.lt n0
 have dUxA := Nat.lt_of_lt_of_le rU.lt n0
 have dVxA := Nat.lt_of_lt_of_le rV.lt n0
 have dWxA := Nat.lt_of_lt_of_le rW.lt n0
 have bA := Nat.le_trans sb.size n0
 clear n0
 replace r2 := k.row r2 (by simp <;> omega)
 replace rU := k.row rU (by simp <;> omega)
 replace rV := k.row rV (by simp <;> omega)
 replace rW := k.row rW (by simp <;> omega)
 replace sb := sb.trans (k.below w.heap.size sb.size (by simp <;> omega))
 clear k
 refine pw_mv (by rfl) rfl rfl ?_
 simp only [Act.put, pu]
 refine pw_value (by rfl) (.int .i64 (m0 : Nat)) (fun w' => (exec_bits_i .and _ _ _ _ (.inl rfl) rfl a0 255 rfl rfl w').trans (by rw [hm0])) ?_
 simp only [Act.put, pu]
 refine pw_value (by rfl) (.int .i64 (mm : Nat)) (fun w' => (exec_rem_i _ _ _ _ rfl m0 3 rfl rfl (by decide) w').trans (by rw [hmm])) ?_
 simp only [Act.put, pu]
 refine pw_value (by rfl) (.pointer (some ⟨gA, mm * 5, none⟩)) (fun w' => (exec_index_s 51 _ _ rfl gA 0 3 3 rfl mm rfl hm3 _ Tryz.underlying51 5 Tryz.sizeOf28 w').trans (by rw [Nat.zero_add])) ?_
 simp only [Act.put, pu]
 refine pw_loadm (by rfl) 28 _ rfl _ (mm * 5) rfl rA.r (paC (some ⟨pk mm gU gV gW, 0, none⟩) (pk mm n0 n1 n2) (pk mm n0 n1 n2) (pk mm G0 G1 G2)) (hpp gU gV gW) _ Tryz.underlying28 rfl size_pa ?_
 simp only [Act.put, pu]
 refine pw_put (by rfl) 28 _ _ rfl _ rfl r2 (paC (some ⟨pk mm gU gV gW, 0, none⟩) (pk mm n0 n1 n2) (pk mm n0 n1 n2) (pk mm G0 G1 G2)) rfl (by exact size_pa) (by rfl) (pa_one _ _ _ _) ?_
 clear r2
 intro z1009 r2 k
 simp only [Act.put]
 replace rU := k.row rU (by simp <;> omega)
 replace rV := k.row rV (by simp <;> omega)
 replace rW := k.row rW (by simp <;> omega)
 replace rA := k.row rA (by simp <;> omega)
 replace sb := sb.trans (k.below w.heap.size sb.size (by simp <;> omega))
 clear k
 refine pw_nil ?_
 have rP := pk_row mm rU rV rW
 go_wp2
 exact ret_rowd rfl _ rfl r2 _ Tryz.underlying28 (by exact size_pa) rfl ⟨pk mm gU gV gW, rfl, by unfold pk; split; exact bU; split; exact bV; exact bW, rP, sb⟩
theorem params_any (a0 : Int) (w : World) :
  Calls Tryz.prog 7 #[.int .i64 a0] w fun e w' => ∃ g, e = .returned (.agg (paC (some ⟨g, 0, none⟩) (pk (ly8 a0 % 3) 3 3 5) (pk (ly8 a0 % 3) 3 3 5) (pk (ly8 a0 % 3) leG otG grG))) ∧ w.heap.size ≤ g ∧ Row w' g (pk (ly8 a0 % 3) (lksC 3 (lN leL) twoA) (lksC 3 (lN otL) twoA) (lksC 5 (lN grL) twoA)) 81 ∧ Below w.heap.size w w' :=
 params_core a0 (ly8 a0) (ly8 a0 % 3) 3 3 5 leG otG grG _ _ _ w (and_ly8 a0) rfl rleast_any rother_any rgreat_any
end Go.Proofs.YtdemabfpcepnfaaGreatDoor
