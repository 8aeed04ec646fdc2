/- FieldIs: for every number and every two naturals: the numbers below a given group's Q are a field; no condition. -/
import Derived.Test.YteddgjoailpgaaaFA
import Derived.Test.YteddgjoailpgaaaGW
import Derived.Test.YteddgjoailpgaaaGU
namespace Go.Proofs.Yteddgjoailpgaaa
open Go.ChangeShapes Go.WideShapes Go.ChangeAt Go.RowKit
namespace fieldIsP
set_option maxRecDepth 100000 in
set_option maxHeartbeats 2000000 in
theorem core (a0 : Int) (m0 m A B C X S U V M1 M2 M3 M4 D IV GG PP QQ n0 n1 n2 G0 G1 G2 : Nat) (L0 L1 L2 : Array Value) (w : World) (hm0 : bits .and .i64 a0 255 = (m0 : Int)) (hm : m0 % 3 = m)
  (hC : natC C = #[.int .u64 (lm B 1 : Nat), .int .u64 (lm A 0 : Nat), .int .u64 (lm B 3 : Nat), .int .u64 (lm A 2 : Nat)])
  (hA0 : ∀ w', Calls Try.prog 35 #[] w' fun e w2 => ∃ g, e = .returned (.agg (paC (some ⟨g, 0, none⟩) n0 n0 G0)) ∧ w'.heap.size ≤ g ∧ Row w2 g L0 79 ∧ Below w'.heap.size w' w2)
  (hA1 : ∀ w', Calls Try.prog 36 #[] w' fun e w2 => ∃ g, e = .returned (.agg (paC (some ⟨g, 0, none⟩) n1 n1 G1)) ∧ w'.heap.size ≤ g ∧ Row w2 g L1 79 ∧ Below w'.heap.size w' w2)
  (hA2 : ∀ w', Calls Try.prog 37 #[] w' fun e w2 => ∃ g, e = .returned (.agg (paC (some ⟨g, 0, none⟩) n2 n2 G2)) ∧ w'.heap.size ≤ g ∧ Row w2 g L2 79 ∧ Below w'.heap.size w' w2)
  (hnw : ∀ w' x, Row w' x (pk m L0 L1 L2) 79 → Calls Try.prog 19 #[.agg (paC (some ⟨x, 0, none⟩) (pk m n0 n1 n2) (pk m n0 n1 n2) (pk m G0 G1 G2))] w' fun e w2 => ∃ g gr gf, e = .returned (.tuple #[.pointer (some ⟨g, 0, none⟩), .int .i64 0]) ∧ GrpAt w2 g gr gf PP QQ GG ∧ Below w'.heap.size w' w2)
  (hx1 : ∀ w' g gr gf, GrpAt w' g gr gf PP QQ GG → Calls Try.prog 24 #[.pointer (some ⟨g, 0, none⟩), .agg (natC A), .agg (natC 0)] w' fun e w2 => e = .returned (.agg (natC X)) ∧ Below w'.heap.size w' w2)
  (hs1 : ∀ w' g gr gf, GrpAt w' g gr gf PP QQ GG → Calls Try.prog 24 #[.pointer (some ⟨g, 0, none⟩), .agg (natC A), .agg (natC B)] w' fun e w2 => e = .returned (.agg (natC S)) ∧ Below w'.heap.size w' w2)
  (hs2 : ∀ w' g gr gf, GrpAt w' g gr gf PP QQ GG → Calls Try.prog 24 #[.pointer (some ⟨g, 0, none⟩), .agg (natC B), .agg (natC A)] w' fun e w2 => e = .returned (.agg (natC S)) ∧ Below w'.heap.size w' w2)
  (hs3 : ∀ w' g gr gf, GrpAt w' g gr gf PP QQ GG → Calls Try.prog 24 #[.pointer (some ⟨g, 0, none⟩), .agg (natC S), .agg (natC C)] w' fun e w2 => e = .returned (.agg (natC U)) ∧ Below w'.heap.size w' w2)
  (hs4 : ∀ w' g gr gf, GrpAt w' g gr gf PP QQ GG → Calls Try.prog 24 #[.pointer (some ⟨g, 0, none⟩), .agg (natC B), .agg (natC C)] w' fun e w2 => e = .returned (.agg (natC V)) ∧ Below w'.heap.size w' w2)
  (hs5 : ∀ w' g gr gf, GrpAt w' g gr gf PP QQ GG → Calls Try.prog 24 #[.pointer (some ⟨g, 0, none⟩), .agg (natC A), .agg (natC V)] w' fun e w2 => e = .returned (.agg (natC U)) ∧ Below w'.heap.size w' w2)
  (hs6 : ∀ w' g gr gf, GrpAt w' g gr gf PP QQ GG → Calls Try.prog 27 #[.pointer (some ⟨g, 0, none⟩), .agg (natC S), .agg (natC B)] w' fun e w2 => e = .returned (.agg (natC X)) ∧ Below w'.heap.size w' w2)
  (hm1 : ∀ w' g gr gf, GrpAt w' g gr gf PP QQ GG → Calls Try.prog 29 #[.pointer (some ⟨g, 0, none⟩), .agg (natC A), .agg (natC B)] w' fun e w2 => e = .returned (.agg (natC M1)) ∧ Below w'.heap.size w' w2)
  (hm2 : ∀ w' g gr gf, GrpAt w' g gr gf PP QQ GG → Calls Try.prog 29 #[.pointer (some ⟨g, 0, none⟩), .agg (natC B), .agg (natC A)] w' fun e w2 => e = .returned (.agg (natC M1)) ∧ Below w'.heap.size w' w2)
  (hm3 : ∀ w' g gr gf, GrpAt w' g gr gf PP QQ GG → Calls Try.prog 29 #[.pointer (some ⟨g, 0, none⟩), .agg (natC M1), .agg (natC C)] w' fun e w2 => e = .returned (.agg (natC M2)) ∧ Below w'.heap.size w' w2)
  (hm4 : ∀ w' g gr gf, GrpAt w' g gr gf PP QQ GG → Calls Try.prog 29 #[.pointer (some ⟨g, 0, none⟩), .agg (natC B), .agg (natC C)] w' fun e w2 => e = .returned (.agg (natC M3)) ∧ Below w'.heap.size w' w2)
  (hm5 : ∀ w' g gr gf, GrpAt w' g gr gf PP QQ GG → Calls Try.prog 29 #[.pointer (some ⟨g, 0, none⟩), .agg (natC A), .agg (natC M3)] w' fun e w2 => e = .returned (.agg (natC M2)) ∧ Below w'.heap.size w' w2)
  (hm6 : ∀ w' g gr gf, GrpAt w' g gr gf PP QQ GG → Calls Try.prog 29 #[.pointer (some ⟨g, 0, none⟩), .agg (natC A), .agg (natC 1)] w' fun e w2 => e = .returned (.agg (natC X)) ∧ Below w'.heap.size w' w2)
  (ho1 : ∀ w' g gr gf, GrpAt w' g gr gf PP QQ GG → Calls Try.prog 29 #[.pointer (some ⟨g, 0, none⟩), .agg (natC A), .agg (natC V)] w' fun e w2 => e = .returned (.agg (natC D)) ∧ Below w'.heap.size w' w2)
  (ho2 : ∀ w' g gr gf, GrpAt w' g gr gf PP QQ GG → Calls Try.prog 29 #[.pointer (some ⟨g, 0, none⟩), .agg (natC A), .agg (natC C)] w' fun e w2 => e = .returned (.agg (natC M4)) ∧ Below w'.heap.size w' w2)
  (ho3 : ∀ w' g gr gf, GrpAt w' g gr gf PP QQ GG → Calls Try.prog 24 #[.pointer (some ⟨g, 0, none⟩), .agg (natC M1), .agg (natC M4)] w' fun e w2 => e = .returned (.agg (natC D)) ∧ Below w'.heap.size w' w2)
  (hiv : ∀ w' g gr gf, GrpAt w' g gr gf PP QQ GG → Calls Try.prog 31 #[.pointer (some ⟨g, 0, none⟩), .agg (natC A)] w' fun e w2 => e = .returned (.agg (natC IV)) ∧ Below w'.heap.size w' w2)
  (hin : ∀ w' g gr gf, GrpAt w' g gr gf PP QQ GG → Calls Try.prog 23 #[.pointer (some ⟨g, 0, none⟩), .agg (natC X)] w' fun e w2 => e = .returned (.bool true) ∧ Below w'.heap.size w' w2)
  (hcs : (X = 0 ∧ IV = 0) ∨ (decide (X % 2 ^ 256 = 0 % 2 ^ 256) = false ∧ (∀ w' g gr gf, GrpAt w' g gr gf PP QQ GG → Calls Try.prog 29 #[.pointer (some ⟨g, 0, none⟩), .agg (natC A), .agg (natC IV)] w' fun e w2 => e = .returned (.agg (natC 1)) ∧ Below w'.heap.size w' w2))) :
  Calls Try.prog 7 #[.int .i64 a0, .agg (natC A), .agg (natC B)] w fun e w' => e = .returned (.bool true) ∧ Below w.heap.size w w' := by
 obtain ⟨ie, hie, hz, hsz⟩ := info_pa'
 have hp1 : ¬ 3 * ie.size > 2 ^ 24 := by rw [hsz]; decide
 have hp2 : ¬ 3 * ie.size = 0 := by rw [hsz]; decide
 have hl := fun x y z n m l X Y Z => lit_pas x y z n m l X Y Z ie.size hsz
 have hm3' : m < 3 := by rw [← hm]; exact Nat.mod_lt _ (by decide)
 have haw := awake8_any
 have of1 := fun w' => of8_any 1 w' (by decide)
 go_enter Try.func7, Try.ntmps7
 (repeat ((fail_if_success with_reducible refine rg ?_); go_step))
 refine wp_region_pw ?_
 refine pw_boxr (by rfl) 24 _ rfl (_) rfl ?_
 intro g4 z0 n0 r4 k
 simp only [Act.put, pu]
 have b4 : w.heap.size ≤ g4 := n0
 clear n0
 have sb := k.below w.heap.size (Nat.le_refl _) (by simp)
 clear k
 refine pw_boxr (by rfl) 24 _ rfl (_) rfl ?_
 intro g5 z1 n0 r5 k
 simp only [Act.put, pu]
 have d4x5 := Nat.lt_of_lt_of_le r4.lt n0
 have b5 := Nat.le_trans sb.size n0
 clear n0
 replace r4 := k.row r4 (by simp <;> omega)
 replace sb := sb.trans (k.below w.heap.size sb.size (by simp <;> omega))
 clear k
 refine pw_value (by rfl) (.bool false) (fun _ => rfl) ?_
 simp only [Act.put, pu]
 refine pw_nil ?_
 (repeat ((fail_if_success with_reducible refine rg ?_); go_step))
 refine wp_region_pw ?_
 refine pw_callE (by rfl) 35 _ _ rfl Try.func35 (by kernel_rfl) #[] rfl (hA0 _) ?_
 rintro _ z1000 ⟨gU, rfl, nU, rU, hb⟩
 refine ⟨_, rfl, ?_⟩
 simp only [Act.put, pu]
 have d4xU := Nat.lt_of_lt_of_le r4.lt nU
 have d5xU := Nat.lt_of_lt_of_le r5.lt nU
 have bU := Nat.le_trans sb.size nU
 clear nU
 have k := Kept.ofBelow hb
 clear hb
 replace r4 := k.row r4 (by simp <;> omega)
 replace r5 := k.row r5 (by simp <;> omega)
 replace sb := sb.trans (k.below w.heap.size sb.size (by simp <;> omega))
 clear k
 refine pw_callE (by rfl) 36 _ _ rfl Try.func36 (by kernel_rfl) #[] rfl (hA1 _) ?_
 rintro _ z1001 ⟨gV, rfl, nV, rV, hb⟩
 refine ⟨_, rfl, ?_⟩
 simp only [Act.put, pu]
 have d4xV := Nat.lt_of_lt_of_le r4.lt nV
 have d5xV := Nat.lt_of_lt_of_le r5.lt nV
 have dUxV := Nat.lt_of_lt_of_le rU.lt nV
 have bV := Nat.le_trans sb.size nV
 clear nV
 have k := Kept.ofBelow hb
 clear hb
 replace r4 := k.row r4 (by simp <;> omega)
 replace r5 := k.row r5 (by simp <;> omega)
 replace rU := k.row rU (by simp <;> omega)
 replace sb := sb.trans (k.below w.heap.size sb.size (by simp <;> omega))
 clear k
 refine pw_callE (by rfl) 37 _ _ rfl Try.func37 (by kernel_rfl) #[] rfl (hA2 _) ?_
 rintro _ z1002 ⟨gW, rfl, nW, rW, hb⟩
 refine ⟨_, rfl, ?_⟩
 simp only [Act.put, pu]
 have d4xW := Nat.lt_of_lt_of_le r4.lt nW
 have d5xW := Nat.lt_of_lt_of_le r5.lt nW
 have dUxW := Nat.lt_of_lt_of_le rU.lt nW
 have dVxW := Nat.lt_of_lt_of_le rV.lt nW
 have bW := Nat.le_trans sb.size nW
 clear nW
 have k := Kept.ofBelow hb
 clear hb
 replace r4 := k.row r4 (by simp <;> omega)
 replace r5 := k.row r5 (by simp <;> omega)
 replace rU := k.row rU (by simp <;> omega)
 replace rV := k.row rV (by simp <;> omega)
 replace sb := sb.trans (k.below w.heap.size sb.size (by simp <;> omega))
 clear k
 refine pw_litr (by rfl) 53 33 3 _ rfl (pasC (some ⟨gU, 0, none⟩) (some ⟨gV, 0, none⟩) (some ⟨gW, 0, none⟩) n0 n1 n2 G0 G1 G2) ie _ Try.underlying53 hie hz hp1 hp2 [(0, .agg (paC (some ⟨gU, 0, none⟩) n0 n0 G0)), (1, .agg (paC (some ⟨gV, 0, none⟩) n1 n1 G1)), (2, .agg (paC (some ⟨gW, 0, none⟩) n2 n2 G2))] rfl (hl _ _ _ _ _ _ _ _ _) ?_
 intro gT z1003 n0 rT k
 simp only [Act.put, pu]
 have d4xT := Nat.lt_of_lt_of_le r4.lt n0
 have d5xT := Nat.lt_of_lt_of_le r5.lt n0
 have dUxT := Nat.lt_of_lt_of_le rU.lt n0
 have dVxT := Nat.lt_of_lt_of_le rV.lt n0
 have dWxT := Nat.lt_of_lt_of_le rW.lt n0
 have bT := Nat.le_trans sb.size n0
 clear n0
 replace r4 := k.row r4 (by simp <;> omega)
 replace r5 := k.row r5 (by simp <;> omega)
 replace rU := k.row rU (by simp <;> omega)
 replace rV := k.row rV (by simp <;> omega)
 replace rW := k.row rW (by simp <;> omega)
 replace sb := sb.trans (k.below w.heap.size sb.size (by simp <;> omega))
 clear k
 refine pw_mv (by rfl) rfl rfl ?_
 simp only [Act.put, pu]
 refine pw_value (by rfl) (.int .i64 (m0 : Nat)) (fun w' => (exec_bits_i .and _ _ _ _ (.inl rfl) rfl a0 255 rfl rfl w').trans (by rw [hm0])) ?_
 simp only [Act.put, pu]
 refine pw_value (by rfl) (.int .i64 (m : Nat)) (fun w' => (exec_rem_i _ _ _ _ rfl m0 3 rfl rfl (by decide) w').trans (by rw [hm])) ?_
 simp only [Act.put, pu]
 refine pw_value (by rfl) (.pointer (some ⟨gT, 0 + m * 5, none⟩)) (exec_index_s 53 _ _ rfl gT 0 3 3 rfl m rfl hm3' _ Try.underlying53 5 Try.sizeOf33) ?_
 simp only [Act.put, pu]
 refine pw_loadm (by rfl) 33 _ rfl _ (0 + m * 5) rfl rT.r (paC (some ⟨pk m gU gV gW, 0, none⟩) (pk m n0 n1 n2) (pk m n0 n1 n2) (pk m G0 G1 G2)) (pas_part gU gV gW n0 n1 n2 G0 G1 G2 m hm3') _ Try.underlying33 rfl size_pa ?_
 simp only [Act.put, pu]
 refine pw_new (by rfl) 33 rfl _ zero_pa ?_
 intro g7 z1009 n0 r7 k
 simp only [Act.put, pu]
 have d4x7 := Nat.lt_of_lt_of_le r4.lt n0
 have d5x7 := Nat.lt_of_lt_of_le r5.lt n0
 have dUx7 := Nat.lt_of_lt_of_le rU.lt n0
 have dVx7 := Nat.lt_of_lt_of_le rV.lt n0
 have dWx7 := Nat.lt_of_lt_of_le rW.lt n0
 have dTx7 := Nat.lt_of_lt_of_le rT.lt n0
 have b7 := Nat.le_trans sb.size n0
 clear n0
 replace r4 := k.row r4 (by simp <;> omega)
 replace r5 := k.row r5 (by simp <;> omega)
 replace rU := k.row rU (by simp <;> omega)
 replace rV := k.row rV (by simp <;> omega)
 replace rW := k.row rW (by simp <;> omega)
 replace rT := k.row rT (by simp <;> omega)
 replace sb := sb.trans (k.below w.heap.size sb.size (by simp <;> omega))
 clear k
 refine pw_put (by rfl) 33 _ _ rfl _ rfl r7 (paC (some ⟨pk m gU gV gW, 0, none⟩) (pk m n0 n1 n2) (pk m n0 n1 n2) (pk m G0 G1 G2)) rfl (by exact size_pa) (by rfl) (pa_one _ _ _ _) ?_
 clear r7
 intro z1010 r7 k
 simp only [Act.put]
 replace r4 := k.row r4 (by simp <;> omega)
 replace r5 := k.row r5 (by simp <;> omega)
 replace rU := k.row rU (by simp <;> omega)
 replace rV := k.row rV (by simp <;> omega)
 replace rW := k.row rW (by simp <;> omega)
 replace rT := k.row rT (by simp <;> omega)
 replace sb := sb.trans (k.below w.heap.size sb.size (by simp <;> omega))
 clear k
 refine pw_nil ?_
 have rP := pk_row m rU rV rW
 clear rU rV rW rT hA0 hA1 hA2 hl hie hz hp1 hp2 hsz
 generalize pk m gU gV gW = gP at *
 generalize pk m n0 n1 n2 = N1 at *
 generalize pk m G0 G1 G2 = G3 at *
 generalize pk m L0 L1 L2 = LK at *
 (repeat ((fail_if_success with_reducible refine rg ?_); go_step))
 refine wp_region_pw ?_
 refine pw_loadm (by rfl) 33 _ rfl _ 0 rfl r7.r _ (part_all _) _ Try.underlying33 rfl size_pa ?_
 simp only [Act.put, pu]
 refine pw_callE (by rfl) 19 _ _ rfl Try.func19 (by kernel_rfl) #[.agg (paC (some ⟨gP, 0, none⟩) N1 N1 G3)] rfl (hnw _ gP rP) ?_
 rintro _ z2001 ⟨g, gr, gf, rfl, ⟨rG, rR, rF⟩, hb⟩
 refine ⟨_, rfl, ?_⟩
 simp only [Act.put, pu]
 have k := Kept.ofBelow hb
 clear hb
 replace r4 := k.row r4 (by simp <;> omega)
 replace r5 := k.row r5 (by simp <;> omega)
 replace r7 := k.row r7 (by simp <;> omega)
 replace rP := k.row rP (by simp <;> omega)
 replace sb := sb.trans (k.below w.heap.size sb.size (by simp <;> omega))
 clear k
 refine pw_mv (by rfl) rfl rfl ?_
 simp only [Act.put, pu]
 refine pw_ext (by rfl) rfl rfl rfl ?_
 simp only [Act.put, pu]
 refine pw_ext (by rfl) rfl rfl rfl ?_
 simp only [Act.put, pu]
 refine pw_as (by rfl) rfl rfl ?_
 simp only [Act.put, pu]
 refine pw_as (by rfl) rfl rfl ?_
 simp only [Act.put, pu]
 refine pw_nil ?_
 clear hnw rP r7
 (repeat ((fail_if_success with_reducible refine rg ?_); go_step))
 refine wp_region_pw ?_
 refine pw_mv (by rfl) rfl rfl ?_
 simp only [Act.put, pu]
 refine pw_value (by rfl) (.bool false) (exec_neq_k .i64 _ _ _ _ rfl 0 0 rfl rfl false rfl) ?_
 simp only [Act.put, pu]
 refine pw_nil ?_
 (repeat ((fail_if_success with_reducible refine rg ?_); go_step))
 refine wp_region_pw ?_
 refine pw_value (by rfl) (.pointer (some ⟨g5, 1, none⟩)) (exec_index 24 _ _ rfl g5 rfl 1 4 rfl (by decide) _ Try.underlying24 Try.sizeOf22) ?_
 simp only [Act.put, pu]
 refine pw_loadk (by rfl) 22 _ rfl _ (1) rfl r5.r (.int .u64 (lm B 1 : Nat)) rfl Try.isAgg22 ?_
 simp only [Act.put, pu]
 refine pw_value (by rfl) (.pointer (some ⟨g4, 0, none⟩)) (exec_index 24 _ _ rfl g4 rfl 0 4 rfl (by decide) _ Try.underlying24 Try.sizeOf22) ?_
 simp only [Act.put, pu]
 refine pw_loadk (by rfl) 22 _ rfl _ (0) rfl r4.r (.int .u64 (lm A 0 : Nat)) rfl Try.isAgg22 ?_
 simp only [Act.put, pu]
 refine pw_value (by rfl) (.pointer (some ⟨g5, 3, none⟩)) (exec_index 24 _ _ rfl g5 rfl 3 4 rfl (by decide) _ Try.underlying24 Try.sizeOf22) ?_
 simp only [Act.put, pu]
 refine pw_loadk (by rfl) 22 _ rfl _ (3) rfl r5.r (.int .u64 (lm B 3 : Nat)) rfl Try.isAgg22 ?_
 simp only [Act.put, pu]
 refine pw_value (by rfl) (.pointer (some ⟨g4, 2, none⟩)) (exec_index 24 _ _ rfl g4 rfl 2 4 rfl (by decide) _ Try.underlying24 Try.sizeOf22) ?_
 simp only [Act.put, pu]
 refine pw_loadk (by rfl) 22 _ rfl _ (2) rfl r4.r (.int .u64 (lm A 2 : Nat)) rfl Try.isAgg22 ?_
 simp only [Act.put, pu]
 refine pw_value (by rfl) (.agg (natC C)) (exec_lit4 rfl _ _ _ _ rfl rfl rfl rfl hC) ?_
 simp only [Act.put, pu]
 refine pw_new (by rfl) 24 rfl _ zero_nat ?_
 intro g10 z5009 n0 r10 k
 simp only [Act.put, pu]
 have d4x10 := Nat.lt_of_lt_of_le r4.lt n0
 have d5x10 := Nat.lt_of_lt_of_le r5.lt n0
 have dGx10 := Nat.lt_of_lt_of_le rG.lt n0
 have dRx10 := Nat.lt_of_lt_of_le rR.lt n0
 have dFx10 := Nat.lt_of_lt_of_le rF.lt n0
 have b10 := Nat.le_trans sb.size n0
 clear n0
 replace r4 := k.row r4 (by simp <;> omega)
 replace r5 := k.row r5 (by simp <;> omega)
 replace rG := k.row rG (by simp <;> omega)
 replace rR := k.row rR (by simp <;> omega)
 replace rF := k.row rF (by simp <;> omega)
 replace sb := sb.trans (k.below w.heap.size sb.size (by simp <;> omega))
 clear k
 refine pw_put (by rfl) 24 _ _ rfl _ rfl r10 (natC C) rfl (by exact size_nat) (by simp only [natC_size]) (natC_one _) ?_
 clear r10
 intro z5010 r10 k
 simp only [Act.put]
 replace r4 := k.row r4 (by simp <;> omega)
 replace r5 := k.row r5 (by simp <;> omega)
 replace rG := k.row rG (by simp <;> omega)
 replace rR := k.row rR (by simp <;> omega)
 replace rF := k.row rF (by simp <;> omega)
 replace sb := sb.trans (k.below w.heap.size sb.size (by simp <;> omega))
 clear k
 refine pw_nil ?_
 (repeat ((fail_if_success with_reducible refine rg ?_); go_step))
 refine wp_region_pw ?_
 refine pw_value (by rfl) (.agg (natC 0)) (exec_build0 _ rfl _ built_nat) ?_
 simp only [Act.put, pu]
 refine pw_new (by rfl) 24 rfl _ zero_nat ?_
 intro g11 z6001 n0 r11 k
 simp only [Act.put, pu]
 have d4x11 := Nat.lt_of_lt_of_le r4.lt n0
 have d5x11 := Nat.lt_of_lt_of_le r5.lt n0
 have dGx11 := Nat.lt_of_lt_of_le rG.lt n0
 have dRx11 := Nat.lt_of_lt_of_le rR.lt n0
 have dFx11 := Nat.lt_of_lt_of_le rF.lt n0
 have d10x11 := Nat.lt_of_lt_of_le r10.lt n0
 have b11 := Nat.le_trans sb.size n0
 clear n0
 replace r4 := k.row r4 (by simp <;> omega)
 replace r5 := k.row r5 (by simp <;> omega)
 replace rG := k.row rG (by simp <;> omega)
 replace rR := k.row rR (by simp <;> omega)
 replace rF := k.row rF (by simp <;> omega)
 replace r10 := k.row r10 (by simp <;> omega)
 replace sb := sb.trans (k.below w.heap.size sb.size (by simp <;> omega))
 clear k
 refine pw_put (by rfl) 24 _ _ rfl _ rfl r11 (natC 0) rfl (by exact size_nat) (by simp only [natC_size]) (natC_one _) ?_
 clear r11
 intro z6002 r11 k
 simp only [Act.put]
 replace r4 := k.row r4 (by simp <;> omega)
 replace r5 := k.row r5 (by simp <;> omega)
 replace rG := k.row rG (by simp <;> omega)
 replace rR := k.row rR (by simp <;> omega)
 replace rF := k.row rF (by simp <;> omega)
 replace r10 := k.row r10 (by simp <;> omega)
 replace sb := sb.trans (k.below w.heap.size sb.size (by simp <;> omega))
 clear k
 refine pw_nil ?_
 (repeat ((fail_if_success with_reducible refine rg ?_); go_step))
 refine wp_region_pw ?_
 refine pw_mv (by rfl) rfl rfl ?_
 simp only [Act.put, pu]
 refine pw_loadm (by rfl) 24 _ rfl _ 0 rfl r4.r _ (part_all _) _ Try.underlying24 rfl size_nat ?_
 simp only [Act.put, pu]
 refine pw_loadm (by rfl) 24 _ rfl _ 0 rfl r11.r _ (part_all _) _ Try.underlying24 rfl size_nat ?_
 simp only [Act.put, pu]
 refine pw_callB (by rfl) 24 _ _ rfl Try.func24 (by kernel_rfl) #[.pointer (some ⟨g, 0, none⟩), .agg (natC A), .agg (natC 0)] rfl _ (hx1 _ g gr gf ⟨rG, rR, rF⟩) ?_
 intro z7003 k
 simp only [Act.put, pu]
 replace r4 := k.row r4 (by simp <;> omega)
 replace r5 := k.row r5 (by simp <;> omega)
 replace rG := k.row rG (by simp <;> omega)
 replace rR := k.row rR (by simp <;> omega)
 replace rF := k.row rF (by simp <;> omega)
 replace r10 := k.row r10 (by simp <;> omega)
 replace r11 := k.row r11 (by simp <;> omega)
 replace sb := sb.trans (k.below w.heap.size sb.size (by simp <;> omega))
 clear k
 refine pw_new (by rfl) 24 rfl _ zero_nat ?_
 intro g12 z7004 n0 r12 k
 simp only [Act.put, pu]
 have d4x12 := Nat.lt_of_lt_of_le r4.lt n0
 have d5x12 := Nat.lt_of_lt_of_le r5.lt n0
 have dGx12 := Nat.lt_of_lt_of_le rG.lt n0
 have dRx12 := Nat.lt_of_lt_of_le rR.lt n0
 have dFx12 := Nat.lt_of_lt_of_le rF.lt n0
 have d10x12 := Nat.lt_of_lt_of_le r10.lt n0
 have d11x12 := Nat.lt_of_lt_of_le r11.lt n0
 have b12 := Nat.le_trans sb.size n0
 clear n0
 replace r4 := k.row r4 (by simp <;> omega)
 replace r5 := k.row r5 (by simp <;> omega)
 replace rG := k.row rG (by simp <;> omega)
 replace rR := k.row rR (by simp <;> omega)
 replace rF := k.row rF (by simp <;> omega)
 replace r10 := k.row r10 (by simp <;> omega)
 replace r11 := k.row r11 (by simp <;> omega)
 replace sb := sb.trans (k.below w.heap.size sb.size (by simp <;> omega))
 clear k
 refine pw_put (by rfl) 24 _ _ rfl _ rfl r12 (natC X) rfl (by exact size_nat) (by simp only [natC_size]) (natC_one _) ?_
 clear r12
 intro z7005 r12 k
 simp only [Act.put]
 replace r4 := k.row r4 (by simp <;> omega)
 replace r5 := k.row r5 (by simp <;> omega)
 replace rG := k.row rG (by simp <;> omega)
 replace rR := k.row rR (by simp <;> omega)
 replace rF := k.row rF (by simp <;> omega)
 replace r10 := k.row r10 (by simp <;> omega)
 replace r11 := k.row r11 (by simp <;> omega)
 replace sb := sb.trans (k.below w.heap.size sb.size (by simp <;> omega))
 clear k
 refine pw_nil ?_
 have hg : GrpAt _ g gr gf PP QQ GG := ⟨rG, rR, rF⟩
 clear rG rR rF hC hx1
 (repeat ((fail_if_success with_reducible refine rg ?_); go_step))
 refine wp_region_qw (by kernel_rfl) (by kernel_rfl) ?_
 refine qw_move (by rfl) rfl rfl ?_
 simp only [Act.put, pu]
 refine qw_load (by rfl) 24 _ rfl _ rfl r4 4 _ Try.underlying24 size_nat ?_
 simp only [Act.put, pu]
 refine qw_load (by rfl) 24 _ rfl _ rfl r5 4 _ Try.underlying24 size_nat ?_
 simp only [Act.put, pu]
 refine qw_callK (by rfl) 24 _ _ rfl Try.func24 (by kernel_rfl) #[.pointer (some ⟨g, 0, none⟩), .agg (natC A), .agg (natC B)] rfl _ (fun w' hb => hs1 w' g gr gf (hg.below hb)) ?_
 simp only [Act.put, pu]
 refine qw_move (by rfl) rfl rfl ?_
 simp only [Act.put, pu]
 refine qw_load (by rfl) 24 _ rfl _ rfl r5 4 _ Try.underlying24 size_nat ?_
 simp only [Act.put, pu]
 refine qw_load (by rfl) 24 _ rfl _ rfl r4 4 _ Try.underlying24 size_nat ?_
 simp only [Act.put, pu]
 refine qw_callK (by rfl) 24 _ _ rfl Try.func24 (by kernel_rfl) #[.pointer (some ⟨g, 0, none⟩), .agg (natC B), .agg (natC A)] rfl _ (fun w' hb => hs2 w' g gr gf (hg.below hb)) ?_
 simp only [Act.put, pu]
 refine qw_value (by rfl) (.bool true) (fun w' => (exec_eql_nat _ _ _ rfl S S rfl rfl w').trans (by rw [eqn_yes])) ?_
 simp only [Act.put, pu]
 refine qw_move (by rfl) rfl rfl ?_
 simp only [Act.put, pu]
 refine qw_move (by rfl) rfl rfl ?_
 simp only [Act.put, pu]
 refine qw_move (by rfl) rfl rfl ?_
 simp only [Act.put, pu]
 refine qw_load (by rfl) 24 _ rfl _ rfl r4 4 _ Try.underlying24 size_nat ?_
 simp only [Act.put, pu]
 refine qw_load (by rfl) 24 _ rfl _ rfl r5 4 _ Try.underlying24 size_nat ?_
 simp only [Act.put, pu]
 refine qw_callK (by rfl) 24 _ _ rfl Try.func24 (by kernel_rfl) #[.pointer (some ⟨g, 0, none⟩), .agg (natC A), .agg (natC B)] rfl _ (fun w' hb => hs1 w' g gr gf (hg.below hb)) ?_
 simp only [Act.put, pu]
 refine qw_load (by rfl) 24 _ rfl _ rfl r10 4 _ Try.underlying24 size_nat ?_
 simp only [Act.put, pu]
 refine qw_callK (by rfl) 24 _ _ rfl Try.func24 (by kernel_rfl) #[.pointer (some ⟨g, 0, none⟩), .agg (natC S), .agg (natC C)] rfl _ (fun w' hb => hs3 w' g gr gf (hg.below hb)) ?_
 simp only [Act.put, pu]
 refine qw_move (by rfl) rfl rfl ?_
 simp only [Act.put, pu]
 refine qw_load (by rfl) 24 _ rfl _ rfl r4 4 _ Try.underlying24 size_nat ?_
 simp only [Act.put, pu]
 refine qw_move (by rfl) rfl rfl ?_
 simp only [Act.put, pu]
 refine qw_load (by rfl) 24 _ rfl _ rfl r5 4 _ Try.underlying24 size_nat ?_
 simp only [Act.put, pu]
 refine qw_load (by rfl) 24 _ rfl _ rfl r10 4 _ Try.underlying24 size_nat ?_
 simp only [Act.put, pu]
 refine qw_callK (by rfl) 24 _ _ rfl Try.func24 (by kernel_rfl) #[.pointer (some ⟨g, 0, none⟩), .agg (natC B), .agg (natC C)] rfl _ (fun w' hb => hs4 w' g gr gf (hg.below hb)) ?_
 simp only [Act.put, pu]
 refine qw_callK (by rfl) 24 _ _ rfl Try.func24 (by kernel_rfl) #[.pointer (some ⟨g, 0, none⟩), .agg (natC A), .agg (natC V)] rfl _ (fun w' hb => hs5 w' g gr gf (hg.below hb)) ?_
 simp only [Act.put, pu]
 refine qw_value (by rfl) (.bool true) (fun w' => (exec_eql_nat _ _ _ rfl U U rfl rfl w').trans (by rw [eqn_yes])) ?_
 simp only [Act.put, pu]
 refine qw_pick true (v := .bool true) (by rfl) rfl rfl rfl ?_
 simp only [Act.put, pu]
 refine qw_move (by rfl) rfl rfl ?_
 simp only [Act.put, pu]
 refine qw_move (by rfl) rfl rfl ?_
 simp only [Act.put, pu]
 refine qw_move (by rfl) rfl rfl ?_
 simp only [Act.put, pu]
 refine qw_load (by rfl) 24 _ rfl _ rfl r4 4 _ Try.underlying24 size_nat ?_
 simp only [Act.put, pu]
 refine qw_load (by rfl) 24 _ rfl _ rfl r5 4 _ Try.underlying24 size_nat ?_
 simp only [Act.put, pu]
 refine qw_callK (by rfl) 24 _ _ rfl Try.func24 (by kernel_rfl) #[.pointer (some ⟨g, 0, none⟩), .agg (natC A), .agg (natC B)] rfl _ (fun w' hb => hs1 w' g gr gf (hg.below hb)) ?_
 simp only [Act.put, pu]
 refine qw_load (by rfl) 24 _ rfl _ rfl r5 4 _ Try.underlying24 size_nat ?_
 simp only [Act.put, pu]
 refine qw_callK (by rfl) 27 _ _ rfl Try.func27 (by kernel_rfl) #[.pointer (some ⟨g, 0, none⟩), .agg (natC S), .agg (natC B)] rfl _ (fun w' hb => hs6 w' g gr gf (hg.below hb)) ?_
 simp only [Act.put, pu]
 refine qw_load (by rfl) 24 _ rfl _ rfl r12 4 _ Try.underlying24 size_nat ?_
 simp only [Act.put, pu]
 refine qw_value (by rfl) (.bool true) (fun w' => (exec_eql_nat _ _ _ rfl X X rfl rfl w').trans (by rw [eqn_yes])) ?_
 simp only [Act.put, pu]
 refine qw_pick true (v := .bool true) (by rfl) rfl rfl rfl ?_
 simp only [Act.put, pu]
 refine qw_asg (by rfl) rfl rfl ?_
 simp only [Act.put, pu]
 refine qw_nil ?_
 intro w8 hqb
 replace r4 := r4.belowAll hqb
 replace r5 := r5.belowAll hqb
 replace r10 := r10.belowAll hqb
 replace r11 := r11.belowAll hqb
 replace r12 := r12.belowAll hqb
 replace hg := hg.below hqb
 replace sb := below_on sb (Nat.le_refl _) hqb
 clear hqb
 (repeat ((fail_if_success with_reducible refine rg ?_); go_step))
 refine wp_region_qw (by kernel_rfl) (by kernel_rfl) ?_
 refine qw_move (by rfl) rfl rfl ?_
 simp only [Act.put, pu]
 refine qw_load (by rfl) 24 _ rfl _ rfl r4 4 _ Try.underlying24 size_nat ?_
 simp only [Act.put, pu]
 refine qw_load (by rfl) 24 _ rfl _ rfl r5 4 _ Try.underlying24 size_nat ?_
 simp only [Act.put, pu]
 refine qw_callK (by rfl) 29 _ _ rfl Try.func29 (by kernel_rfl) #[.pointer (some ⟨g, 0, none⟩), .agg (natC A), .agg (natC B)] rfl _ (fun w' hb => hm1 w' g gr gf (hg.below hb)) ?_
 simp only [Act.put, pu]
 refine qw_move (by rfl) rfl rfl ?_
 simp only [Act.put, pu]
 refine qw_load (by rfl) 24 _ rfl _ rfl r5 4 _ Try.underlying24 size_nat ?_
 simp only [Act.put, pu]
 refine qw_load (by rfl) 24 _ rfl _ rfl r4 4 _ Try.underlying24 size_nat ?_
 simp only [Act.put, pu]
 refine qw_callK (by rfl) 29 _ _ rfl Try.func29 (by kernel_rfl) #[.pointer (some ⟨g, 0, none⟩), .agg (natC B), .agg (natC A)] rfl _ (fun w' hb => hm2 w' g gr gf (hg.below hb)) ?_
 simp only [Act.put, pu]
 refine qw_value (by rfl) (.bool true) (fun w' => (exec_eql_nat _ _ _ rfl M1 M1 rfl rfl w').trans (by rw [eqn_yes])) ?_
 simp only [Act.put, pu]
 refine qw_move (by rfl) rfl rfl ?_
 simp only [Act.put, pu]
 refine qw_move (by rfl) rfl rfl ?_
 simp only [Act.put, pu]
 refine qw_move (by rfl) rfl rfl ?_
 simp only [Act.put, pu]
 refine qw_load (by rfl) 24 _ rfl _ rfl r4 4 _ Try.underlying24 size_nat ?_
 simp only [Act.put, pu]
 refine qw_load (by rfl) 24 _ rfl _ rfl r5 4 _ Try.underlying24 size_nat ?_
 simp only [Act.put, pu]
 refine qw_callK (by rfl) 29 _ _ rfl Try.func29 (by kernel_rfl) #[.pointer (some ⟨g, 0, none⟩), .agg (natC A), .agg (natC B)] rfl _ (fun w' hb => hm1 w' g gr gf (hg.below hb)) ?_
 simp only [Act.put, pu]
 refine qw_load (by rfl) 24 _ rfl _ rfl r10 4 _ Try.underlying24 size_nat ?_
 simp only [Act.put, pu]
 refine qw_callK (by rfl) 29 _ _ rfl Try.func29 (by kernel_rfl) #[.pointer (some ⟨g, 0, none⟩), .agg (natC M1), .agg (natC C)] rfl _ (fun w' hb => hm3 w' g gr gf (hg.below hb)) ?_
 simp only [Act.put, pu]
 refine qw_move (by rfl) rfl rfl ?_
 simp only [Act.put, pu]
 refine qw_load (by rfl) 24 _ rfl _ rfl r4 4 _ Try.underlying24 size_nat ?_
 simp only [Act.put, pu]
 refine qw_move (by rfl) rfl rfl ?_
 simp only [Act.put, pu]
 refine qw_load (by rfl) 24 _ rfl _ rfl r5 4 _ Try.underlying24 size_nat ?_
 simp only [Act.put, pu]
 refine qw_load (by rfl) 24 _ rfl _ rfl r10 4 _ Try.underlying24 size_nat ?_
 simp only [Act.put, pu]
 refine qw_callK (by rfl) 29 _ _ rfl Try.func29 (by kernel_rfl) #[.pointer (some ⟨g, 0, none⟩), .agg (natC B), .agg (natC C)] rfl _ (fun w' hb => hm4 w' g gr gf (hg.below hb)) ?_
 simp only [Act.put, pu]
 refine qw_callK (by rfl) 29 _ _ rfl Try.func29 (by kernel_rfl) #[.pointer (some ⟨g, 0, none⟩), .agg (natC A), .agg (natC M3)] rfl _ (fun w' hb => hm5 w' g gr gf (hg.below hb)) ?_
 simp only [Act.put, pu]
 refine qw_value (by rfl) (.bool true) (fun w' => (exec_eql_nat _ _ _ rfl M2 M2 rfl rfl w').trans (by rw [eqn_yes])) ?_
 simp only [Act.put, pu]
 refine qw_pick true (v := .bool true) (by rfl) rfl rfl rfl ?_
 simp only [Act.put, pu]
 refine qw_move (by rfl) rfl rfl ?_
 simp only [Act.put, pu]
 refine qw_move (by rfl) rfl rfl ?_
 simp only [Act.put, pu]
 refine qw_load (by rfl) 24 _ rfl _ rfl r4 4 _ Try.underlying24 size_nat ?_
 simp only [Act.put, pu]
 refine qw_call (by rfl) 25 _ _ rfl Try.func25 (by kernel_rfl) #[.int .i64 1] rfl _ of1 ?_
 simp only [Act.put, pu]
 refine qw_callK (by rfl) 29 _ _ rfl Try.func29 (by kernel_rfl) #[.pointer (some ⟨g, 0, none⟩), .agg (natC A), .agg (natC 1)] rfl _ (fun w' hb => hm6 w' g gr gf (hg.below hb)) ?_
 simp only [Act.put, pu]
 refine qw_load (by rfl) 24 _ rfl _ rfl r12 4 _ Try.underlying24 size_nat ?_
 simp only [Act.put, pu]
 refine qw_value (by rfl) (.bool true) (fun w' => (exec_eql_nat _ _ _ rfl X X rfl rfl w').trans (by rw [eqn_yes])) ?_
 simp only [Act.put, pu]
 refine qw_pick true (v := .bool true) (by rfl) rfl rfl rfl ?_
 simp only [Act.put, pu]
 refine qw_asg (by rfl) rfl rfl ?_
 simp only [Act.put, pu]
 refine qw_nil ?_
 intro w9 hqb
 replace r4 := r4.belowAll hqb
 replace r5 := r5.belowAll hqb
 replace r10 := r10.belowAll hqb
 replace r11 := r11.belowAll hqb
 replace r12 := r12.belowAll hqb
 replace hg := hg.below hqb
 replace sb := below_on sb (Nat.le_refl _) hqb
 clear hqb
 (repeat ((fail_if_success with_reducible refine rg ?_); go_step))
 refine wp_region_qw (by kernel_rfl) (by kernel_rfl) ?_
 refine qw_move (by rfl) rfl rfl ?_
 simp only [Act.put, pu]
 refine qw_load (by rfl) 24 _ rfl _ rfl r4 4 _ Try.underlying24 size_nat ?_
 simp only [Act.put, pu]
 refine qw_move (by rfl) rfl rfl ?_
 simp only [Act.put, pu]
 refine qw_load (by rfl) 24 _ rfl _ rfl r5 4 _ Try.underlying24 size_nat ?_
 simp only [Act.put, pu]
 refine qw_load (by rfl) 24 _ rfl _ rfl r10 4 _ Try.underlying24 size_nat ?_
 simp only [Act.put, pu]
 refine qw_callK (by rfl) 24 _ _ rfl Try.func24 (by kernel_rfl) #[.pointer (some ⟨g, 0, none⟩), .agg (natC B), .agg (natC C)] rfl _ (fun w' hb => hs4 w' g gr gf (hg.below hb)) ?_
 simp only [Act.put, pu]
 refine qw_callK (by rfl) 29 _ _ rfl Try.func29 (by kernel_rfl) #[.pointer (some ⟨g, 0, none⟩), .agg (natC A), .agg (natC V)] rfl _ (fun w' hb => ho1 w' g gr gf (hg.below hb)) ?_
 simp only [Act.put, pu]
 refine qw_move (by rfl) rfl rfl ?_
 simp only [Act.put, pu]
 refine qw_move (by rfl) rfl rfl ?_
 simp only [Act.put, pu]
 refine qw_load (by rfl) 24 _ rfl _ rfl r4 4 _ Try.underlying24 size_nat ?_
 simp only [Act.put, pu]
 refine qw_load (by rfl) 24 _ rfl _ rfl r5 4 _ Try.underlying24 size_nat ?_
 simp only [Act.put, pu]
 refine qw_callK (by rfl) 29 _ _ rfl Try.func29 (by kernel_rfl) #[.pointer (some ⟨g, 0, none⟩), .agg (natC A), .agg (natC B)] rfl _ (fun w' hb => hm1 w' g gr gf (hg.below hb)) ?_
 simp only [Act.put, pu]
 refine qw_move (by rfl) rfl rfl ?_
 simp only [Act.put, pu]
 refine qw_load (by rfl) 24 _ rfl _ rfl r4 4 _ Try.underlying24 size_nat ?_
 simp only [Act.put, pu]
 refine qw_load (by rfl) 24 _ rfl _ rfl r10 4 _ Try.underlying24 size_nat ?_
 simp only [Act.put, pu]
 refine qw_callK (by rfl) 29 _ _ rfl Try.func29 (by kernel_rfl) #[.pointer (some ⟨g, 0, none⟩), .agg (natC A), .agg (natC C)] rfl _ (fun w' hb => ho2 w' g gr gf (hg.below hb)) ?_
 simp only [Act.put, pu]
 refine qw_callK (by rfl) 24 _ _ rfl Try.func24 (by kernel_rfl) #[.pointer (some ⟨g, 0, none⟩), .agg (natC M1), .agg (natC M4)] rfl _ (fun w' hb => ho3 w' g gr gf (hg.below hb)) ?_
 simp only [Act.put, pu]
 refine qw_value (by rfl) (.bool true) (fun w' => (exec_eql_nat _ _ _ rfl D D rfl rfl w').trans (by rw [eqn_yes])) ?_
 simp only [Act.put, pu]
 refine qw_asg (by rfl) rfl rfl ?_
 simp only [Act.put, pu]
 refine qw_nil ?_
 intro w10 hqb
 replace r4 := r4.belowAll hqb
 replace r11 := r11.belowAll hqb
 replace r12 := r12.belowAll hqb
 replace hg := hg.below hqb
 replace sb := below_on sb (Nat.le_refl _) hqb
 clear hqb
 clear hs1 hs2 hs3 hs4 hs5 hs6 hm1 hm2 hm3 hm4 hm5 hm6 ho1 ho2 ho3
 rcases hcs with ⟨rfl, rfl⟩ | ⟨hX, hmi⟩
 ·(repeat ((fail_if_success with_reducible refine rg ?_); go_step))
  refine wp_region_qw (by kernel_rfl) (by kernel_rfl) ?_
  refine qw_load (by rfl) 24 _ rfl _ rfl r12 4 _ Try.underlying24 size_nat ?_
  simp only [Act.put, pu]
  refine qw_load (by rfl) 24 _ rfl _ rfl r11 4 _ Try.underlying24 size_nat ?_
  simp only [Act.put, pu]
  refine qw_value (by rfl) (.bool true) (fun w' => (exec_eql_nat _ _ _ rfl 0 0 rfl rfl w').trans (by rw [eqn_yes])) ?_
  simp only [Act.put, pu]
  refine qw_move (by rfl) rfl rfl ?_
  simp only [Act.put, pu]
  refine qw_move (by rfl) rfl rfl ?_
  simp only [Act.put, pu]
  refine qw_load (by rfl) 24 _ rfl _ rfl r4 4 _ Try.underlying24 size_nat ?_
  simp only [Act.put, pu]
  refine qw_callK (by rfl) 31 _ _ rfl Try.func31 (by kernel_rfl) #[.pointer (some ⟨g, 0, none⟩), .agg (natC A)] rfl _ (fun w' hb => hiv w' g gr gf (hg.below hb)) ?_
  simp only [Act.put, pu]
  refine qw_load (by rfl) 24 _ rfl _ rfl r11 4 _ Try.underlying24 size_nat ?_
  simp only [Act.put, pu]
  refine qw_value (by rfl) (.bool true) (fun w' => (exec_eql_nat _ _ _ rfl 0 0 rfl rfl w').trans (by rw [eqn_yes])) ?_
  simp only [Act.put, pu]
  refine qw_pick true (v := .bool true) (by rfl) rfl rfl rfl ?_
  simp only [Act.put, pu]
  refine qw_move (by rfl) rfl rfl ?_
  simp only [Act.put, pu]
  refine qw_skip (by rfl) ?_
  simp only [Act.put, pu]
  refine qw_skip (by rfl) ?_
  simp only [Act.put, pu]
  refine qw_skip (by rfl) ?_
  simp only [Act.put, pu]
  refine qw_skip (by rfl) ?_
  simp only [Act.put, pu]
  refine qw_skip (by rfl) ?_
  simp only [Act.put, pu]
  refine qw_skip (by rfl) ?_
  simp only [Act.put, pu]
  refine qw_skip (by rfl) ?_
  simp only [Act.put, pu]
  refine qw_skip (by rfl) ?_
  simp only [Act.put, pu]
  refine qw_skip (by rfl) ?_
  simp only [Act.put, pu]
  refine qw_skip (by rfl) ?_
  simp only [Act.put, pu]
  refine qw_skip (by rfl) ?_
  simp only [Act.put, pu]
  refine qw_skip (by rfl) ?_
  simp only [Act.put, pu]
  refine qw_skip (by rfl) ?_
  simp only [Act.put, pu]
  refine qw_pick true (v := .bool true) (by rfl) rfl rfl rfl ?_
  simp only [Act.put, pu]
  refine qw_asg (by rfl) rfl rfl ?_
  simp only [Act.put, pu]
  refine qw_nil ?_
  intro w11 hqb
  replace r12 := r12.belowAll hqb
  replace hg := hg.below hqb
  replace sb := below_on sb (Nat.le_refl _) hqb
  clear hqb
  (repeat ((fail_if_success with_reducible refine rg ?_); go_step))
  refine wp_region_pw ?_
  refine pw_mv (by rfl) rfl rfl ?_
  simp only [Act.put, pu]
  refine pw_mv (by rfl) rfl rfl ?_
  simp only [Act.put, pu]
  refine pw_mv (by rfl) rfl rfl ?_
  simp only [Act.put, pu]
  refine pw_pick (by rfl) true (v := .bool true) rfl rfl rfl ?_
  simp only [Act.put, pu]
  refine pw_mv (by rfl) rfl rfl ?_
  simp only [Act.put, pu]
  refine pw_mv (by rfl) rfl rfl ?_
  simp only [Act.put, pu]
  refine pw_pick (by rfl) true (v := .bool true) rfl rfl rfl ?_
  simp only [Act.put, pu]
  refine pw_mv (by rfl) rfl rfl ?_
  simp only [Act.put, pu]
  refine pw_mv (by rfl) rfl rfl ?_
  simp only [Act.put, pu]
  refine pw_pick (by rfl) true (v := .bool true) rfl rfl rfl ?_
  simp only [Act.put, pu]
  refine pw_mv (by rfl) rfl rfl ?_
  simp only [Act.put, pu]
  refine pw_mv (by rfl) rfl rfl ?_
  simp only [Act.put, pu]
  refine pw_loadm (by rfl) 24 _ rfl _ 0 rfl r12.r _ (part_all _) _ Try.underlying24 rfl size_nat ?_
  simp only [Act.put, pu]
  refine pw_callB (by rfl) 23 _ _ rfl Try.func23 (by kernel_rfl) #[.pointer (some ⟨g, 0, none⟩), .agg (natC 0)] rfl _ (hin _ g gr gf hg) ?_
  intro z12013 k
  simp only [Act.put, pu]
  replace r12 := k.row r12 (by simp <;> omega)
  replace hg := hg.below k.nil
  replace sb := sb.trans (k.below w.heap.size sb.size (by simp <;> omega))
  clear k
  refine pw_pick (by rfl) true (v := .bool true) rfl rfl rfl ?_
  simp only [Act.put, pu]
  refine pw_mv (by rfl) rfl rfl ?_
  simp only [Act.put, pu]
  refine pw_callB (by rfl) 33 _ _ rfl Try.func33 (by kernel_rfl) #[] rfl _ (haw _) ?_
  intro z12016 k
  simp only [Act.put, pu]
  replace r12 := k.row r12 (by simp <;> omega)
  replace hg := hg.below k.nil
  replace sb := sb.trans (k.below w.heap.size sb.size (by simp <;> omega))
  clear k
  refine pw_pick (by rfl) true (v := .bool true) rfl rfl rfl ?_
  simp only [Act.put, pu]
  refine pw_as (by rfl) rfl rfl ?_
  simp only [Act.put, pu]
  refine pw_nil ?_
  go_wp2
  go_ret
  exact ⟨rfl, sb⟩
 ·(repeat ((fail_if_success with_reducible refine rg ?_); go_step))
  refine wp_region_qw (by kernel_rfl) (by kernel_rfl) ?_
  refine qw_load (by rfl) 24 _ rfl _ rfl r12 4 _ Try.underlying24 size_nat ?_
  simp only [Act.put, pu]
  refine qw_load (by rfl) 24 _ rfl _ rfl r11 4 _ Try.underlying24 size_nat ?_
  simp only [Act.put, pu]
  refine qw_value (by rfl) (.bool false) (fun w' => (exec_eql_nat _ _ _ rfl X 0 rfl rfl w').trans (by rw [hX])) ?_
  simp only [Act.put, pu]
  refine qw_move (by rfl) rfl rfl ?_
  simp only [Act.put, pu]
  refine qw_skip (by rfl) ?_
  simp only [Act.put, pu]
  refine qw_skip (by rfl) ?_
  simp only [Act.put, pu]
  refine qw_skip (by rfl) ?_
  simp only [Act.put, pu]
  refine qw_skip (by rfl) ?_
  simp only [Act.put, pu]
  refine qw_skip (by rfl) ?_
  simp only [Act.put, pu]
  refine qw_pick false (v := .bool false) (by rfl) rfl rfl rfl ?_
  simp only [Act.put, pu]
  refine qw_move (by rfl) rfl rfl ?_
  simp only [Act.put, pu]
  refine qw_load (by rfl) 24 _ rfl _ rfl r12 4 _ Try.underlying24 size_nat ?_
  simp only [Act.put, pu]
  refine qw_load (by rfl) 24 _ rfl _ rfl r11 4 _ Try.underlying24 size_nat ?_
  simp only [Act.put, pu]
  refine qw_value (by rfl) (.bool true) (fun w' => (exec_neq_nat _ _ _ rfl X 0 rfl rfl w').trans (by rw [hX]; rfl)) ?_
  simp only [Act.put, pu]
  refine qw_move (by rfl) rfl rfl ?_
  simp only [Act.put, pu]
  refine qw_move (by rfl) rfl rfl ?_
  simp only [Act.put, pu]
  refine qw_load (by rfl) 24 _ rfl _ rfl r4 4 _ Try.underlying24 size_nat ?_
  simp only [Act.put, pu]
  refine qw_move (by rfl) rfl rfl ?_
  simp only [Act.put, pu]
  refine qw_load (by rfl) 24 _ rfl _ rfl r4 4 _ Try.underlying24 size_nat ?_
  simp only [Act.put, pu]
  refine qw_callK (by rfl) 31 _ _ rfl Try.func31 (by kernel_rfl) #[.pointer (some ⟨g, 0, none⟩), .agg (natC A)] rfl _ (fun w' hb => hiv w' g gr gf (hg.below hb)) ?_
  simp only [Act.put, pu]
  refine qw_callK (by rfl) 29 _ _ rfl Try.func29 (by kernel_rfl) #[.pointer (some ⟨g, 0, none⟩), .agg (natC A), .agg (natC IV)] rfl _ (fun w' hb => hmi w' g gr gf (hg.below hb)) ?_
  simp only [Act.put, pu]
  refine qw_call (by rfl) 25 _ _ rfl Try.func25 (by kernel_rfl) #[.int .i64 1] rfl _ of1 ?_
  simp only [Act.put, pu]
  refine qw_value (by rfl) (.bool true) (fun w' => (exec_eql_nat _ _ _ rfl 1 1 rfl rfl w').trans (by rw [eqn_yes])) ?_
  simp only [Act.put, pu]
  refine qw_pick true (v := .bool true) (by rfl) rfl rfl rfl ?_
  simp only [Act.put, pu]
  refine qw_pick false (v := .bool true) (by rfl) rfl rfl rfl ?_
  simp only [Act.put, pu]
  refine qw_asg (by rfl) rfl rfl ?_
  simp only [Act.put, pu]
  refine qw_nil ?_
  intro w11 hqb
  replace r12 := r12.belowAll hqb
  replace hg := hg.below hqb
  replace sb := below_on sb (Nat.le_refl _) hqb
  clear hqb
  (repeat ((fail_if_success with_reducible refine rg ?_); go_step))
  refine wp_region_pw ?_
  refine pw_mv (by rfl) rfl rfl ?_
  simp only [Act.put, pu]
  refine pw_mv (by rfl) rfl rfl ?_
  simp only [Act.put, pu]
  refine pw_mv (by rfl) rfl rfl ?_
  simp only [Act.put, pu]
  refine pw_pick (by rfl) true (v := .bool true) rfl rfl rfl ?_
  simp only [Act.put, pu]
  refine pw_mv (by rfl) rfl rfl ?_
  simp only [Act.put, pu]
  refine pw_mv (by rfl) rfl rfl ?_
  simp only [Act.put, pu]
  refine pw_pick (by rfl) true (v := .bool true) rfl rfl rfl ?_
  simp only [Act.put, pu]
  refine pw_mv (by rfl) rfl rfl ?_
  simp only [Act.put, pu]
  refine pw_mv (by rfl) rfl rfl ?_
  simp only [Act.put, pu]
  refine pw_pick (by rfl) true (v := .bool true) rfl rfl rfl ?_
  simp only [Act.put, pu]
  refine pw_mv (by rfl) rfl rfl ?_
  simp only [Act.put, pu]
  refine pw_mv (by rfl) rfl rfl ?_
  simp only [Act.put, pu]
  refine pw_loadm (by rfl) 24 _ rfl _ 0 rfl r12.r _ (part_all _) _ Try.underlying24 rfl size_nat ?_
  simp only [Act.put, pu]
  refine pw_callB (by rfl) 23 _ _ rfl Try.func23 (by kernel_rfl) #[.pointer (some ⟨g, 0, none⟩), .agg (natC X)] rfl _ (hin _ g gr gf hg) ?_
  intro z12013 k
  simp only [Act.put, pu]
  replace r12 := k.row r12 (by simp <;> omega)
  replace hg := hg.below k.nil
  replace sb := sb.trans (k.below w.heap.size sb.size (by simp <;> omega))
  clear k
  refine pw_pick (by rfl) true (v := .bool true) rfl rfl rfl ?_
  simp only [Act.put, pu]
  refine pw_mv (by rfl) rfl rfl ?_
  simp only [Act.put, pu]
  refine pw_callB (by rfl) 33 _ _ rfl Try.func33 (by kernel_rfl) #[] rfl _ (haw _) ?_
  intro z12016 k
  simp only [Act.put, pu]
  replace r12 := k.row r12 (by simp <;> omega)
  replace hg := hg.below k.nil
  replace sb := sb.trans (k.below w.heap.size sb.size (by simp <;> omega))
  clear k
  refine pw_pick (by rfl) true (v := .bool true) rfl rfl rfl ?_
  simp only [Act.put, pu]
  refine pw_as (by rfl) rfl rfl ?_
  simp only [Act.put, pu]
  refine pw_nil ?_
  go_wp2
  go_ret
  exact ⟨rfl, sb⟩
theorem walk (a0 : Int) (A B : Nat) (w : World) (_ : -9223372036854775808 ≤ a0 ∧ a0 ≤ 9223372036854775807) (hA : A < 2 ^ 256) (hB : B < 2 ^ 256) :
  Calls Try.prog 7 #[.int .i64 a0, .agg (natC A), .agg (natC B)] w fun e w' => e = .returned (.bool true) ∧ Below w.heap.size w w' := by
 obtain ⟨his, hlt, hG, h2, h63, hL⟩ := pk_gr (ly8 a0 % 3)
 have pQ := (grN_primes his).2
 have hQ9 := ((grN_iff _ _ _ _).1 his).2.2.1
 have hQ := hlt (pk (ly8 a0 % 3) 3 3 5 - 2) (by omega)
 have hnw : ∀ w' x, Row w' x (pk (ly8 a0 % 3) (lksC 3 (lN leL) twoA) (lksC 3 (lN otL) twoA) (lksC 5 (lN grL) twoA)) 79 → _ := fun w' x r => gnew_yes (pk (ly8 a0 % 3) 3 3 5) (pk (ly8 a0 % 3) 3 3 5) (some ⟨x, 0, none⟩) (pk (ly8 a0 % 3) leG otG grG) _ _ x 0 _ _ w' h63 hG (lks_links (hL ▸ r) hlt) his
 clear hL hlt his h63
 generalize lN (pk (ly8 a0 % 3) leL otL grL) (pk (ly8 a0 % 3) 3 3 5 - 1) = PP at *
 generalize lN (pk (ly8 a0 % 3) leL otL grL) (pk (ly8 a0 % 3) 3 3 5 - 2) = QQ at *
 have q0 : 0 < QQ := by omega
 have q : FdQ QQ := ⟨⟨hQ, isP_odd pQ (by omega), pQ.1⟩, pQ⟩
 obtain ⟨hC, lC⟩ := natC_of4 (lm B 1) (lm A 0) (lm B 3) (lm A 2) (lm_lt _ _) (lm_lt _ _) (lm_lt _ _) (lm_lt _ _)
 generalize lm B 1 + 18446744073709551616 * (lm A 0 + 18446744073709551616 * (lm B 3 + 18446744073709551616 * lm A 2)) = C at hC lC
 have lm' : ∀ x, x % QQ < 2 ^ 256 := fun x => Nat.lt_trans (Nat.mod_lt x q0) hQ
 have lz : 0 < 2 ^ 256 := by decide
 have l1 : 1 < 2 ^ 256 := by decide
 have add := fun x y (hx : x < 2 ^ 256) (hy : y < 2 ^ 256) (r : Nat) (hr : (x + y) % QQ = r) w' g gr gf (h : GrpAt w' g gr gf PP QQ (pk (ly8 a0 % 3) leG otG grG)) => hr ▸ fAdd_ok x y g gr gf _ _ _ w' hx hy q h
 have mul := fun x y (hx : x < 2 ^ 256) (hy : y < 2 ^ 256) (r : Nat) (hr : x * y % QQ = r) w' g gr gf (h : GrpAt w' g gr gf PP QQ (pk (ly8 a0 % 3) leG otG grG)) => hr ▸ fMul_ok x y g gr gf _ _ _ w' hx hy q h
 have sub := fun x y (hx : x < 2 ^ 256) (hy : y < 2 ^ 256) (r : Nat) (hr : sbN x y QQ = r) w' g gr gf (h : GrpAt w' g gr gf PP QQ (pk (ly8 a0 % 3) leG otG grG)) => hr ▸ fSub_ok x y g gr gf _ _ _ w' hx hy q h
 refine core a0 (ly8 a0) (ly8 a0 % 3) A B C ((A + 0) % QQ) ((A + B) % QQ) (((A + B) % QQ + C) % QQ) ((B + C) % QQ) (A * B % QQ) (A * B % QQ * C % QQ) (B * C % QQ) (A * C % QQ) (A * ((B + C) % QQ) % QQ) (invZ A QQ) (pk (ly8 a0 % 3) leG otG grG) PP QQ 3 3 5 leG otG grG _ _ _ w (and_ly8 a0) rfl hC rleast_any rother_any rgreat_any hnw
  (add A 0 hA lz _ rfl) (add A B hA hB _ rfl) (add B A hB hA _ (by rw [Nat.add_comm])) (add _ C (lm' _) lC _ rfl) (add B C hB lC _ rfl) (add A _ hA (lm' _) _ (add_assoc_q A B C QQ).symm) (sub _ B (lm' _) hB _ (sb_add A B QQ q0))
  (mul A B hA hB _ rfl) (mul B A hB hA _ (by rw [Nat.mul_comm])) (mul _ C (lm' _) lC _ rfl) (mul B C hB lC _ rfl) (mul A _ hA (lm' _) _ (mul_assoc_q A B C QQ).symm) (mul A 1 hA l1 _ (by rw [Nat.mul_one, Nat.add_zero]))
  (mul A _ hA (lm' _) _ rfl) (mul A C hA lC _ rfl) (add _ _ (lm' _) (lm' _) _ (over_q A B C QQ).symm) (fun w' g gr gf h => fInv_ok A g gr gf _ _ _ w' hA q h) ?_ ?_
 ·intro w' g gr gf h
  have := fIn_ok ((A + 0) % QQ) g gr gf _ _ _ w' (lm' _) q h
  rw [decide_eq_true (Nat.mod_lt _ q0)] at this
  exact this
 ·by_cases hX : A % QQ = 0
  ·exact .inl ⟨hX, inv_0 pQ hX⟩
  ·refine .inr ⟨?_, mul A _ hA (Nat.lt_trans (inv_lt A QQ pQ) hQ) _ (inv_1 pQ hX)⟩
   rw [Nat.add_zero]
   exact eql_false hX (lm' _) lz
set_option maxRecDepth 100000 in
theorem lifted (os : Os) (started : os.Started) (H : Type) (enc : TypeId × Value → H) :
  ReturnsInHanded {} Try.checked os 7 .any (Rows.fieldIsSpec.pre6 enc Try.prog Try.f7 Rows.fieldIsRow.domain false) (Rows.fieldIsSpec.post enc Try.prog Try.f7 false true false false) := by
 refine returnsInHanded_of_change (C := Try.checked) own started (by kernel_rfl) Try.func7
  (ChangeSpec.witness6 (enc := enc) (C := Try.checked) false ⟨#[], #[.int .i64 0, .agg #[.int .u64 0, .int .u64 0, .int .u64 0, .int .u64 0], .agg #[.int .u64 0, .int .u64 0, .int .u64 0, .int .u64 0]], []⟩ 8 (by kernel_rfl) (by kernel_rfl) (by kernel_rfl) (by kernel_rfl)) ?_
 intro W base args ds gs before hval0 hW hcnd _
 have hval : ∀ (j : Nat) t v, Try.f7.params[j]? = some t → args[j]? = some v → Value.okWide Try.prog W .any base t v := hval0
 have hW' := hW
 obtain ⟨p, q, hA0, hV, rfl, hfz, hnd⟩ := hW
 have hA : DataW.TrodAll enc Try.prog W 0 (fun _ => true) true Try.f7.params.toList args.toList ds p := hA0
 rw [Try.params7] at hA hval
 obtain ⟨v0, vs0, d0, ds0, p0, q0, hargs, rfl, rfl, h0, r0⟩ := trodAll_cons hA
 obtain ⟨v1, vs1, d1, ds1, p1, q1, rfl, rfl, rfl, h1, r1⟩ := trodAll_cons r0
 obtain ⟨v2, vs2, d2, ds2, p2, q2, rfl, rfl, rfl, h2, r2⟩ := trodAll_cons r1
 obtain ⟨rfl, rfl, rfl⟩ := trodAll_nil r2
 obtain rfl : args = #[v0, v1, v2] := by cases args; simp_all
 obtain ⟨rfl, rfl⟩ := trodVars_none hV
 have k0 := h0
 have lt0 := lt_of_trod h0
 obtain ⟨a0, rfl, rfl, rfl, w0⟩ := open_int Try.underlying3 (hval 0 3 v0 rfl rfl) h0
 have k1 := h1
 have lt1 := lt_of_trod h1
 obtain ⟨N1, hN1, rfl⟩ := open_nat (hval 1 24 v1 rfl rfl) h1
 have k2 := h2
 have lt2 := lt_of_trod h2
 obtain ⟨N2, hN2, rfl⟩ := open_nat (hval 2 24 v2 rfl rfl) h2
 clear hA0 hval0
 refine (walk a0 N1 N2 W (bounds_i64 w0) hN1 hN2).mono fun e W' ⟨he, bel⟩ => ?_
 subst he
 exact ⟨_, rfl, _, _, _, [], _, [], hW', trodAll_mk1 (shut_bool Try.underlying4 _), (trodAll_cons_mk (Below.trod laidOut (by kernel_rfl) (of_decide_eq_true (by kernel_rfl)) k0 bel lt0) (trodAll_cons_mk (Below.trod laidOut (by kernel_rfl) (of_decide_eq_true (by kernel_rfl)) k1 bel lt1) (trodAll_cons_mk (Below.trod laidOut (by kernel_rfl) (of_decide_eq_true (by kernel_rfl)) k2 bel lt2) trodAll_mk0))), rfl, bel.frame _, fun h => by cases h⟩
theorem over : Rows.fieldIsRow.holds Try.pinned (OpenSpec.ofChange Rows.fieldIsSpec) :=
 OpenClaim.holds_of_wide 7 Try.f7 rfl rfl rfl rfl rfl rfl rfl ⟨rfl, rfl, rfl, rfl, rfl⟩ rfl rfl rfl rfl rfl (by kernel_rfl) Try.func7 (by kernel_rfl)
  (of_decide_eq_true (by kernel_rfl)) (by unfold Func.isWrapper; first | (rw [if_pos (by decide +kernel)]; kernel_rfl) | (rw [if_neg (by decide +kernel)]; exact ⟨rfl, rfl⟩))
  (fun os started H enc _ => lifted os started H enc)
end fieldIsP
/-- for every number and every two naturals: the numbers below a given group's Q are a field; no condition. -/
theorem fieldIs_holds : Rows.FieldIsSaid := fieldIsP.over
end Go.Proofs.Yteddgjoailpgaaa
