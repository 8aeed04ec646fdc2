/- PowerLeads: for every number and every two naturals: powers of a given group's G lead sums to products, they are members, and have the inverse that Inv tells; no condition. -/
import Derived.Test.YteddgjoailpgaabQA
import Derived.Test.YteddgjoailpgaabGW
import Derived.Test.YteddgjoailpgaabGU
namespace Go.Proofs.Yteddgjoailpgaab
open Go.ChangeShapes Go.WideShapes Go.ChangeAt Go.RowKit
namespace powerLeadsP
set_option maxRecDepth 100000 in
set_option maxHeartbeats 2000000 in
theorem core (a0 : Int) (m0 m A B X Y W Z V N U S E T GG PP QQ n0 n1 n2 G0 G1 G2 : Nat) (L0 L1 L2 : Array Value) (w : World) (hm0 : bits .and .i64 a0 255 = (m0 : Int)) (hm : m0 % 3 = m)
  (hA0 : ∀ w', Calls Try.prog 4 #[] w' fun e w2 => ∃ g, e = .returned (.agg (paC (some ⟨g, 0, none⟩) n0 n0 G0)) ∧ w'.heap.size ≤ g ∧ Row w2 g L0 44 ∧ Below w'.heap.size w' w2)
  (hA1 : ∀ w', Calls Try.prog 5 #[] w' fun e w2 => ∃ g, e = .returned (.agg (paC (some ⟨g, 0, none⟩) n1 n1 G1)) ∧ w'.heap.size ≤ g ∧ Row w2 g L1 44 ∧ Below w'.heap.size w' w2)
  (hA2 : ∀ w', Calls Try.prog 6 #[] w' fun e w2 => ∃ g, e = .returned (.agg (paC (some ⟨g, 0, none⟩) n2 n2 G2)) ∧ w'.heap.size ≤ g ∧ Row w2 g L2 44 ∧ Below w'.heap.size w' w2)
  (hnw : ∀ w' x, Row w' x (pk m L0 L1 L2) 44 → Calls Try.prog 7 #[.agg (paC (some ⟨x, 0, none⟩) (pk m n0 n1 n2) (pk m n0 n1 n2) (pk m G0 G1 G2))] w' fun e w2 => ∃ g gr gf, e = .returned (.tuple #[.pointer (some ⟨g, 0, none⟩), .int .i64 0]) ∧ GrpAt w2 g gr gf PP QQ GG ∧ Below w'.heap.size w' w2)
  (hx : ∀ w' g gr gf, GrpAt w' g gr gf PP QQ GG → Calls Try.prog 8 #[.pointer (some ⟨g, 0, none⟩), .agg (natC A)] w' fun e w2 => e = .returned (.agg (natC X)) ∧ Below w'.heap.size w' w2)
  (hy : ∀ w' g gr gf, GrpAt w' g gr gf PP QQ GG → Calls Try.prog 8 #[.pointer (some ⟨g, 0, none⟩), .agg (natC B)] w' fun e w2 => e = .returned (.agg (natC Y)) ∧ Below w'.heap.size w' w2)
  (htw : ∀ w' g gr gf, GrpAt w' g gr gf PP QQ GG → Calls Try.prog 10 #[.pointer (some ⟨g, 0, none⟩), .agg (natC A), .agg (natC B)] w' fun e w2 => e = .returned (.agg (natC W)) ∧ Below w'.heap.size w' w2)
  (hsu : ∀ w' g gr gf, GrpAt w' g gr gf PP QQ GG → Calls Try.prog 11 #[.pointer (some ⟨g, 0, none⟩), .agg (natC W), .agg (natC W)] w' fun e w2 => e = .returned (.agg (natC Z)) ∧ Below w'.heap.size w' w2)
  (hsb : ∀ w' g gr gf, GrpAt w' g gr gf PP QQ GG → Calls Try.prog 12 #[.pointer (some ⟨g, 0, none⟩), .agg (natC 0), .agg (natC A)] w' fun e w2 => e = .returned (.agg (natC V)) ∧ Below w'.heap.size w' w2)
  (hov : ∀ w' g gr gf, GrpAt w' g gr gf PP QQ GG → Calls Try.prog 8 #[.pointer (some ⟨g, 0, none⟩), .agg (natC V)] w' fun e w2 => e = .returned (.agg (natC N)) ∧ Below w'.heap.size w' w2)
  (hmu : ∀ w' g gr gf, GrpAt w' g gr gf PP QQ GG → Calls Try.prog 13 #[.pointer (some ⟨g, 0, none⟩), .agg (natC X), .agg (natC Y)] w' fun e w2 => e = .returned (.agg (natC U)) ∧ Below w'.heap.size w' w2)
  (had : ∀ w' g gr gf, GrpAt w' g gr gf PP QQ GG → Calls Try.prog 11 #[.pointer (some ⟨g, 0, none⟩), .agg (natC A), .agg (natC B)] w' fun e w2 => e = .returned (.agg (natC S)) ∧ Below w'.heap.size w' w2)
  (hos : ∀ w' g gr gf, GrpAt w' g gr gf PP QQ GG → Calls Try.prog 8 #[.pointer (some ⟨g, 0, none⟩), .agg (natC S)] w' fun e w2 => e = .returned (.agg (natC U)) ∧ Below w'.heap.size w' w2)
  (hex : ∀ w' g gr gf, GrpAt w' g gr gf PP QQ GG → Calls Try.prog 14 #[.pointer (some ⟨g, 0, none⟩), .agg (natC X), .agg (natC B)] w' fun e w2 => e = .returned (.agg (natC E)) ∧ Below w'.heap.size w' w2)
  (how : ∀ w' g gr gf, GrpAt w' g gr gf PP QQ GG → Calls Try.prog 8 #[.pointer (some ⟨g, 0, none⟩), .agg (natC W)] w' fun e w2 => e = .returned (.agg (natC E)) ∧ Below w'.heap.size w' w2)
  (hoz : ∀ w' g gr gf, GrpAt w' g gr gf PP QQ GG → Calls Try.prog 8 #[.pointer (some ⟨g, 0, none⟩), .agg (natC Z)] w' fun e w2 => e = .returned (.agg (natC T)) ∧ Below w'.heap.size w' w2)
  (hiv : ∀ w' g gr gf, GrpAt w' g gr gf PP QQ GG → Calls Try.prog 16 #[.pointer (some ⟨g, 0, none⟩), .agg (natC X)] w' fun e w2 => e = .returned (.agg (natC N)) ∧ Below w'.heap.size w' w2)
  (hmn : ∀ w' g gr gf, GrpAt w' g gr gf PP QQ GG → Calls Try.prog 13 #[.pointer (some ⟨g, 0, none⟩), .agg (natC X), .agg (natC N)] w' fun e w2 => e = .returned (.agg (natC 1)) ∧ Below w'.heap.size w' w2)
  (hin : ∀ w' g gr gf, GrpAt w' g gr gf PP QQ GG → Calls Try.prog 15 #[.pointer (some ⟨g, 0, none⟩), .agg (natC X)] w' fun e w2 => e = .returned (.bool true) ∧ Below w'.heap.size w' w2)
  (hml : ∀ w' g gr gf, GrpAt w' g gr gf PP QQ GG → ∀ x y, Row w' x (natC X ++ natC Y) 24 → Row w' y (natC B ++ natC A) 24 → Calls Try.prog 9 #[.pointer (some ⟨g, 0, none⟩), .slice (some ⟨x, 0, none⟩) 2 2, .slice (some ⟨y, 0, none⟩) 2 2] w' fun e w2 => e = .returned (.tuple #[.agg (natC T), .int .i64 0]) ∧ Below w'.heap.size w' w2) :
  Calls Try.prog 3 #[.int .i64 a0, .agg (natC A), .agg (natC B)] w fun e w' => e = .returned (.bool true) ∧ Below w.heap.size w w' := by
 obtain ⟨ip, hip, hzp, hszp⟩ := info_pa'
 have hp1 : ¬ 3 * ip.size > 2 ^ 24 := by rw [hszp]; decide
 have hp2 : ¬ 3 * ip.size = 0 := by rw [hszp]; decide
 have hl := fun x y z n m l X Y Z => lit_pas x y z n m l X Y Z ip.size hszp
 obtain ⟨ie, hie, hz, hsz, _⟩ := info_nat'
 have hs1 : ¬ 2 * ie.size > 2 ^ 24 := by rw [hsz]; decide
 have hs2 : ¬ 2 * ie.size = 0 := by rw [hsz]; decide
 have hlA := lit_two X Y ie.size hsz
 have hlB := lit_two B A ie.size hsz
 have hm3' : m < 3 := by rw [← hm]; exact Nat.mod_lt _ (by decide)
 have haw := awake9_any
 have of1 := fun w' => of9_any 1 w' (by decide)
 go_enter Try.func3, Try.ntmps3
 (repeat ((fail_if_success with_reducible refine rg ?_); go_step))
 refine wp_region_pw ?_
 refine pw_boxr (by rfl) 24 _ rfl (_) rfl ?_
 intro g4 z0 n0 r4 k
 simp only [Act.put, pu]
 have b4 : w.heap.size ≤ g4 := n0
 clear n0
 have sb := k.below w.heap.size (Nat.le_refl _) (by simp)
 clear k
 refine pw_boxr (by rfl) 24 _ rfl (_) rfl ?_
 intro g5 z1 n0 r5 k
 simp only [Act.put, pu]
 have d4x5 := Nat.lt_of_lt_of_le r4.lt n0
 have b5 := Nat.le_trans sb.size n0
 clear n0
 replace r4 := k.row r4 (by simp <;> omega)
 replace sb := sb.trans (k.below w.heap.size sb.size (by simp <;> omega))
 clear k
 refine pw_value (by rfl) (.bool false) (fun _ => rfl) ?_
 simp only [Act.put, pu]
 refine pw_nil ?_
 (repeat ((fail_if_success with_reducible refine rg ?_); go_step))
 refine wp_region_pw ?_
 refine pw_callE (by rfl) 4 _ _ rfl Try.func4 (by kernel_rfl) #[] rfl (hA0 _) ?_
 rintro _ z1000 ⟨gU, rfl, nU, rU, hb⟩
 refine ⟨_, rfl, ?_⟩
 simp only [Act.put, pu]
 have d4xU := Nat.lt_of_lt_of_le r4.lt nU
 have d5xU := Nat.lt_of_lt_of_le r5.lt nU
 have bU := Nat.le_trans sb.size nU
 clear nU
 have k := Kept.ofBelow hb
 clear hb
 replace r4 := k.row r4 (by simp <;> omega)
 replace r5 := k.row r5 (by simp <;> omega)
 replace sb := sb.trans (k.below w.heap.size sb.size (by simp <;> omega))
 clear k
 refine pw_callE (by rfl) 5 _ _ rfl Try.func5 (by kernel_rfl) #[] rfl (hA1 _) ?_
 rintro _ z1001 ⟨gV, rfl, nV, rV, hb⟩
 refine ⟨_, rfl, ?_⟩
 simp only [Act.put, pu]
 have d4xV := Nat.lt_of_lt_of_le r4.lt nV
 have d5xV := Nat.lt_of_lt_of_le r5.lt nV
 have dUxV := Nat.lt_of_lt_of_le rU.lt nV
 have bV := Nat.le_trans sb.size nV
 clear nV
 have k := Kept.ofBelow hb
 clear hb
 replace r4 := k.row r4 (by simp <;> omega)
 replace r5 := k.row r5 (by simp <;> omega)
 replace rU := k.row rU (by simp <;> omega)
 replace sb := sb.trans (k.below w.heap.size sb.size (by simp <;> omega))
 clear k
 refine pw_callE (by rfl) 6 _ _ rfl Try.func6 (by kernel_rfl) #[] rfl (hA2 _) ?_
 rintro _ z1002 ⟨gW, rfl, nW, rW, hb⟩
 refine ⟨_, rfl, ?_⟩
 simp only [Act.put, pu]
 have d4xW := Nat.lt_of_lt_of_le r4.lt nW
 have d5xW := Nat.lt_of_lt_of_le r5.lt nW
 have dUxW := Nat.lt_of_lt_of_le rU.lt nW
 have dVxW := Nat.lt_of_lt_of_le rV.lt nW
 have bW := Nat.le_trans sb.size nW
 clear nW
 have k := Kept.ofBelow hb
 clear hb
 replace r4 := k.row r4 (by simp <;> omega)
 replace r5 := k.row r5 (by simp <;> omega)
 replace rU := k.row rU (by simp <;> omega)
 replace rV := k.row rV (by simp <;> omega)
 replace sb := sb.trans (k.below w.heap.size sb.size (by simp <;> omega))
 clear k
 refine pw_litr (by rfl) 29 27 3 _ rfl (pasC (some ⟨gU, 0, none⟩) (some ⟨gV, 0, none⟩) (some ⟨gW, 0, none⟩) n0 n1 n2 G0 G1 G2) ip _ Try.underlying29 hip hzp hp1 hp2 [(0, .agg (paC (some ⟨gU, 0, none⟩) n0 n0 G0)), (1, .agg (paC (some ⟨gV, 0, none⟩) n1 n1 G1)), (2, .agg (paC (some ⟨gW, 0, none⟩) n2 n2 G2))] rfl (hl _ _ _ _ _ _ _ _ _) ?_
 intro gT z1003 n0 rT k
 simp only [Act.put, pu]
 have d4xT := Nat.lt_of_lt_of_le r4.lt n0
 have d5xT := Nat.lt_of_lt_of_le r5.lt n0
 have dUxT := Nat.lt_of_lt_of_le rU.lt n0
 have dVxT := Nat.lt_of_lt_of_le rV.lt n0
 have dWxT := Nat.lt_of_lt_of_le rW.lt n0
 have bT := Nat.le_trans sb.size n0
 clear n0
 replace r4 := k.row r4 (by simp <;> omega)
 replace r5 := k.row r5 (by simp <;> omega)
 replace rU := k.row rU (by simp <;> omega)
 replace rV := k.row rV (by simp <;> omega)
 replace rW := k.row rW (by simp <;> omega)
 replace sb := sb.trans (k.below w.heap.size sb.size (by simp <;> omega))
 clear k
 refine pw_mv (by rfl) rfl rfl ?_
 simp only [Act.put, pu]
 refine pw_value (by rfl) (.int .i64 (m0 : Nat)) (fun w' => (exec_bits_i .and _ _ _ _ (.inl rfl) rfl a0 255 rfl rfl w').trans (by rw [hm0])) ?_
 simp only [Act.put, pu]
 refine pw_value (by rfl) (.int .i64 (m : Nat)) (fun w' => (exec_rem_i _ _ _ _ rfl m0 3 rfl rfl (by decide) w').trans (by rw [hm])) ?_
 simp only [Act.put, pu]
 refine pw_value (by rfl) (.pointer (some ⟨gT, 0 + m * 5, none⟩)) (exec_index_s 29 _ _ rfl gT 0 3 3 rfl m rfl hm3' _ Try.underlying29 5 Try.sizeOf27) ?_
 simp only [Act.put, pu]
 refine pw_loadm (by rfl) 27 _ rfl _ (0 + m * 5) rfl rT.r (paC (some ⟨pk m gU gV gW, 0, none⟩) (pk m n0 n1 n2) (pk m n0 n1 n2) (pk m G0 G1 G2)) (pas_part gU gV gW n0 n1 n2 G0 G1 G2 m hm3') _ Try.underlying27 rfl size_pa ?_
 simp only [Act.put, pu]
 refine pw_new (by rfl) 27 rfl _ zero_pa ?_
 intro g7 z1009 n0 r7 k
 simp only [Act.put, pu]
 have d4x7 := Nat.lt_of_lt_of_le r4.lt n0
 have d5x7 := Nat.lt_of_lt_of_le r5.lt n0
 have dUx7 := Nat.lt_of_lt_of_le rU.lt n0
 have dVx7 := Nat.lt_of_lt_of_le rV.lt n0
 have dWx7 := Nat.lt_of_lt_of_le rW.lt n0
 have dTx7 := Nat.lt_of_lt_of_le rT.lt n0
 have b7 := Nat.le_trans sb.size n0
 clear n0
 replace r4 := k.row r4 (by simp <;> omega)
 replace r5 := k.row r5 (by simp <;> omega)
 replace rU := k.row rU (by simp <;> omega)
 replace rV := k.row rV (by simp <;> omega)
 replace rW := k.row rW (by simp <;> omega)
 replace rT := k.row rT (by simp <;> omega)
 replace sb := sb.trans (k.below w.heap.size sb.size (by simp <;> omega))
 clear k
 refine pw_put (by rfl) 27 _ _ rfl _ rfl r7 (paC (some ⟨pk m gU gV gW, 0, none⟩) (pk m n0 n1 n2) (pk m n0 n1 n2) (pk m G0 G1 G2)) rfl (by exact size_pa) (by rfl) (pa_one _ _ _ _) ?_
 clear r7
 intro z1010 r7 k
 simp only [Act.put]
 replace r4 := k.row r4 (by simp <;> omega)
 replace r5 := k.row r5 (by simp <;> omega)
 replace rU := k.row rU (by simp <;> omega)
 replace rV := k.row rV (by simp <;> omega)
 replace rW := k.row rW (by simp <;> omega)
 replace rT := k.row rT (by simp <;> omega)
 replace sb := sb.trans (k.below w.heap.size sb.size (by simp <;> omega))
 clear k
 refine pw_nil ?_
 have rP := pk_row m rU rV rW
 clear rU rV rW rT hA0 hA1 hA2 hl hip hzp hp1 hp2 hszp
 generalize pk m gU gV gW = gP at *
 generalize pk m n0 n1 n2 = N1 at *
 generalize pk m G0 G1 G2 = G3 at *
 generalize pk m L0 L1 L2 = LK at *
 (repeat ((fail_if_success with_reducible refine rg ?_); go_step))
 refine wp_region_pw ?_
 refine pw_loadm (by rfl) 27 _ rfl _ 0 rfl r7.r _ (part_all _) _ Try.underlying27 rfl size_pa ?_
 simp only [Act.put, pu]
 refine pw_callE (by rfl) 7 _ _ rfl Try.func7 (by kernel_rfl) #[.agg (paC (some ⟨gP, 0, none⟩) N1 N1 G3)] rfl (hnw _ gP rP) ?_
 rintro _ z2001 ⟨g, gr, gf, rfl, ⟨rG, rR, rF⟩, hb⟩
 refine ⟨_, rfl, ?_⟩
 simp only [Act.put, pu]
 have k := Kept.ofBelow hb
 clear hb
 replace r4 := k.row r4 (by simp <;> omega)
 replace r5 := k.row r5 (by simp <;> omega)
 replace r7 := k.row r7 (by simp <;> omega)
 replace rP := k.row rP (by simp <;> omega)
 replace sb := sb.trans (k.below w.heap.size sb.size (by simp <;> omega))
 clear k
 refine pw_mv (by rfl) rfl rfl ?_
 simp only [Act.put, pu]
 refine pw_ext (by rfl) rfl rfl rfl ?_
 simp only [Act.put, pu]
 refine pw_ext (by rfl) rfl rfl rfl ?_
 simp only [Act.put, pu]
 refine pw_as (by rfl) rfl rfl ?_
 simp only [Act.put, pu]
 refine pw_as (by rfl) rfl rfl ?_
 simp only [Act.put, pu]
 refine pw_nil ?_
 clear hnw rP r7
 (repeat ((fail_if_success with_reducible refine rg ?_); go_step))
 refine wp_region_pw ?_
 refine pw_mv (by rfl) rfl rfl ?_
 simp only [Act.put, pu]
 refine pw_value (by rfl) (.bool false) (exec_neq_k .i64 _ _ _ _ rfl 0 0 rfl rfl false rfl) ?_
 simp only [Act.put, pu]
 refine pw_nil ?_
 (repeat ((fail_if_success with_reducible refine rg ?_); go_step))
 apply wp_region_mix (by kernel_rfl) [] [_, _, _, _, _, _, _, _, _, _] trivial List.nodup_nil
 ·intro p
  refine mx_move rfl rfl ?_
  simp only [Act.put, pu]
  refine mx_load 24 _ rfl _ rfl r4 (by simp <;> omega) 4 _ Try.underlying24 size_nat ?_
  simp only [Act.put, pu]
  refine mx_callK 8 _ _ rfl Try.func8 (by kernel_rfl) #[.pointer (some ⟨g, 0, none⟩), .agg (natC A)] rfl _ (fun w' hk => hx w' g gr gf ⟨hk.row rG (by simp), hk.row rR (by simp), hk.row rF (by simp)⟩) ?_
  simp only [Act.put, pu]
  refine mx_move rfl rfl ?_
  simp only [Act.put, pu]
  refine mx_load 24 _ rfl _ rfl r5 (by simp <;> omega) 4 _ Try.underlying24 size_nat ?_
  simp only [Act.put, pu]
  refine mx_callK 8 _ _ rfl Try.func8 (by kernel_rfl) #[.pointer (some ⟨g, 0, none⟩), .agg (natC B)] rfl _ (fun w' hk => hy w' g gr gf ⟨hk.row rG (by simp), hk.row rR (by simp), hk.row rF (by simp)⟩) ?_
  simp only [Act.put, pu]
  refine mx_new 24 rfl _ zero_nat ?_
  simp only [Act.put, pu]
  refine mx_new 24 rfl _ zero_nat ?_
  simp only [Act.put, pu]
  refine mx_put 13 24 _ _ rfl rfl rfl (natC X) rfl (by exact size_nat) (by simp only [natC_size]) (natC_one _) ?_
  simp only [Act.put]
  refine mx_put 15 24 _ _ rfl rfl rfl (natC Y) rfl (by exact size_nat) (by simp only [natC_size]) (natC_one _) ?_
  simp only [Act.put]
  refine mx_end ?_
  intro w5 hkw hrw hnew hdis
  have n10 := hnew 6 rfl
  have n11 := hnew 7 rfl
  have zr10 : Row w5 (p 6) (natC X) 24 := hrw 13 (24, natC X) rfl
  have zr11 : Row w5 (p 7) (natC Y) 24 := hrw 15 (24, natC Y) rfl
  replace r4 := hkw.row r4 (by simp <;> omega)
  replace r5 := hkw.row r5 (by simp <;> omega)
  replace rG := hkw.row rG (by simp <;> omega)
  replace rR := hkw.row rR (by simp <;> omega)
  replace rF := hkw.row rF (by simp <;> omega)
  replace sb := sb.trans (hkw.below w.heap.size sb.size (by simp <;> omega))
  clear hkw hrw hnew hdis n10 n11
  generalize p 6 = g10 at *
  generalize p 7 = g11 at *
  have r10 := zr10
  clear zr10
  have r11 := zr11
  clear zr11
  (repeat ((fail_if_success with_reducible refine rg ?_); go_step))
  refine wp_region_pw ?_
  refine pw_mv (by rfl) rfl rfl ?_
  simp only [Act.put, pu]
  refine pw_loadm (by rfl) 24 _ rfl _ 0 rfl r10.r _ (part_all _) _ Try.underlying24 rfl size_nat ?_
  simp only [Act.put, pu]
  refine pw_loadm (by rfl) 24 _ rfl _ 0 rfl r11.r _ (part_all _) _ Try.underlying24 rfl size_nat ?_
  simp only [Act.put, pu]
  refine pw_litr (by rfl) 37 24 2 _ rfl (natC X ++ natC Y) ie _ Try.underlying37 hie hz hs1 hs2 [(0, .agg (natC X)), (1, .agg (natC Y))] rfl hlA ?_
  intro gU z6003 n0 rU k
  simp only [Act.put, pu]
  have d4xU := Nat.lt_of_lt_of_le r4.lt n0
  have d5xU := Nat.lt_of_lt_of_le r5.lt n0
  have dGxU := Nat.lt_of_lt_of_le rG.lt n0
  have dRxU := Nat.lt_of_lt_of_le rR.lt n0
  have dFxU := Nat.lt_of_lt_of_le rF.lt n0
  have d10xU := Nat.lt_of_lt_of_le r10.lt n0
  have d11xU := Nat.lt_of_lt_of_le r11.lt n0
  have bU := Nat.le_trans sb.size n0
  clear n0
  replace r4 := k.row r4 (by simp <;> omega)
  replace r5 := k.row r5 (by simp <;> omega)
  replace rG := k.row rG (by simp <;> omega)
  replace rR := k.row rR (by simp <;> omega)
  replace rF := k.row rF (by simp <;> omega)
  replace r10 := k.row r10 (by simp <;> omega)
  replace r11 := k.row r11 (by simp <;> omega)
  replace sb := sb.trans (k.below w.heap.size sb.size (by simp <;> omega))
  clear k
  refine pw_loadm (by rfl) 24 _ rfl _ 0 rfl r5.r _ (part_all _) _ Try.underlying24 rfl size_nat ?_
  simp only [Act.put, pu]
  refine pw_loadm (by rfl) 24 _ rfl _ 0 rfl r4.r _ (part_all _) _ Try.underlying24 rfl size_nat ?_
  simp only [Act.put, pu]
  refine pw_litr (by rfl) 37 24 2 _ rfl (natC B ++ natC A) ie _ Try.underlying37 hie hz hs1 hs2 [(0, .agg (natC B)), (1, .agg (natC A))] rfl hlB ?_
  intro gV z6006 n0 rV k
  simp only [Act.put, pu]
  have d4xV := Nat.lt_of_lt_of_le r4.lt n0
  have d5xV := Nat.lt_of_lt_of_le r5.lt n0
  have dGxV := Nat.lt_of_lt_of_le rG.lt n0
  have dRxV := Nat.lt_of_lt_of_le rR.lt n0
  have dFxV := Nat.lt_of_lt_of_le rF.lt n0
  have d10xV := Nat.lt_of_lt_of_le r10.lt n0
  have d11xV := Nat.lt_of_lt_of_le r11.lt n0
  have dUxV := Nat.lt_of_lt_of_le rU.lt n0
  have bV := Nat.le_trans sb.size n0
  clear n0
  replace r4 := k.row r4 (by simp <;> omega)
  replace r5 := k.row r5 (by simp <;> omega)
  replace rG := k.row rG (by simp <;> omega)
  replace rR := k.row rR (by simp <;> omega)
  replace rF := k.row rF (by simp <;> omega)
  replace r10 := k.row r10 (by simp <;> omega)
  replace r11 := k.row r11 (by simp <;> omega)
  replace rU := k.row rU (by simp <;> omega)
  replace sb := sb.trans (k.below w.heap.size sb.size (by simp <;> omega))
  clear k
  refine pw_callB (by rfl) 9 _ _ rfl Try.func9 (by kernel_rfl) #[.pointer (some ⟨g, 0, none⟩), .slice (some ⟨gU, 0, none⟩) 2 2, .slice (some ⟨gV, 0, none⟩) 2 2] rfl _ (hml _ g gr gf ⟨rG, rR, rF⟩ gU gV rU rV) ?_
  intro z6007 k
  simp only [Act.put, pu]
  replace r4 := k.row r4 (by simp <;> omega)
  replace r5 := k.row r5 (by simp <;> omega)
  replace rG := k.row rG (by simp <;> omega)
  replace rR := k.row rR (by simp <;> omega)
  replace rF := k.row rF (by simp <;> omega)
  replace r10 := k.row r10 (by simp <;> omega)
  replace r11 := k.row r11 (by simp <;> omega)
  replace rU := k.row rU (by simp <;> omega)
  replace rV := k.row rV (by simp <;> omega)
  replace sb := sb.trans (k.below w.heap.size sb.size (by simp <;> omega))
  clear k
  refine pw_mv (by rfl) rfl rfl ?_
  simp only [Act.put, pu]
  refine pw_ext (by rfl) rfl rfl rfl ?_
  simp only [Act.put, pu]
  refine pw_ext (by rfl) rfl rfl rfl ?_
  simp only [Act.put, pu]
  refine pw_new (by rfl) 24 rfl _ zero_nat ?_
  intro g12 z6011 n0 r12 k
  simp only [Act.put, pu]
  have d4x12 := Nat.lt_of_lt_of_le r4.lt n0
  have d5x12 := Nat.lt_of_lt_of_le r5.lt n0
  have dGx12 := Nat.lt_of_lt_of_le rG.lt n0
  have dRx12 := Nat.lt_of_lt_of_le rR.lt n0
  have dFx12 := Nat.lt_of_lt_of_le rF.lt n0
  have d10x12 := Nat.lt_of_lt_of_le r10.lt n0
  have d11x12 := Nat.lt_of_lt_of_le r11.lt n0
  have dUx12 := Nat.lt_of_lt_of_le rU.lt n0
  have dVx12 := Nat.lt_of_lt_of_le rV.lt n0
  have b12 := Nat.le_trans sb.size n0
  clear n0
  replace r4 := k.row r4 (by simp <;> omega)
  replace r5 := k.row r5 (by simp <;> omega)
  replace rG := k.row rG (by simp <;> omega)
  replace rR := k.row rR (by simp <;> omega)
  replace rF := k.row rF (by simp <;> omega)
  replace r10 := k.row r10 (by simp <;> omega)
  replace r11 := k.row r11 (by simp <;> omega)
  replace rU := k.row rU (by simp <;> omega)
  replace rV := k.row rV (by simp <;> omega)
  replace sb := sb.trans (k.below w.heap.size sb.size (by simp <;> omega))
  clear k
  refine pw_put (by rfl) 24 _ _ rfl _ rfl r12 (natC T) rfl (by exact size_nat) (by simp only [natC_size]) (natC_one _) ?_
  clear r12
  intro z6012 r12 k
  simp only [Act.put]
  replace r4 := k.row r4 (by simp <;> omega)
  replace r5 := k.row r5 (by simp <;> omega)
  replace rG := k.row rG (by simp <;> omega)
  replace rR := k.row rR (by simp <;> omega)
  replace rF := k.row rF (by simp <;> omega)
  replace r10 := k.row r10 (by simp <;> omega)
  replace r11 := k.row r11 (by simp <;> omega)
  replace rU := k.row rU (by simp <;> omega)
  replace rV := k.row rV (by simp <;> omega)
  replace sb := sb.trans (k.below w.heap.size sb.size (by simp <;> omega))
  clear k
  refine pw_as (by rfl) rfl rfl ?_
  simp only [Act.put, pu]
  refine pw_nil ?_
  clear rU rV hml hlA hlB hie hz hs1 hs2 hsz hx hy
  (repeat ((fail_if_success with_reducible refine rg ?_); go_step))
  refine wp_region_pw ?_
  refine pw_mv (by rfl) rfl rfl ?_
  simp only [Act.put, pu]
  refine pw_loadm (by rfl) 24 _ rfl _ 0 rfl r4.r _ (part_all _) _ Try.underlying24 rfl size_nat ?_
  simp only [Act.put, pu]
  refine pw_loadm (by rfl) 24 _ rfl _ 0 rfl r5.r _ (part_all _) _ Try.underlying24 rfl size_nat ?_
  simp only [Act.put, pu]
  refine pw_callB (by rfl) 10 _ _ rfl Try.func10 (by kernel_rfl) #[.pointer (some ⟨g, 0, none⟩), .agg (natC A), .agg (natC B)] rfl _ (htw _ g gr gf ⟨rG, rR, rF⟩) ?_
  intro z7003 k
  simp only [Act.put, pu]
  replace r4 := k.row r4 (by simp <;> omega)
  replace r5 := k.row r5 (by simp <;> omega)
  replace rG := k.row rG (by simp <;> omega)
  replace rR := k.row rR (by simp <;> omega)
  replace rF := k.row rF (by simp <;> omega)
  replace r10 := k.row r10 (by simp <;> omega)
  replace r11 := k.row r11 (by simp <;> omega)
  replace r12 := k.row r12 (by simp <;> omega)
  replace sb := sb.trans (k.below w.heap.size sb.size (by simp <;> omega))
  clear k
  refine pw_new (by rfl) 24 rfl _ zero_nat ?_
  intro g14 z7004 n0 r14 k
  simp only [Act.put, pu]
  have d4x14 := Nat.lt_of_lt_of_le r4.lt n0
  have d5x14 := Nat.lt_of_lt_of_le r5.lt n0
  have dGx14 := Nat.lt_of_lt_of_le rG.lt n0
  have dRx14 := Nat.lt_of_lt_of_le rR.lt n0
  have dFx14 := Nat.lt_of_lt_of_le rF.lt n0
  have d10x14 := Nat.lt_of_lt_of_le r10.lt n0
  have d11x14 := Nat.lt_of_lt_of_le r11.lt n0
  have d12x14 := Nat.lt_of_lt_of_le r12.lt n0
  have b14 := Nat.le_trans sb.size n0
  clear n0
  replace r4 := k.row r4 (by simp <;> omega)
  replace r5 := k.row r5 (by simp <;> omega)
  replace rG := k.row rG (by simp <;> omega)
  replace rR := k.row rR (by simp <;> omega)
  replace rF := k.row rF (by simp <;> omega)
  replace r10 := k.row r10 (by simp <;> omega)
  replace r11 := k.row r11 (by simp <;> omega)
  replace r12 := k.row r12 (by simp <;> omega)
  replace sb := sb.trans (k.below w.heap.size sb.size (by simp <;> omega))
  clear k
  refine pw_put (by rfl) 24 _ _ rfl _ rfl r14 (natC W) rfl (by exact size_nat) (by simp only [natC_size]) (natC_one _) ?_
  clear r14
  intro z7005 r14 k
  simp only [Act.put]
  replace r4 := k.row r4 (by simp <;> omega)
  replace r5 := k.row r5 (by simp <;> omega)
  replace rG := k.row rG (by simp <;> omega)
  replace rR := k.row rR (by simp <;> omega)
  replace rF := k.row rF (by simp <;> omega)
  replace r10 := k.row r10 (by simp <;> omega)
  replace r11 := k.row r11 (by simp <;> omega)
  replace r12 := k.row r12 (by simp <;> omega)
  replace sb := sb.trans (k.below w.heap.size sb.size (by simp <;> omega))
  clear k
  refine pw_nil ?_
  (repeat ((fail_if_success with_reducible refine rg ?_); go_step))
  refine wp_region_pw ?_
  refine pw_mv (by rfl) rfl rfl ?_
  simp only [Act.put, pu]
  refine pw_loadm (by rfl) 24 _ rfl _ 0 rfl r14.r _ (part_all _) _ Try.underlying24 rfl size_nat ?_
  simp only [Act.put, pu]
  refine pw_loadm (by rfl) 24 _ rfl _ 0 rfl r14.r _ (part_all _) _ Try.underlying24 rfl size_nat ?_
  simp only [Act.put, pu]
  refine pw_callB (by rfl) 11 _ _ rfl Try.func11 (by kernel_rfl) #[.pointer (some ⟨g, 0, none⟩), .agg (natC W), .agg (natC W)] rfl _ (hsu _ g gr gf ⟨rG, rR, rF⟩) ?_
  intro z8003 k
  simp only [Act.put, pu]
  replace r4 := k.row r4 (by simp <;> omega)
  replace r5 := k.row r5 (by simp <;> omega)
  replace rG := k.row rG (by simp <;> omega)
  replace rR := k.row rR (by simp <;> omega)
  replace rF := k.row rF (by simp <;> omega)
  replace r10 := k.row r10 (by simp <;> omega)
  replace r11 := k.row r11 (by simp <;> omega)
  replace r12 := k.row r12 (by simp <;> omega)
  replace r14 := k.row r14 (by simp <;> omega)
  replace sb := sb.trans (k.below w.heap.size sb.size (by simp <;> omega))
  clear k
  refine pw_new (by rfl) 24 rfl _ zero_nat ?_
  intro g15 z8004 n0 r15 k
  simp only [Act.put, pu]
  have d4x15 := Nat.lt_of_lt_of_le r4.lt n0
  have d5x15 := Nat.lt_of_lt_of_le r5.lt n0
  have dGx15 := Nat.lt_of_lt_of_le rG.lt n0
  have dRx15 := Nat.lt_of_lt_of_le rR.lt n0
  have dFx15 := Nat.lt_of_lt_of_le rF.lt n0
  have d10x15 := Nat.lt_of_lt_of_le r10.lt n0
  have d11x15 := Nat.lt_of_lt_of_le r11.lt n0
  have d12x15 := Nat.lt_of_lt_of_le r12.lt n0
  have d14x15 := Nat.lt_of_lt_of_le r14.lt n0
  have b15 := Nat.le_trans sb.size n0
  clear n0
  replace r4 := k.row r4 (by simp <;> omega)
  replace r5 := k.row r5 (by simp <;> omega)
  replace rG := k.row rG (by simp <;> omega)
  replace rR := k.row rR (by simp <;> omega)
  replace rF := k.row rF (by simp <;> omega)
  replace r10 := k.row r10 (by simp <;> omega)
  replace r11 := k.row r11 (by simp <;> omega)
  replace r12 := k.row r12 (by simp <;> omega)
  replace r14 := k.row r14 (by simp <;> omega)
  replace sb := sb.trans (k.below w.heap.size sb.size (by simp <;> omega))
  clear k
  refine pw_put (by rfl) 24 _ _ rfl _ rfl r15 (natC Z) rfl (by exact size_nat) (by simp only [natC_size]) (natC_one _) ?_
  clear r15
  intro z8005 r15 k
  simp only [Act.put]
  replace r4 := k.row r4 (by simp <;> omega)
  replace r5 := k.row r5 (by simp <;> omega)
  replace rG := k.row rG (by simp <;> omega)
  replace rR := k.row rR (by simp <;> omega)
  replace rF := k.row rF (by simp <;> omega)
  replace r10 := k.row r10 (by simp <;> omega)
  replace r11 := k.row r11 (by simp <;> omega)
  replace r12 := k.row r12 (by simp <;> omega)
  replace r14 := k.row r14 (by simp <;> omega)
  replace sb := sb.trans (k.below w.heap.size sb.size (by simp <;> omega))
  clear k
  refine pw_nil ?_
  (repeat ((fail_if_success with_reducible refine rg ?_); go_step))
  refine wp_region_pw ?_
  refine pw_mv (by rfl) rfl rfl ?_
  simp only [Act.put, pu]
  refine pw_mv (by rfl) rfl rfl ?_
  simp only [Act.put, pu]
  refine pw_value (by rfl) (.agg (natC 0)) (exec_build0 _ rfl _ built_nat) ?_
  simp only [Act.put, pu]
  refine pw_loadm (by rfl) 24 _ rfl _ 0 rfl r4.r _ (part_all _) _ Try.underlying24 rfl size_nat ?_
  simp only [Act.put, pu]
  refine pw_callB (by rfl) 12 _ _ rfl Try.func12 (by kernel_rfl) #[.pointer (some ⟨g, 0, none⟩), .agg (natC 0), .agg (natC A)] rfl _ (hsb _ g gr gf ⟨rG, rR, rF⟩) ?_
  intro z9004 k
  simp only [Act.put, pu]
  replace r4 := k.row r4 (by simp <;> omega)
  replace r5 := k.row r5 (by simp <;> omega)
  replace rG := k.row rG (by simp <;> omega)
  replace rR := k.row rR (by simp <;> omega)
  replace rF := k.row rF (by simp <;> omega)
  replace r10 := k.row r10 (by simp <;> omega)
  replace r11 := k.row r11 (by simp <;> omega)
  replace r12 := k.row r12 (by simp <;> omega)
  replace r14 := k.row r14 (by simp <;> omega)
  replace r15 := k.row r15 (by simp <;> omega)
  replace sb := sb.trans (k.below w.heap.size sb.size (by simp <;> omega))
  clear k
  refine pw_callB (by rfl) 8 _ _ rfl Try.func8 (by kernel_rfl) #[.pointer (some ⟨g, 0, none⟩), .agg (natC V)] rfl _ (hov _ g gr gf ⟨rG, rR, rF⟩) ?_
  intro z9005 k
  simp only [Act.put, pu]
  replace r4 := k.row r4 (by simp <;> omega)
  replace r5 := k.row r5 (by simp <;> omega)
  replace rG := k.row rG (by simp <;> omega)
  replace rR := k.row rR (by simp <;> omega)
  replace rF := k.row rF (by simp <;> omega)
  replace r10 := k.row r10 (by simp <;> omega)
  replace r11 := k.row r11 (by simp <;> omega)
  replace r12 := k.row r12 (by simp <;> omega)
  replace r14 := k.row r14 (by simp <;> omega)
  replace r15 := k.row r15 (by simp <;> omega)
  replace sb := sb.trans (k.below w.heap.size sb.size (by simp <;> omega))
  clear k
  refine pw_new (by rfl) 24 rfl _ zero_nat ?_
  intro g16 z9006 n0 r16 k
  simp only [Act.put, pu]
  have d4x16 := Nat.lt_of_lt_of_le r4.lt n0
  have d5x16 := Nat.lt_of_lt_of_le r5.lt n0
  have dGx16 := Nat.lt_of_lt_of_le rG.lt n0
  have dRx16 := Nat.lt_of_lt_of_le rR.lt n0
  have dFx16 := Nat.lt_of_lt_of_le rF.lt n0
  have d10x16 := Nat.lt_of_lt_of_le r10.lt n0
  have d11x16 := Nat.lt_of_lt_of_le r11.lt n0
  have d12x16 := Nat.lt_of_lt_of_le r12.lt n0
  have d14x16 := Nat.lt_of_lt_of_le r14.lt n0
  have d15x16 := Nat.lt_of_lt_of_le r15.lt n0
  have b16 := Nat.le_trans sb.size n0
  clear n0
  replace r4 := k.row r4 (by simp <;> omega)
  replace r5 := k.row r5 (by simp <;> omega)
  replace rG := k.row rG (by simp <;> omega)
  replace rR := k.row rR (by simp <;> omega)
  replace rF := k.row rF (by simp <;> omega)
  replace r10 := k.row r10 (by simp <;> omega)
  replace r11 := k.row r11 (by simp <;> omega)
  replace r12 := k.row r12 (by simp <;> omega)
  replace r14 := k.row r14 (by simp <;> omega)
  replace r15 := k.row r15 (by simp <;> omega)
  replace sb := sb.trans (k.below w.heap.size sb.size (by simp <;> omega))
  clear k
  refine pw_put (by rfl) 24 _ _ rfl _ rfl r16 (natC N) rfl (by exact size_nat) (by simp only [natC_size]) (natC_one _) ?_
  clear r16
  intro z9007 r16 k
  simp only [Act.put]
  replace r4 := k.row r4 (by simp <;> omega)
  replace r5 := k.row r5 (by simp <;> omega)
  replace rG := k.row rG (by simp <;> omega)
  replace rR := k.row rR (by simp <;> omega)
  replace rF := k.row rF (by simp <;> omega)
  replace r10 := k.row r10 (by simp <;> omega)
  replace r11 := k.row r11 (by simp <;> omega)
  replace r12 := k.row r12 (by simp <;> omega)
  replace r14 := k.row r14 (by simp <;> omega)
  replace r15 := k.row r15 (by simp <;> omega)
  replace sb := sb.trans (k.below w.heap.size sb.size (by simp <;> omega))
  clear k
  refine pw_nil ?_
  have hg : GrpAt _ g gr gf PP QQ GG := ⟨rG, rR, rF⟩
  clear rG rR rF htw hsu hsb hov
  (repeat ((fail_if_success with_reducible refine rg ?_); go_step))
  refine wp_region_qw (by kernel_rfl) (by kernel_rfl) ?_
  refine qw_move (by rfl) rfl rfl ?_
  simp only [Act.put, pu]
  refine qw_load (by rfl) 24 _ rfl _ rfl r10 4 _ Try.underlying24 size_nat ?_
  simp only [Act.put, pu]
  refine qw_load (by rfl) 24 _ rfl _ rfl r11 4 _ Try.underlying24 size_nat ?_
  simp only [Act.put, pu]
  refine qw_callK (by rfl) 13 _ _ rfl Try.func13 (by kernel_rfl) #[.pointer (some ⟨g, 0, none⟩), .agg (natC X), .agg (natC Y)] rfl _ (fun w' hb => hmu w' g gr gf (hg.below hb)) ?_
  simp only [Act.put, pu]
  refine qw_move (by rfl) rfl rfl ?_
  simp only [Act.put, pu]
  refine qw_move (by rfl) rfl rfl ?_
  simp only [Act.put, pu]
  refine qw_load (by rfl) 24 _ rfl _ rfl r4 4 _ Try.underlying24 size_nat ?_
  simp only [Act.put, pu]
  refine qw_load (by rfl) 24 _ rfl _ rfl r5 4 _ Try.underlying24 size_nat ?_
  simp only [Act.put, pu]
  refine qw_callK (by rfl) 11 _ _ rfl Try.func11 (by kernel_rfl) #[.pointer (some ⟨g, 0, none⟩), .agg (natC A), .agg (natC B)] rfl _ (fun w' hb => had w' g gr gf (hg.below hb)) ?_
  simp only [Act.put, pu]
  refine qw_callK (by rfl) 8 _ _ rfl Try.func8 (by kernel_rfl) #[.pointer (some ⟨g, 0, none⟩), .agg (natC S)] rfl _ (fun w' hb => hos w' g gr gf (hg.below hb)) ?_
  simp only [Act.put, pu]
  refine qw_value (by rfl) (.bool true) (fun w' => (exec_eql_nat _ _ _ rfl U U rfl rfl w').trans (by rw [eqn_yes])) ?_
  simp only [Act.put, pu]
  refine qw_move (by rfl) rfl rfl ?_
  simp only [Act.put, pu]
  refine qw_move (by rfl) rfl rfl ?_
  simp only [Act.put, pu]
  refine qw_load (by rfl) 24 _ rfl _ rfl r10 4 _ Try.underlying24 size_nat ?_
  simp only [Act.put, pu]
  refine qw_load (by rfl) 24 _ rfl _ rfl r5 4 _ Try.underlying24 size_nat ?_
  simp only [Act.put, pu]
  refine qw_callK (by rfl) 14 _ _ rfl Try.func14 (by kernel_rfl) #[.pointer (some ⟨g, 0, none⟩), .agg (natC X), .agg (natC B)] rfl _ (fun w' hb => hex w' g gr gf (hg.below hb)) ?_
  simp only [Act.put, pu]
  refine qw_move (by rfl) rfl rfl ?_
  simp only [Act.put, pu]
  refine qw_load (by rfl) 24 _ rfl _ rfl r14 4 _ Try.underlying24 size_nat ?_
  simp only [Act.put, pu]
  refine qw_callK (by rfl) 8 _ _ rfl Try.func8 (by kernel_rfl) #[.pointer (some ⟨g, 0, none⟩), .agg (natC W)] rfl _ (fun w' hb => how w' g gr gf (hg.below hb)) ?_
  simp only [Act.put, pu]
  refine qw_value (by rfl) (.bool true) (fun w' => (exec_eql_nat _ _ _ rfl E E rfl rfl w').trans (by rw [eqn_yes])) ?_
  simp only [Act.put, pu]
  refine qw_pick true (v := .bool true) (by rfl) rfl rfl rfl ?_
  simp only [Act.put, pu]
  refine qw_move (by rfl) rfl rfl ?_
  simp only [Act.put, pu]
  refine qw_load (by rfl) 24 _ rfl _ rfl r12 4 _ Try.underlying24 size_nat ?_
  simp only [Act.put, pu]
  refine qw_move (by rfl) rfl rfl ?_
  simp only [Act.put, pu]
  refine qw_load (by rfl) 24 _ rfl _ rfl r15 4 _ Try.underlying24 size_nat ?_
  simp only [Act.put, pu]
  refine qw_callK (by rfl) 8 _ _ rfl Try.func8 (by kernel_rfl) #[.pointer (some ⟨g, 0, none⟩), .agg (natC Z)] rfl _ (fun w' hb => hoz w' g gr gf (hg.below hb)) ?_
  simp only [Act.put, pu]
  refine qw_value (by rfl) (.bool true) (fun w' => (exec_eql_nat _ _ _ rfl T T rfl rfl w').trans (by rw [eqn_yes])) ?_
  simp only [Act.put, pu]
  refine qw_pick true (v := .bool true) (by rfl) rfl rfl rfl ?_
  simp only [Act.put, pu]
  refine qw_move (by rfl) rfl rfl ?_
  simp only [Act.put, pu]
  refine qw_move (by rfl) rfl rfl ?_
  simp only [Act.put, pu]
  refine qw_value (by rfl) (.bool true) (exec_eql_k .i64 _ _ _ _ rfl 0 0 rfl rfl true rfl) ?_
  simp only [Act.put, pu]
  refine qw_pick true (v := .bool true) (by rfl) rfl rfl rfl ?_
  simp only [Act.put, pu]
  refine qw_move (by rfl) rfl rfl ?_
  simp only [Act.put, pu]
  refine qw_move (by rfl) rfl rfl ?_
  simp only [Act.put, pu]
  refine qw_load (by rfl) 24 _ rfl _ rfl r10 4 _ Try.underlying24 size_nat ?_
  simp only [Act.put, pu]
  refine qw_callK (by rfl) 15 _ _ rfl Try.func15 (by kernel_rfl) #[.pointer (some ⟨g, 0, none⟩), .agg (natC X)] rfl _ (fun w' hb => hin w' g gr gf (hg.below hb)) ?_
  simp only [Act.put, pu]
  refine qw_pick true (v := .bool true) (by rfl) rfl rfl rfl ?_
  simp only [Act.put, pu]
  refine qw_move (by rfl) rfl rfl ?_
  simp only [Act.put, pu]
  refine qw_move (by rfl) rfl rfl ?_
  simp only [Act.put, pu]
  refine qw_load (by rfl) 24 _ rfl _ rfl r10 4 _ Try.underlying24 size_nat ?_
  simp only [Act.put, pu]
  refine qw_callK (by rfl) 16 _ _ rfl Try.func16 (by kernel_rfl) #[.pointer (some ⟨g, 0, none⟩), .agg (natC X)] rfl _ (fun w' hb => hiv w' g gr gf (hg.below hb)) ?_
  simp only [Act.put, pu]
  refine qw_load (by rfl) 24 _ rfl _ rfl r16 4 _ Try.underlying24 size_nat ?_
  simp only [Act.put, pu]
  refine qw_value (by rfl) (.bool true) (fun w' => (exec_eql_nat _ _ _ rfl N N rfl rfl w').trans (by rw [eqn_yes])) ?_
  simp only [Act.put, pu]
  refine qw_pick true (v := .bool true) (by rfl) rfl rfl rfl ?_
  simp only [Act.put, pu]
  refine qw_move (by rfl) rfl rfl ?_
  simp only [Act.put, pu]
  refine qw_move (by rfl) rfl rfl ?_
  simp only [Act.put, pu]
  refine qw_load (by rfl) 24 _ rfl _ rfl r10 4 _ Try.underlying24 size_nat ?_
  simp only [Act.put, pu]
  refine qw_load (by rfl) 24 _ rfl _ rfl r16 4 _ Try.underlying24 size_nat ?_
  simp only [Act.put, pu]
  refine qw_callK (by rfl) 13 _ _ rfl Try.func13 (by kernel_rfl) #[.pointer (some ⟨g, 0, none⟩), .agg (natC X), .agg (natC N)] rfl _ (fun w' hb => hmn w' g gr gf (hg.below hb)) ?_
  simp only [Act.put, pu]
  refine qw_call (by rfl) 17 _ _ rfl Try.func17 (by kernel_rfl) #[.int .i64 1] rfl _ of1 ?_
  simp only [Act.put, pu]
  refine qw_value (by rfl) (.bool true) (fun w' => (exec_eql_nat _ _ _ rfl 1 1 rfl rfl w').trans (by rw [eqn_yes])) ?_
  simp only [Act.put, pu]
  refine qw_pick true (v := .bool true) (by rfl) rfl rfl rfl ?_
  simp only [Act.put, pu]
  refine qw_move (by rfl) rfl rfl ?_
  simp only [Act.put, pu]
  refine qw_call (by rfl) 18 _ _ rfl Try.func18 (by kernel_rfl) #[] rfl _ haw ?_
  simp only [Act.put, pu]
  refine qw_pick true (v := .bool true) (by rfl) rfl rfl rfl ?_
  simp only [Act.put, pu]
  refine qw_asg (by rfl) rfl rfl ?_
  simp only [Act.put, pu]
  refine qw_nil ?_
  intro w9 hqb
  replace sb := below_on sb (Nat.le_refl _) hqb
  clear hqb
  go_wp2
  go_ret
  exact ⟨rfl, sb⟩
 ·kernel_rfl
theorem walk (a0 : Int) (A B : Nat) (w : World) (_ : -9223372036854775808 ≤ a0 ∧ a0 ≤ 9223372036854775807) (hA : A < 2 ^ 256) (hB : B < 2 ^ 256) :
  Calls Try.prog 3 #[.int .i64 a0, .agg (natC A), .agg (natC B)] w fun e w' => e = .returned (.bool true) ∧ Below w.heap.size w w' := by
 obtain ⟨his, hlt, hG, h2, h63, hL⟩ := pk_gr (ly8 a0 % 3)
 obtain ⟨pP, pQ⟩ := grN_primes his
 have hiff := (grN_iff _ _ _ _).1 his
 have hQ9 := hiff.2.2.1
 have hG0 := hiff.2.2.2.1
 have hG1 := hiff.2.2.2.2.1
 have hGP := hiff.2.2.2.2.2.1
 have hord := hiff.2.2.2.2.2.2
 have hP := hlt (pk (ly8 a0 % 3) 3 3 5 - 1) (by omega)
 have hQ := hlt (pk (ly8 a0 % 3) 3 3 5 - 2) (by omega)
 have hnw : ∀ w' x, Row w' x (pk (ly8 a0 % 3) (lksC 3 (lN leL) twoA) (lksC 3 (lN otL) twoA) (lksC 5 (lN grL) twoA)) 44 → _ := fun w' x r => gnew_yes (pk (ly8 a0 % 3) 3 3 5) (pk (ly8 a0 % 3) 3 3 5) (some ⟨x, 0, none⟩) (pk (ly8 a0 % 3) leG otG grG) _ _ x 0 _ _ w' h63 hG (lks_links (hL ▸ r) hlt) his
 clear hL hlt his h63 hiff
 generalize lN (pk (ly8 a0 % 3) leL otL grL) (pk (ly8 a0 % 3) 3 3 5 - 1) = PP at *
 generalize lN (pk (ly8 a0 % 3) leL otL grL) (pk (ly8 a0 % 3) 3 3 5 - 2) = QQ at *
 have q0 : 0 < QQ := by omega
 have p0 : 0 < PP := by omega
 have q : FdQ QQ := ⟨⟨hQ, isP_odd pQ (by omega), pQ.1⟩, pQ⟩
 have qp : RgQ PP := ⟨hP, isP_odd pP (by omega), pP.1⟩
 have lq : ∀ x, x % QQ < 2 ^ 256 := fun x => Nat.lt_trans (Nat.mod_lt x q0) hQ
 have lp : ∀ x, x % PP < 2 ^ 256 := fun x => Nat.lt_trans (Nat.mod_lt x p0) hP
 have lv : sbN 0 A QQ < 2 ^ 256 := lq _
 have lz : 0 < 2 ^ 256 := by decide
 have add := fun x y (hx : x < 2 ^ 256) (hy : y < 2 ^ 256) w' g gr gf (h : GrpAt w' g gr gf PP QQ (pk (ly8 a0 % 3) leG otG grG)) => fAdd_ok x y g gr gf _ _ _ w' hx hy q h
 have pof := fun x (hx : x < 2 ^ 256) w' g gr gf (h : GrpAt w' g gr gf PP QQ (pk (ly8 a0 % 3) leG otG grG)) => qOf_ok x g gr gf _ _ _ w' hx hG qp h
 have mul := fun x y (hx : x < 2 ^ 256) (hy : y < 2 ^ 256) (r : Nat) (hr : x * y % PP = r) w' g gr gf (h : GrpAt w' g gr gf PP QQ (pk (ly8 a0 % 3) leG otG grG)) => hr ▸ qMul_ok x y g gr gf _ _ _ w' hx hy qp h
 refine core a0 (ly8 a0) (ly8 a0 % 3) A B ((pk (ly8 a0 % 3) leG otG grG) ^ A % PP) ((pk (ly8 a0 % 3) leG otG grG) ^ B % PP) (A * B % QQ) ((A * B % QQ + A * B % QQ) % QQ) (sbN 0 A QQ) ((pk (ly8 a0 % 3) leG otG grG) ^ sbN 0 A QQ % PP) ((pk (ly8 a0 % 3) leG otG grG) ^ ((A + B) % QQ) % PP) ((A + B) % QQ) ((pk (ly8 a0 % 3) leG otG grG) ^ (A * B % QQ) % PP) ((pk (ly8 a0 % 3) leG otG grG) ^ ((A * B % QQ + A * B % QQ) % QQ) % PP) (pk (ly8 a0 % 3) leG otG grG) PP QQ 3 3 5 leG otG grG _ _ _ w (and_ly8 a0) rfl rleast_any rother_any rgreat_any hnw
  (pof A hA) (pof B hB) (fun w' g gr gf h => fMul_ok A B g gr gf _ _ _ w' hA hB q h) (add _ _ (lq _) (lq _)) (fun w' g gr gf h => fSub_ok 0 A g gr gf _ _ _ w' lz hA q h) (pof _ lv)
  (mul _ _ (lp _) (lp _) _ (qp_add pP.1 hord A B)) (add A B hA hB) (pof _ (lq _)) (fun w' g gr gf h => ?_) (pof _ (lq _)) (pof _ (lq _)) (fun w' g gr gf h => ?_) (mul _ _ (lp _) (lp _) _ (qp_one pP.1 q0 hord A)) (fun w' g gr gf h => ?_) (fun w' g gr gf h x y rx ry => ?_)
 ·have := qExp_ok ((pk (ly8 a0 % 3) leG otG grG) ^ A % PP) B g gr gf _ _ _ w' (lp _) hB qp h
  rw [qp_mul pP.1 hord] at this
  exact this
 ·have := qInv_ok ((pk (ly8 a0 % 3) leG otG grG) ^ A % PP) g gr gf _ _ _ w' (lp _) q0 hQ qp h
  rw [qp_inv pP.1 q0 hord] at this
  exact this
 ·have := qIn_ok ((pk (ly8 a0 % 3) leG otG grG) ^ A % PP) g gr gf _ _ _ w' (lp _) hQ qp h
  rw [mem_yes pP.1 hord] at this
  exact this
 ·have := qMulti_ok g gr gf _ _ _ 2 2 2 (some ⟨x, 0, none⟩) (some ⟨y, 0, none⟩) _ _ x 0 y 0 _ _ _ _ w' (by decide) (nats_two rx (lp _) (lp _)) (nats_two ry hB hA) qp h
  rw [qp_two pP.1 hord] at this
  exact this
set_option maxRecDepth 100000 in
theorem lifted (os : Os) (started : os.Started) (H : Type) (enc : TypeId × Value → H) :
  ReturnsInHanded {} Try.checked os 3 .any (Rows.powerLeadsSpec.pre6 enc Try.prog Try.f3 Rows.powerLeadsRow.domain false) (Rows.powerLeadsSpec.post enc Try.prog Try.f3 false true false false) := by
 refine returnsInHanded_of_change (C := Try.checked) own started (by kernel_rfl) Try.func3
  (ChangeSpec.witness6 (enc := enc) (C := Try.checked) false ⟨#[], #[.int .i64 0, .agg #[.int .u64 0, .int .u64 0, .int .u64 0, .int .u64 0], .agg #[.int .u64 0, .int .u64 0, .int .u64 0, .int .u64 0]], []⟩ 8 (by kernel_rfl) (by kernel_rfl) (by kernel_rfl) (by kernel_rfl)) ?_
 intro W base args ds gs before hval0 hW hcnd _
 have hval : ∀ (j : Nat) t v, Try.f3.params[j]? = some t → args[j]? = some v → Value.okWide Try.prog W .any base t v := hval0
 have hW' := hW
 obtain ⟨p, q, hA0, hV, rfl, hfz, hnd⟩ := hW
 have hA : DataW.TrodAll enc Try.prog W 0 (fun _ => true) true Try.f3.params.toList args.toList ds p := hA0
 rw [Try.params3] at hA hval
 obtain ⟨v0, vs0, d0, ds0, p0, q0, hargs, rfl, rfl, h0, r0⟩ := trodAll_cons hA
 obtain ⟨v1, vs1, d1, ds1, p1, q1, rfl, rfl, rfl, h1, r1⟩ := trodAll_cons r0
 obtain ⟨v2, vs2, d2, ds2, p2, q2, rfl, rfl, rfl, h2, r2⟩ := trodAll_cons r1
 obtain ⟨rfl, rfl, rfl⟩ := trodAll_nil r2
 obtain rfl : args = #[v0, v1, v2] := by cases args; simp_all
 obtain ⟨rfl, rfl⟩ := trodVars_none hV
 have k0 := h0
 have lt0 := lt_of_trod h0
 obtain ⟨a0, rfl, rfl, rfl, w0⟩ := open_int Try.underlying3 (hval 0 3 v0 rfl rfl) h0
 have k1 := h1
 have lt1 := lt_of_trod h1
 obtain ⟨N1, hN1, rfl⟩ := open_nat (hval 1 24 v1 rfl rfl) h1
 have k2 := h2
 have lt2 := lt_of_trod h2
 obtain ⟨N2, hN2, rfl⟩ := open_nat (hval 2 24 v2 rfl rfl) h2
 clear hA0 hval0
 refine (walk a0 N1 N2 W (bounds_i64 w0) hN1 hN2).mono fun e W' ⟨he, bel⟩ => ?_
 subst he
 exact ⟨_, rfl, _, _, _, [], _, [], hW', trodAll_mk1 (shut_bool Try.underlying4 _), (trodAll_cons_mk (Below.trod laidOut (by kernel_rfl) (of_decide_eq_true (by kernel_rfl)) k0 bel lt0) (trodAll_cons_mk (Below.trod laidOut (by kernel_rfl) (of_decide_eq_true (by kernel_rfl)) k1 bel lt1) (trodAll_cons_mk (Below.trod laidOut (by kernel_rfl) (of_decide_eq_true (by kernel_rfl)) k2 bel lt2) trodAll_mk0))), rfl, bel.frame _, fun h => by cases h⟩
theorem over : Rows.powerLeadsRow.holds Try.pinned (OpenSpec.ofChange Rows.powerLeadsSpec) :=
 OpenClaim.holds_of_wide 3 Try.f3 rfl rfl rfl rfl rfl rfl rfl ⟨rfl, rfl, rfl, rfl, rfl⟩ rfl rfl rfl rfl rfl (by kernel_rfl) Try.func3 (by kernel_rfl)
  (of_decide_eq_true (by kernel_rfl)) (by unfold Func.isWrapper; first | (rw [if_pos (by decide +kernel)]; kernel_rfl) | (rw [if_neg (by decide +kernel)]; exact ⟨rfl, rfl⟩))
  (fun os started H enc _ => lifted os started H enc)
end powerLeadsP
/-- for every number and every two naturals: powers of a given group's G lead sums to products, they are members, and have the inverse that Inv tells; no condition. -/
theorem powerLeads_holds : Rows.PowerLeadsSaid := powerLeadsP.over
end Go.Proofs.Yteddgjoailpgaab
