/- GroupOrder: for every number and every two naturals: powers of a given group's G are the same just if their exponents are by Q; no condition. -/
import Derived.Test.YtbmkebdfaokmhaaGAwake
import Derived.Test.YtbmkebdfaokmhaaGGivM
import Derived.Test.YtbmkebdfaokmhaaGO
import Derived.Test.YtbmkebdfaokmhaaGU
namespace Go.Proofs.Ytbmkebdfaokmhaa
open Go.ChangeShapes Go.WideShapes Go.ChangeAt Go.RowKit
namespace groupOrderP
/-- One of three. -/
def pk {α : Type} (m : Nat) (a b c : α) : α := if m = 0 then a else if m = 1 then b else c
theorem info_pax : (Try.prog.info? 27).map (fun i => (i.zero, i.size)) = some (some (.agg #[.slice none 0 0, .int .u64 0, .int .u64 0, .int .u64 0, .int .u64 0]), 5) := by kernel_rfl
theorem info_pa' : ∃ i, Try.prog.info? 27 = some i ∧ i.zero = some (Value.agg #[.slice none 0 0, .int .u64 0, .int .u64 0, .int .u64 0, .int .u64 0]) ∧ i.size = 5 := by
 cases hi : Try.prog.info? 27 with
 | none => have := info_pax; rw [hi] at this; cases this
 | some i =>
  have h := info_pax
  rw [hi] at h
  simp only [Option.map_some, Option.some.injEq, Prod.mk.injEq] at h
  exact ⟨i, rfl, h.1, h.2⟩
/-- Three parameters one behind the other. -/
def pasC (x y z : Option Addr) (n m l X Y Z : Nat) : Array Value := #[.slice x n n, .int .u64 (lm X 0), .int .u64 (lm X 1), .int .u64 (lm X 2), .int .u64 (lm X 3), .slice y m m, .int .u64 (lm Y 0), .int .u64 (lm Y 1), .int .u64 (lm Y 2), .int .u64 (lm Y 3), .slice z l l, .int .u64 (lm Z 0), .int .u64 (lm Z 1), .int .u64 (lm Z 2), .int .u64 (lm Z 3)]
set_option maxRecDepth 100000 in
theorem lit_pas (x y z : Option Addr) (n m l X Y Z : Nat) (k : Nat) (hk : k = 5) : Instr.fill (fun i => some (i * k, k)) ((Array.range (3 * k)).map ((Value.agg #[.slice none 0 0, .int .u64 0, .int .u64 0, .int .u64 0, .int .u64 0]).cells[· % (Value.agg #[.slice none 0 0, .int .u64 0, .int .u64 0, .int .u64 0, .int .u64 0]).cells.size]!)) [(0, .agg (paC x n n X)), (1, .agg (paC y m m Y)), (2, .agg (paC z l l Z))] = some (pasC x y z n m l X Y Z) := by
 subst hk
 unfold paC pasC
 generalize lm X 0 = a0
 generalize lm X 1 = a1
 generalize lm X 2 = a2
 generalize lm X 3 = a3
 generalize lm Y 0 = b0
 generalize lm Y 1 = b1
 generalize lm Y 2 = b2
 generalize lm Y 3 = b3
 generalize lm Z 0 = c0
 generalize lm Z 1 = c1
 generalize lm Z 2 = c2
 generalize lm Z 3 = c3
 kernel_rfl
theorem list_five {c0 c1 c2 c3 c4 : Value} {cs : Array Value} {off : Nat} (h0 : cs[off]? = some c0) (h1 : cs[off + 1]? = some c1) (h2 : cs[off + 2]? = some c2) (h3 : cs[off + 3]? = some c3) (h4 : cs[off + 4]? = some c4) : ∀ j v, [c0, c1, c2, c3, c4][j]? = some v → cs[off + j]? = some v := by
 intro j v hv
 match j, hv with
 | 0, hv => rw [← hv]; exact h0
 | 1, hv => rw [← hv]; exact h1
 | 2, hv => rw [← hv]; exact h2
 | 3, hv => rw [← hv]; exact h3
 | 4, hv => rw [← hv]; exact h4
 | j + 5, hv => simp at hv
theorem pas_part (x y z n m l X Y Z : Nat) (k : Nat) (hk : k < 3) : ∀ j v, (paC (some ⟨pk k x y z, 0, none⟩) (pk k n m l) (pk k n m l) (pk k X Y Z)).toList[j]? = some v → (pasC (some ⟨x, 0, none⟩) (some ⟨y, 0, none⟩) (some ⟨z, 0, none⟩) n m l X Y Z)[0 + k * 5 + j]? = some v := by
 match k, hk with
 | 0, _ => exact list_five rfl rfl rfl rfl rfl
 | 1, _ => exact list_five rfl rfl rfl rfl rfl
 | 2, _ => exact list_five rfl rfl rfl rfl rfl
theorem pk_row {w : World} {x y z : Nat} {a b c : Array Value} {t : TypeId} (k : Nat) (h1 : Row w x a t) (h2 : Row w y b t) (h3 : Row w z c t) : Row w (pk k x y z) (pk k a b c) t := by
 unfold pk
 split
 ·exact h1
 ·split
  ·exact h2
  ·exact h3
/-- The lowest eight bits. -/
def ly8 (x : Int) : Nat := (x % 256).toNat
theorem ly8_lt (x : Int) : ly8 x < 256 := by unfold ly8; omega
theorem and_ly8 (x : Int) : bits .and .i64 x 255 = ((ly8 x : Nat) : Int) := by
 show IntKind.i64.wrap ((BitVec.ofInt 64 x &&& BitVec.ofInt 64 255).toNat : Int) = _
 have h255 : (BitVec.ofInt 64 255).toNat = 2 ^ 8 - 1 := by decide
 rw [BitVec.toNat_and, h255, Nat.and_two_pow_sub_one_eq_mod, BitVec.toNat_ofInt]
 have e : (x % ((2 ^ 64 : Nat) : Int)).toNat % 2 ^ 8 = ly8 x := by
  unfold ly8
  omega
 rw [e]
 exact wrap_i64 _ (by have := ly8_lt x; omega)
set_option maxRecDepth 100000 in
set_option maxHeartbeats 2000000 in
theorem core (a0 : Int) (m0 m A B S T X Y GG PP QQ n0 n1 n2 G0 G1 G2 : Nat) (L0 L1 L2 : Array Value) (BB : Bool) (w : World) (hm0 : bits .and .i64 a0 255 = (m0 : Int)) (hm : m0 % 3 = m)
  (hB1 : decide (S % 2 ^ 256 = T % 2 ^ 256) = BB) (hB2 : decide (X % 2 ^ 256 = Y % 2 ^ 256) = BB)
  (hA0 : ∀ w', Calls Try.prog 7 #[] w' fun e w2 => ∃ g, e = .returned (.agg (paC (some ⟨g, 0, none⟩) n0 n0 G0)) ∧ w'.heap.size ≤ g ∧ Row w2 g L0 58 ∧ Below w'.heap.size w' w2)
  (hA1 : ∀ w', Calls Try.prog 9 #[] w' fun e w2 => ∃ g, e = .returned (.agg (paC (some ⟨g, 0, none⟩) n1 n1 G1)) ∧ w'.heap.size ≤ g ∧ Row w2 g L1 58 ∧ Below w'.heap.size w' w2)
  (hA2 : ∀ w', Calls Try.prog 11 #[] w' fun e w2 => ∃ g, e = .returned (.agg (paC (some ⟨g, 0, none⟩) n2 n2 G2)) ∧ w'.heap.size ≤ g ∧ Row w2 g L2 58 ∧ Below w'.heap.size w' w2)
  (hnw : ∀ w' x, Row w' x (pk m L0 L1 L2) 58 → Calls Try.prog 13 #[.agg (paC (some ⟨x, 0, none⟩) (pk m n0 n1 n2) (pk m n0 n1 n2) (pk m G0 G1 G2))] w' fun e w2 => ∃ g gr gf, e = .returned (.tuple #[.pointer (some ⟨g, 0, none⟩), .int .i64 0]) ∧ GrpAt w2 g gr gf PP QQ GG ∧ Below w'.heap.size w' w2)
  (hrx : ∀ w', Calls Try.prog 29 #[.agg (natC A), .agg (natC 0), .agg (natC QQ)] w' fun e w2 => e = .returned (.tuple #[.agg (natC X), .int .i64 0]) ∧ Below w'.heap.size w' w2)
  (hry : ∀ w', Calls Try.prog 29 #[.agg (natC B), .agg (natC 0), .agg (natC QQ)] w' fun e w2 => e = .returned (.tuple #[.agg (natC Y), .int .i64 0]) ∧ Below w'.heap.size w' w2)
  (hes : ∀ w' g gr gf, GrpAt w' g gr gf PP QQ GG → Calls Try.prog 30 #[.pointer (some ⟨gr, 0, none⟩), .agg (natC GG), .agg (natC A)] w' fun e w2 => e = .returned (.agg (natC S)) ∧ Below w'.heap.size w' w2)
  (het : ∀ w' g gr gf, GrpAt w' g gr gf PP QQ GG → Calls Try.prog 30 #[.pointer (some ⟨gr, 0, none⟩), .agg (natC GG), .agg (natC B)] w' fun e w2 => e = .returned (.agg (natC T)) ∧ Below w'.heap.size w' w2)
  (hex : ∀ w' g gr gf, GrpAt w' g gr gf PP QQ GG → Calls Try.prog 30 #[.pointer (some ⟨gr, 0, none⟩), .agg (natC GG), .agg (natC X)] w' fun e w2 => e = .returned (.agg (natC S)) ∧ Below w'.heap.size w' w2)
  (heq : ∀ w' g gr gf, GrpAt w' g gr gf PP QQ GG → Calls Try.prog 30 #[.pointer (some ⟨gr, 0, none⟩), .agg (natC S), .agg (natC QQ)] w' fun e w2 => e = .returned (.agg (natC 1)) ∧ Below w'.heap.size w' w2)
  (hin : ∀ w' g gr gf, GrpAt w' g gr gf PP QQ GG → Calls Try.prog 32 #[.pointer (some ⟨gr, 0, none⟩), .agg (natC S)] w' fun e w2 => e = .returned (.bool true) ∧ Below w'.heap.size w' w2) :
  Calls Try.prog 5 #[.int .i64 a0, .agg (natC A), .agg (natC B)] w fun e w' => e = .returned (.bool true) ∧ Below w.heap.size w w' := by
 obtain ⟨ie, hie, hz, hsz⟩ := info_pa'
 have hs1 : ¬ 3 * ie.size > 2 ^ 24 := by rw [hsz]; decide
 have hs2 : ¬ 3 * ie.size = 0 := by rw [hsz]; decide
 have hl := fun x y z n m l X Y Z => lit_pas x y z n m l X Y Z ie.size hsz
 have hm3 : m < 3 := by rw [← hm]; exact Nat.mod_lt _ (by decide)
 have haw := awake7_any
 have hi1 := fun w' => rint_any 1 w' (by decide)
 rw [show (1 : Int).toNat = 1 from rfl] at hi1
 go_enter Try.func5, Try.ntmps5
 (repeat ((fail_if_success with_reducible refine rg ?_); go_step))
 refine wp_region_pw ?_
 refine pw_boxr (by rfl) 25 _ rfl (_) rfl ?_
 intro g4 z0 n0 r4 k
 simp only [Act.put, pu]
 have b4 : w.heap.size ≤ g4 := n0
 clear n0
 have sb := k.below w.heap.size (Nat.le_refl _) (by simp)
 clear k
 refine pw_boxr (by rfl) 25 _ rfl (_) rfl ?_
 intro g5 z1 n0 r5 k
 simp only [Act.put, pu]
 have d4x5 := Nat.lt_of_lt_of_le r4.lt n0
 have b5 := Nat.le_trans sb.size n0
 clear n0
 replace r4 := k.row r4 (by simp <;> omega)
 replace sb := sb.trans (k.below w.heap.size sb.size (by simp <;> omega))
 clear k
 refine pw_value (by rfl) (.bool false) (fun _ => rfl) ?_
 simp only [Act.put, pu]
 refine pw_nil ?_
 (repeat ((fail_if_success with_reducible refine rg ?_); go_step))
 refine wp_region_pw ?_
 refine pw_callE (by rfl) 7 _ _ rfl Try.func7 (by kernel_rfl) #[] rfl (hA0 _) ?_
 rintro _ z1000 ⟨gU, rfl, nU, rU, hb⟩
 refine ⟨_, rfl, ?_⟩
 simp only [Act.put, pu]
 have d4xU := Nat.lt_of_lt_of_le r4.lt nU
 have d5xU := Nat.lt_of_lt_of_le r5.lt nU
 have bU := Nat.le_trans sb.size nU
 clear nU
 have k := Kept.ofBelow hb
 clear hb
 replace r4 := k.row r4 (by simp <;> omega)
 replace r5 := k.row r5 (by simp <;> omega)
 replace sb := sb.trans (k.below w.heap.size sb.size (by simp <;> omega))
 clear k
 refine pw_callE (by rfl) 9 _ _ rfl Try.func9 (by kernel_rfl) #[] rfl (hA1 _) ?_
 rintro _ z1001 ⟨gV, rfl, nV, rV, hb⟩
 refine ⟨_, rfl, ?_⟩
 simp only [Act.put, pu]
 have d4xV := Nat.lt_of_lt_of_le r4.lt nV
 have d5xV := Nat.lt_of_lt_of_le r5.lt nV
 have dUxV := Nat.lt_of_lt_of_le rU.lt nV
 have bV := Nat.le_trans sb.size nV
 clear nV
 have k := Kept.ofBelow hb
 clear hb
 replace r4 := k.row r4 (by simp <;> omega)
 replace r5 := k.row r5 (by simp <;> omega)
 replace rU := k.row rU (by simp <;> omega)
 replace sb := sb.trans (k.below w.heap.size sb.size (by simp <;> omega))
 clear k
 refine pw_callE (by rfl) 11 _ _ rfl Try.func11 (by kernel_rfl) #[] rfl (hA2 _) ?_
 rintro _ z1002 ⟨gW, rfl, nW, rW, hb⟩
 refine ⟨_, rfl, ?_⟩
 simp only [Act.put, pu]
 have d4xW := Nat.lt_of_lt_of_le r4.lt nW
 have d5xW := Nat.lt_of_lt_of_le r5.lt nW
 have dUxW := Nat.lt_of_lt_of_le rU.lt nW
 have dVxW := Nat.lt_of_lt_of_le rV.lt nW
 have bW := Nat.le_trans sb.size nW
 clear nW
 have k := Kept.ofBelow hb
 clear hb
 replace r4 := k.row r4 (by simp <;> omega)
 replace r5 := k.row r5 (by simp <;> omega)
 replace rU := k.row rU (by simp <;> omega)
 replace rV := k.row rV (by simp <;> omega)
 replace sb := sb.trans (k.below w.heap.size sb.size (by simp <;> omega))
 clear k
 refine pw_litr (by rfl) 44 27 3 _ rfl (pasC (some ⟨gU, 0, none⟩) (some ⟨gV, 0, none⟩) (some ⟨gW, 0, none⟩) n0 n1 n2 G0 G1 G2) ie _ Try.underlying44 hie hz hs1 hs2 [(0, .agg (paC (some ⟨gU, 0, none⟩) n0 n0 G0)), (1, .agg (paC (some ⟨gV, 0, none⟩) n1 n1 G1)), (2, .agg (paC (some ⟨gW, 0, none⟩) n2 n2 G2))] rfl (hl _ _ _ _ _ _ _ _ _) ?_
 intro gT z1003 n0 rT k
 simp only [Act.put, pu]
 have d4xT := Nat.lt_of_lt_of_le r4.lt n0
 have d5xT := Nat.lt_of_lt_of_le r5.lt n0
 have dUxT := Nat.lt_of_lt_of_le rU.lt n0
 have dVxT := Nat.lt_of_lt_of_le rV.lt n0
 have dWxT := Nat.lt_of_lt_of_le rW.lt n0
 have bT := Nat.le_trans sb.size n0
 clear n0
 replace r4 := k.row r4 (by simp <;> omega)
 replace r5 := k.row r5 (by simp <;> omega)
 replace rU := k.row rU (by simp <;> omega)
 replace rV := k.row rV (by simp <;> omega)
 replace rW := k.row rW (by simp <;> omega)
 replace sb := sb.trans (k.below w.heap.size sb.size (by simp <;> omega))
 clear k
 refine pw_mv (by rfl) rfl rfl ?_
 simp only [Act.put, pu]
 refine pw_value (by rfl) (.int .i64 (m0 : Nat)) (fun w' => (exec_bits_i .and _ _ _ _ (.inl rfl) rfl a0 255 rfl rfl w').trans (by rw [hm0])) ?_
 simp only [Act.put, pu]
 refine pw_value (by rfl) (.int .i64 (m : Nat)) (fun w' => (exec_rem_i _ _ _ _ rfl m0 3 rfl rfl (by decide) w').trans (by rw [hm])) ?_
 simp only [Act.put, pu]
 refine pw_value (by rfl) (.pointer (some ⟨gT, 0 + m * 5, none⟩)) (exec_index_s 44 _ _ rfl gT 0 3 3 rfl m rfl hm3 _ Try.underlying44 5 Try.sizeOf27) ?_
 simp only [Act.put, pu]
 refine pw_loadm (by rfl) 27 _ rfl _ (0 + m * 5) rfl rT.r (paC (some ⟨pk m gU gV gW, 0, none⟩) (pk m n0 n1 n2) (pk m n0 n1 n2) (pk m G0 G1 G2)) (pas_part gU gV gW n0 n1 n2 G0 G1 G2 m hm3) _ Try.underlying27 rfl size_pa ?_
 simp only [Act.put, pu]
 refine pw_new (by rfl) 27 rfl _ zero_pa ?_
 intro g7 z1009 n0 r7 k
 simp only [Act.put, pu]
 have d4x7 := Nat.lt_of_lt_of_le r4.lt n0
 have d5x7 := Nat.lt_of_lt_of_le r5.lt n0
 have dUx7 := Nat.lt_of_lt_of_le rU.lt n0
 have dVx7 := Nat.lt_of_lt_of_le rV.lt n0
 have dWx7 := Nat.lt_of_lt_of_le rW.lt n0
 have dTx7 := Nat.lt_of_lt_of_le rT.lt n0
 have b7 := Nat.le_trans sb.size n0
 clear n0
 replace r4 := k.row r4 (by simp <;> omega)
 replace r5 := k.row r5 (by simp <;> omega)
 replace rU := k.row rU (by simp <;> omega)
 replace rV := k.row rV (by simp <;> omega)
 replace rW := k.row rW (by simp <;> omega)
 replace rT := k.row rT (by simp <;> omega)
 replace sb := sb.trans (k.below w.heap.size sb.size (by simp <;> omega))
 clear k
 refine pw_put (by rfl) 27 _ _ rfl _ rfl r7 (paC (some ⟨pk m gU gV gW, 0, none⟩) (pk m n0 n1 n2) (pk m n0 n1 n2) (pk m G0 G1 G2)) rfl (by exact size_pa) (by rfl) (pa_one _ _ _ _) ?_
 clear r7
 intro z1010 r7 k
 simp only [Act.put]
 replace r4 := k.row r4 (by simp <;> omega)
 replace r5 := k.row r5 (by simp <;> omega)
 replace rU := k.row rU (by simp <;> omega)
 replace rV := k.row rV (by simp <;> omega)
 replace rW := k.row rW (by simp <;> omega)
 replace rT := k.row rT (by simp <;> omega)
 replace sb := sb.trans (k.below w.heap.size sb.size (by simp <;> omega))
 clear k
 refine pw_nil ?_
 have rP := pk_row m rU rV rW
 clear rU rV rW rT hA0 hA1 hA2 hl hie hz hs1 hs2 hsz
 generalize pk m gU gV gW = gP at *
 generalize pk m n0 n1 n2 = N1 at *
 generalize pk m G0 G1 G2 = G3 at *
 generalize pk m L0 L1 L2 = LK at *
 (repeat ((fail_if_success with_reducible refine rg ?_); go_step))
 refine wp_region_pw ?_
 refine pw_loadm (by rfl) 27 _ rfl _ 0 rfl r7.r _ (part_all _) _ Try.underlying27 rfl size_pa ?_
 simp only [Act.put, pu]
 refine pw_callE (by rfl) 13 _ _ rfl Try.func13 (by kernel_rfl) #[.agg (paC (some ⟨gP, 0, none⟩) N1 N1 G3)] rfl (hnw _ gP rP) ?_
 rintro _ z2001 ⟨g, gr, gf, rfl, hg, hb⟩
 refine ⟨_, rfl, ?_⟩
 simp only [Act.put, pu]
 have k := Kept.ofBelow hb
 clear hb
 replace r4 := k.row r4 (by simp <;> omega)
 replace r5 := k.row r5 (by simp <;> omega)
 replace r7 := k.row r7 (by simp <;> omega)
 replace rP := k.row rP (by simp <;> omega)
 replace sb := sb.trans (k.below w.heap.size sb.size (by simp <;> omega))
 clear k
 refine pw_mv (by rfl) rfl rfl ?_
 simp only [Act.put, pu]
 refine pw_ext (by rfl) rfl rfl rfl ?_
 simp only [Act.put, pu]
 refine pw_ext (by rfl) rfl rfl rfl ?_
 simp only [Act.put, pu]
 refine pw_as (by rfl) rfl rfl ?_
 simp only [Act.put, pu]
 refine pw_as (by rfl) rfl rfl ?_
 simp only [Act.put, pu]
 refine pw_nil ?_
 clear hnw rP r7
 (repeat ((fail_if_success with_reducible refine rg ?_); go_step))
 refine wp_region_pw ?_
 refine pw_mv (by rfl) rfl rfl ?_
 simp only [Act.put, pu]
 refine pw_value (by rfl) (.bool false) (exec_neq_k .i64 _ _ _ _ rfl 0 0 rfl rfl false rfl) ?_
 simp only [Act.put, pu]
 refine pw_mv (by rfl) rfl rfl ?_
 simp only [Act.put, pu]
 refine pw_mv (by rfl) rfl rfl ?_
 simp only [Act.put, pu]
 refine pw_value (by rfl) (.bool false) (exec_eql_nilp _ _ _ _ rfl (some ⟨g, 0, none⟩) rfl rfl ptr_grp) ?_
 simp only [Act.put, pu]
 refine pw_pick (by rfl) false (v := .bool false) rfl rfl rfl ?_
 simp only [Act.put, pu]
 refine pw_nil ?_
 (repeat ((fail_if_success with_reducible refine rg ?_); go_step))
 apply wp_region_mix (by kernel_rfl) [] [_, _, _, _, _, _, _, _, _, _, _] trivial List.nodup_nil
 ·intro p
  refine mx_load 25 _ rfl _ rfl r4 (by simp <;> omega) 4 _ Try.underlying25 size_nat ?_
  simp only [Act.put, pu]
  refine mx_val (.agg (natC 0)) (exec_build0 _ rfl _ built_nat) ?_
  simp only [Act.put, pu]
  refine mx_move rfl rfl ?_
  simp only [Act.put, pu]
  refine mx_callK 18 _ _ rfl Try.func18 (by kernel_rfl) #[.pointer (some ⟨g, 0, none⟩)] rfl _ (fun w' hk => grpQ_any _ _ _ _ _ _ w' (hg.below (hk.below _ (Nat.le_refl _) (by simp))).kn) ?_
  simp only [Act.put, pu]
  refine mx_call 29 _ _ rfl Try.func29 (by kernel_rfl) #[.agg (natC A), .agg (natC 0), .agg (natC QQ)] rfl _ hrx ?_
  simp only [Act.put, pu]
  refine mx_move rfl rfl ?_
  simp only [Act.put, pu]
  refine mx_ext rfl rfl rfl ?_
  simp only [Act.put, pu]
  refine mx_ext rfl rfl rfl ?_
  simp only [Act.put, pu]
  refine mx_new 25 rfl _ zero_nat ?_
  simp only [Act.put, pu]
  refine mx_put 17 25 _ _ rfl rfl rfl (natC X) rfl (by exact size_nat) (by simp only [natC_size]) (natC_one _) ?_
  simp only [Act.put]
  refine mx_asg rfl rfl ?_
  simp only [Act.put, pu]
  refine mx_end ?_
  intro w6 hkw hrw hnew _
  have r10 : Row w6 (p 8) (natC X) 25 := hrw 17 (25, natC X) rfl
  replace r4 := hkw.row r4 (by simp)
  replace r5 := hkw.row r5 (by simp)
  have bb := hkw.below _ (Nat.le_refl _) (by simp)
  replace hg := hg.below bb
  replace sb := below_on sb (Nat.le_refl _) bb
  clear hkw hrw hnew bb hrx
  generalize p 8 = g10 at *
  (repeat ((fail_if_success with_reducible refine rg ?_); go_step))
  apply wp_region_mix (by kernel_rfl) [] [_, _, _, _, _, _, _, _, _, _, _] trivial List.nodup_nil
  ·intro p
   refine mx_load 25 _ rfl _ rfl r5 (by simp <;> omega) 4 _ Try.underlying25 size_nat ?_
   simp only [Act.put, pu]
   refine mx_val (.agg (natC 0)) (exec_build0 _ rfl _ built_nat) ?_
   simp only [Act.put, pu]
   refine mx_move rfl rfl ?_
   simp only [Act.put, pu]
   refine mx_callK 18 _ _ rfl Try.func18 (by kernel_rfl) #[.pointer (some ⟨g, 0, none⟩)] rfl _ (fun w' hk => grpQ_any _ _ _ _ _ _ w' (hg.below (hk.below _ (Nat.le_refl _) (by simp))).kn) ?_
   simp only [Act.put, pu]
   refine mx_call 29 _ _ rfl Try.func29 (by kernel_rfl) #[.agg (natC B), .agg (natC 0), .agg (natC QQ)] rfl _ hry ?_
   simp only [Act.put, pu]
   refine mx_move rfl rfl ?_
   simp only [Act.put, pu]
   refine mx_ext rfl rfl rfl ?_
   simp only [Act.put, pu]
   refine mx_ext rfl rfl rfl ?_
   simp only [Act.put, pu]
   refine mx_new 25 rfl _ zero_nat ?_
   simp only [Act.put, pu]
   refine mx_put 17 25 _ _ rfl rfl rfl (natC Y) rfl (by exact size_nat) (by simp only [natC_size]) (natC_one _) ?_
   simp only [Act.put]
   refine mx_asg rfl rfl ?_
   simp only [Act.put, pu]
   refine mx_end ?_
   intro w7 hkw hrw hnew _
   have r12 : Row w7 (p 8) (natC Y) 25 := hrw 17 (25, natC Y) rfl
   replace r4 := hkw.row r4 (by simp)
   replace r5 := hkw.row r5 (by simp)
   replace r10 := hkw.row r10 (by simp)
   have bb := hkw.below _ (Nat.le_refl _) (by simp)
   replace hg := hg.below bb
   replace sb := below_on sb (Nat.le_refl _) bb
   clear hkw hrw hnew bb hry
   generalize p 8 = g12 at *
   (repeat ((fail_if_success with_reducible refine rg ?_); go_step))
   apply wp_region_mix (by kernel_rfl) [] [_, _, _, _, _, _, _, _, _, _, _, _, _, _, _, _] trivial List.nodup_nil
   ·intro p
    refine mx_move rfl rfl ?_
    simp only [Act.put, pu]
    refine mx_callK 23 _ _ rfl Try.func23 (by kernel_rfl) #[.pointer (some ⟨g, 0, none⟩)] rfl _ (fun w' hk => grpRing_any _ _ _ _ _ _ w' (hg.below (hk.below _ (Nat.le_refl _) (by simp))).kn) ?_
    simp only [Act.put, pu]
    refine mx_move rfl rfl ?_
    simp only [Act.put, pu]
    refine mx_callK 20 _ _ rfl Try.func20 (by kernel_rfl) #[.pointer (some ⟨g, 0, none⟩)] rfl _ (fun w' hk => grpG_any _ _ _ _ _ _ w' (hg.below (hk.below _ (Nat.le_refl _) (by simp))).kn) ?_
    simp only [Act.put, pu]
    refine mx_load 25 _ rfl _ rfl r4 (by simp <;> omega) 4 _ Try.underlying25 size_nat ?_
    simp only [Act.put, pu]
    refine mx_callK 30 _ _ rfl Try.func30 (by kernel_rfl) #[.pointer (some ⟨gr, 0, none⟩), .agg (natC GG), .agg (natC A)] rfl _ (fun w' hk => hes w' g gr gf (hg.below (hk.below _ (Nat.le_refl _) (by simp)))) ?_
    simp only [Act.put, pu]
    refine mx_move rfl rfl ?_
    simp only [Act.put, pu]
    refine mx_callK 23 _ _ rfl Try.func23 (by kernel_rfl) #[.pointer (some ⟨g, 0, none⟩)] rfl _ (fun w' hk => grpRing_any _ _ _ _ _ _ w' (hg.below (hk.below _ (Nat.le_refl _) (by simp))).kn) ?_
    simp only [Act.put, pu]
    refine mx_move rfl rfl ?_
    simp only [Act.put, pu]
    refine mx_callK 20 _ _ rfl Try.func20 (by kernel_rfl) #[.pointer (some ⟨g, 0, none⟩)] rfl _ (fun w' hk => grpG_any _ _ _ _ _ _ w' (hg.below (hk.below _ (Nat.le_refl _) (by simp))).kn) ?_
    simp only [Act.put, pu]
    refine mx_load 25 _ rfl _ rfl r5 (by simp <;> omega) 4 _ Try.underlying25 size_nat ?_
    simp only [Act.put, pu]
    refine mx_callK 30 _ _ rfl Try.func30 (by kernel_rfl) #[.pointer (some ⟨gr, 0, none⟩), .agg (natC GG), .agg (natC B)] rfl _ (fun w' hk => het w' g gr gf (hg.below (hk.below _ (Nat.le_refl _) (by simp)))) ?_
    simp only [Act.put, pu]
    refine mx_new 25 rfl _ zero_nat ?_
    simp only [Act.put, pu]
    refine mx_new 25 rfl _ zero_nat ?_
    simp only [Act.put, pu]
    refine mx_put 25 25 _ _ rfl rfl rfl (natC S) rfl (by exact size_nat) (by simp only [natC_size]) (natC_one _) ?_
    simp only [Act.put]
    refine mx_put 27 25 _ _ rfl rfl rfl (natC T) rfl (by exact size_nat) (by simp only [natC_size]) (natC_one _) ?_
    simp only [Act.put]
    refine mx_end ?_
    intro w8 hkw hrw hnew _
    have r14 : Row w8 (p 12) (natC S) 25 := hrw 25 (25, natC S) rfl
    have r15 : Row w8 (p 13) (natC T) 25 := hrw 27 (25, natC T) rfl
    replace r10 := hkw.row r10 (by simp)
    replace r12 := hkw.row r12 (by simp)
    have bb := hkw.below _ (Nat.le_refl _) (by simp)
    replace hg := hg.below bb
    replace sb := below_on sb (Nat.le_refl _) bb
    clear hkw hrw hnew bb hes het r4 r5
    generalize p 12 = g14 at *
    generalize p 13 = g15 at *
    (repeat ((fail_if_success with_reducible refine rg ?_); go_step))
    refine wp_region_qw (by kernel_rfl) (by kernel_rfl) ?_
    refine qw_load (by rfl) 25 _ rfl _ rfl r14 4 _ Try.underlying25 size_nat ?_
    simp only [Act.put, pu]
    refine qw_load (by rfl) 25 _ rfl _ rfl r15 4 _ Try.underlying25 size_nat ?_
    simp only [Act.put, pu]
    refine qw_value (by rfl) (.bool BB) (fun w' => (exec_eql_nat _ _ _ rfl S T rfl rfl w').trans (by rw [hB1])) ?_
    simp only [Act.put, pu]
    refine qw_load (by rfl) 25 _ rfl _ rfl r10 4 _ Try.underlying25 size_nat ?_
    simp only [Act.put, pu]
    refine qw_load (by rfl) 25 _ rfl _ rfl r12 4 _ Try.underlying25 size_nat ?_
    simp only [Act.put, pu]
    refine qw_value (by rfl) (.bool BB) (fun w' => (exec_eql_nat _ _ _ rfl X Y rfl rfl w').trans (by rw [hB2])) ?_
    simp only [Act.put, pu]
    refine qw_value (by rfl) (.bool true) (exec_eql_bool _ _ _ _ rfl BB rfl rfl Try.underlying4) ?_
    simp only [Act.put, pu]
    refine qw_move (by rfl) rfl rfl ?_
    simp only [Act.put, pu]
    refine qw_load (by rfl) 25 _ rfl _ rfl r14 4 _ Try.underlying25 size_nat ?_
    simp only [Act.put, pu]
    refine qw_move (by rfl) rfl rfl ?_
    simp only [Act.put, pu]
    refine qw_callK (by rfl) 23 _ _ rfl Try.func23 (by kernel_rfl) #[.pointer (some ⟨g, 0, none⟩)] rfl _ (fun w' hb => grpRing_any _ _ _ _ _ _ w' (hg.below hb).kn) ?_
    simp only [Act.put, pu]
    refine qw_move (by rfl) rfl rfl ?_
    simp only [Act.put, pu]
    refine qw_callK (by rfl) 20 _ _ rfl Try.func20 (by kernel_rfl) #[.pointer (some ⟨g, 0, none⟩)] rfl _ (fun w' hb => grpG_any _ _ _ _ _ _ w' (hg.below hb).kn) ?_
    simp only [Act.put, pu]
    refine qw_load (by rfl) 25 _ rfl _ rfl r10 4 _ Try.underlying25 size_nat ?_
    simp only [Act.put, pu]
    refine qw_callK (by rfl) 30 _ _ rfl Try.func30 (by kernel_rfl) #[.pointer (some ⟨gr, 0, none⟩), .agg (natC GG), .agg (natC X)] rfl _ (fun w' hb => hex w' g gr gf (hg.below hb)) ?_
    simp only [Act.put, pu]
    refine qw_value (by rfl) (.bool true) (fun w' => (exec_eql_nat _ _ _ rfl S S rfl rfl w').trans (by rw [eqn_yes])) ?_
    simp only [Act.put, pu]
    refine qw_pick true (v := .bool true) (by rfl) rfl rfl rfl ?_
    simp only [Act.put, pu]
    refine qw_move (by rfl) rfl rfl ?_
    simp only [Act.put, pu]
    refine qw_move (by rfl) rfl rfl ?_
    simp only [Act.put, pu]
    refine qw_callK (by rfl) 23 _ _ rfl Try.func23 (by kernel_rfl) #[.pointer (some ⟨g, 0, none⟩)] rfl _ (fun w' hb => grpRing_any _ _ _ _ _ _ w' (hg.below hb).kn) ?_
    simp only [Act.put, pu]
    refine qw_load (by rfl) 25 _ rfl _ rfl r14 4 _ Try.underlying25 size_nat ?_
    simp only [Act.put, pu]
    refine qw_move (by rfl) rfl rfl ?_
    simp only [Act.put, pu]
    refine qw_callK (by rfl) 18 _ _ rfl Try.func18 (by kernel_rfl) #[.pointer (some ⟨g, 0, none⟩)] rfl _ (fun w' hb => grpQ_any _ _ _ _ _ _ w' (hg.below hb).kn) ?_
    simp only [Act.put, pu]
    refine qw_callK (by rfl) 30 _ _ rfl Try.func30 (by kernel_rfl) #[.pointer (some ⟨gr, 0, none⟩), .agg (natC S), .agg (natC QQ)] rfl _ (fun w' hb => heq w' g gr gf (hg.below hb)) ?_
    simp only [Act.put, pu]
    refine qw_call (by rfl) 31 _ _ rfl Try.func31 (by kernel_rfl) #[.int .i64 1] rfl _ hi1 ?_
    simp only [Act.put, pu]
    refine qw_value (by rfl) (.bool true) (fun w' => (exec_eql_nat _ _ _ rfl 1 1 rfl rfl w').trans (by rw [eqn_yes])) ?_
    simp only [Act.put, pu]
    refine qw_pick true (v := .bool true) (by rfl) rfl rfl rfl ?_
    simp only [Act.put, pu]
    refine qw_move (by rfl) rfl rfl ?_
    simp only [Act.put, pu]
    refine qw_move (by rfl) rfl rfl ?_
    simp only [Act.put, pu]
    refine qw_callK (by rfl) 23 _ _ rfl Try.func23 (by kernel_rfl) #[.pointer (some ⟨g, 0, none⟩)] rfl _ (fun w' hb => grpRing_any _ _ _ _ _ _ w' (hg.below hb).kn) ?_
    simp only [Act.put, pu]
    refine qw_load (by rfl) 25 _ rfl _ rfl r14 4 _ Try.underlying25 size_nat ?_
    simp only [Act.put, pu]
    refine qw_callK (by rfl) 32 _ _ rfl Try.func32 (by kernel_rfl) #[.pointer (some ⟨gr, 0, none⟩), .agg (natC S)] rfl _ (fun w' hb => hin w' g gr gf (hg.below hb)) ?_
    simp only [Act.put, pu]
    refine qw_pick true (v := .bool true) (by rfl) rfl rfl rfl ?_
    simp only [Act.put, pu]
    refine qw_move (by rfl) rfl rfl ?_
    simp only [Act.put, pu]
    refine qw_call (by rfl) 26 _ _ rfl Try.func26 (by kernel_rfl) #[] rfl _ haw ?_
    simp only [Act.put, pu]
    refine qw_pick true (v := .bool true) (by rfl) rfl rfl rfl ?_
    simp only [Act.put, pu]
    refine qw_asg (by rfl) rfl rfl ?_
    simp only [Act.put, pu]
    refine qw_nil ?_
    intro w9 hqb
    replace sb := below_on sb (Nat.le_refl _) hqb
    clear hqb
    go_wp2
    go_ret
    exact ⟨rfl, sb⟩
   ·kernel_rfl
  ·kernel_rfl
 ·kernel_rfl
theorem pk_gr (m : Nat) : grN (pk m 3 3 5) (lN (pk m leL otL grL)) twoA (pk m leG otG grG) = true ∧ (∀ i, i < pk m 3 3 5 → lN (pk m leL otL grL) i < 2 ^ 256) ∧ pk m leG otG grG < 2 ^ 256 ∧ 2 ≤ pk m 3 3 5 ∧ pk m 3 3 5 < 9223372036854775808 ∧ pk m (lksC 3 (lN leL) twoA) (lksC 3 (lN otL) twoA) (lksC 5 (lN grL) twoA) = lksC (pk m 3 3 5) (lN (pk m leL otL grL)) twoA := by
 unfold pk
 split
 ·exact ⟨least_is, le_lt, by decide, by decide, by decide, rfl⟩
 ·split
  ·exact ⟨other_is, ot_lt, by decide, by decide, by decide, rfl⟩
  ·exact ⟨great_is, gr_lt, by decide, by decide, by decide, rfl⟩
theorem lt_of_mod (x M : Nat) (h0 : 0 < M) (hM : M < 2 ^ 256) : x % M < 2 ^ 256 := Nat.lt_trans (Nat.mod_lt _ h0) hM
theorem walk (a0 : Int) (A B : Nat) (w : World) (_ : -9223372036854775808 ≤ a0 ∧ a0 ≤ 9223372036854775807) (hA : A < 2 ^ 256) (hB : B < 2 ^ 256) :
  Calls Try.prog 5 #[.int .i64 a0, .agg (natC A), .agg (natC B)] w fun e w' => e = .returned (.bool true) ∧ Below w.heap.size w w' := by
 obtain ⟨his, hlt, hG, h2, h63, hL⟩ := pk_gr (ly8 a0 % 3)
 have hiff := (grN_iff _ _ _ _).1 his
 obtain ⟨hPp, hPq⟩ := grN_primes his
 have hP := hlt (pk (ly8 a0 % 3) 3 3 5 - 1) (by omega)
 have hQ := hlt (pk (ly8 a0 % 3) 3 3 5 - 2) (by omega)
 have hnw : ∀ w' x, Row w' x (pk (ly8 a0 % 3) (lksC 3 (lN leL) twoA) (lksC 3 (lN otL) twoA) (lksC 5 (lN grL) twoA)) 58 → _ := fun w' x r => gnew_yes (pk (ly8 a0 % 3) 3 3 5) (pk (ly8 a0 % 3) 3 3 5) (some ⟨x, 0, none⟩) (pk (ly8 a0 % 3) leG otG grG) _ _ x 0 _ _ w' h63 hG (lks_links (hL ▸ r) hlt) his
 clear hL hlt his h63
 generalize lN (pk (ly8 a0 % 3) leL otL grL) (pk (ly8 a0 % 3) 3 3 5 - 1) = PP at *
 generalize lN (pk (ly8 a0 % 3) leL otL grL) (pk (ly8 a0 % 3) 3 3 5 - 2) = QQ at *
 obtain ⟨_, _, hq9, hg0, hg1, hgP, hpw⟩ := hiff
 have tP := hPp.1
 have oP := isP_odd hPp (by omega)
 have p0 : 0 < PP := by omega
 have q0 : 0 < QQ := by omega
 have hS : ∀ x, pk (ly8 a0 % 3) leG otG grG ^ x % PP < 2 ^ 256 := fun x => lt_of_mod _ _ p0 hP
 have hrm : ∀ x w', x < 2 ^ 256 → Calls Try.prog 29 #[.agg (natC x), .agg (natC 0), .agg (natC QQ)] w' fun e w2 => e = .returned (.tuple #[.agg (natC (x % QQ)), .int .i64 0]) ∧ Below w'.heap.size w' w2 := fun x w' hx => by
  have := rrem_any x 0 QQ w' hx (by decide) hQ
  rw [show modZ (0 * 2 ^ 256 + x) QQ = x % QQ by unfold modZ; rw [if_neg (by omega), Nat.zero_mul, Nat.zero_add], show errI QQ = 0 by unfold errI; rw [if_neg (by omega)]] at this
  exact this
 have hord := gr_order hPp hPq hg0 hg1 hgP hpw A B
 refine core a0 (ly8 a0) (ly8 a0 % 3) A B (pk (ly8 a0 % 3) leG otG grG ^ A % PP) (pk (ly8 a0 % 3) leG otG grG ^ B % PP) (A % QQ) (B % QQ) (pk (ly8 a0 % 3) leG otG grG) PP QQ 3 3 5 leG otG grG _ _ _ (decide (A % QQ = B % QQ)) w (and_ly8 a0) rfl ?_ ?_ gleast_any gother_any ggreat_any hnw (fun w' => hrm A w' hA) (fun w' => hrm B w' hB) ?_ ?_ ?_ ?_ ?_
 ·rw [eql_dec _ _ (hS A) (hS B)]
  exact decide_eq_decide.2 hord
 ·exact eql_dec _ _ (lt_of_mod _ _ q0 hQ) (lt_of_mod _ _ q0 hQ)
 ·exact fun w' g gr gf h => exp_any _ A PP gr w' hG hA hP oP tP h.ring
 ·exact fun w' g gr gf h => exp_any _ B PP gr w' hG hB hP oP tP h.ring
 ·intro w' g gr gf h
  have := exp_any _ (A % QQ) PP gr w' hG (lt_of_mod _ _ q0 hQ) hP oP tP h.ring
  rw [← pow_by tP hpw A] at this
  exact this
 ·intro w' g gr gf h
  have := exp_any _ QQ PP gr w' (hS A) hQ hP oP tP h.ring
  rw [pow_order tP hpw A] at this
  exact this
 ·intro w' g gr gf h
  have := ringIn_any _ PP _ _ _ gr w' (hS A) p0 hP h.ring
  rw [cmp_neg, decide_eq_true (Nat.mod_lt _ p0)] at this
  exact this
set_option maxRecDepth 100000 in
theorem lifted (os : Os) (started : os.Started) (H : Type) (enc : TypeId × Value → H) :
  ReturnsInHanded {} Try.checked os 5 .any (Rows.groupOrderSpec.pre6 enc Try.prog Try.f5 Rows.groupOrderRow.domain false) (Rows.groupOrderSpec.post enc Try.prog Try.f5 false true false false) := by
 refine returnsInHanded_of_change (C := Try.checked) own started (by kernel_rfl) Try.func5
  (ChangeSpec.witness6 (enc := enc) (C := Try.checked) false ⟨#[], #[.int .i64 0, .agg #[.int .u64 0, .int .u64 0, .int .u64 0, .int .u64 0], .agg #[.int .u64 0, .int .u64 0, .int .u64 0, .int .u64 0]], []⟩ 8 (by kernel_rfl) (by kernel_rfl) (by kernel_rfl) (by kernel_rfl)) ?_
 intro W base args ds gs before hval0 hW hcnd _
 have hval : ∀ (j : Nat) t v, Try.f5.params[j]? = some t → args[j]? = some v → Value.okWide Try.prog W .any base t v := hval0
 have hW' := hW
 obtain ⟨p, q, hA0, hV, rfl, hfz, hnd⟩ := hW
 have hA : DataW.TrodAll enc Try.prog W 0 (fun _ => true) true Try.f5.params.toList args.toList ds p := hA0
 rw [Try.params5] at hA hval
 obtain ⟨v0, vs0, d0, ds0, p0, q0, hargs, rfl, rfl, h0, r0⟩ := trodAll_cons hA
 obtain ⟨v1, vs1, d1, ds1, p1, q1, rfl, rfl, rfl, h1, r1⟩ := trodAll_cons r0
 obtain ⟨v2, vs2, d2, ds2, p2, q2, rfl, rfl, rfl, h2, r2⟩ := trodAll_cons r1
 obtain ⟨rfl, rfl, rfl⟩ := trodAll_nil r2
 obtain rfl : args = #[v0, v1, v2] := by cases args; simp_all
 obtain ⟨rfl, rfl⟩ := trodVars_none hV
 have k0 := h0
 have lt0 := lt_of_trod h0
 obtain ⟨a0, rfl, rfl, rfl, w0⟩ := open_int Try.underlying3 (hval 0 3 v0 rfl rfl) h0
 have k1 := h1
 have lt1 := lt_of_trod h1
 obtain ⟨N1, hN1, rfl⟩ := open_nat (hval 1 25 v1 rfl rfl) h1
 have k2 := h2
 have lt2 := lt_of_trod h2
 obtain ⟨N2, hN2, rfl⟩ := open_nat (hval 2 25 v2 rfl rfl) h2
 clear hA0 hval0
 refine (walk a0 N1 N2 W (bounds_i64 w0) hN1 hN2).mono fun e W' ⟨he, bel⟩ => ?_
 subst he
 exact ⟨_, rfl, _, _, _, [], _, [], hW', trodAll_mk1 (shut_bool Try.underlying4 _), (trodAll_cons_mk (Below.trod laidOut (by kernel_rfl) (of_decide_eq_true (by kernel_rfl)) k0 bel lt0) (trodAll_cons_mk (Below.trod laidOut (by kernel_rfl) (of_decide_eq_true (by kernel_rfl)) k1 bel lt1) (trodAll_cons_mk (Below.trod laidOut (by kernel_rfl) (of_decide_eq_true (by kernel_rfl)) k2 bel lt2) trodAll_mk0))), rfl, bel.frame _, fun h => by cases h⟩
theorem over : Rows.groupOrderRow.holds Try.pinned (OpenSpec.ofChange Rows.groupOrderSpec) :=
 OpenClaim.holds_of_wide 5 Try.f5 rfl rfl rfl rfl rfl rfl rfl ⟨rfl, rfl, rfl, rfl, rfl⟩ rfl rfl rfl rfl rfl (by kernel_rfl) Try.func5 (by kernel_rfl)
  (of_decide_eq_true (by kernel_rfl)) (by unfold Func.isWrapper; first | (rw [if_pos (by decide +kernel)]; kernel_rfl) | (rw [if_neg (by decide +kernel)]; exact ⟨rfl, rfl⟩))
  (fun os started H enc _ => lifted os started H enc)
end groupOrderP
/-- for every number and every two naturals: powers of a given group's G are the same just if their exponents are by Q; no condition. -/
theorem groupOrder_holds : Rows.GroupOrderSaid := groupOrderP.over
end Go.Proofs.Ytbmkebdfaokmhaa
