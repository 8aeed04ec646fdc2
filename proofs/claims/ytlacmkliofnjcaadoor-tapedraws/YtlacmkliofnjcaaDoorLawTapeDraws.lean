/- TapeDraws: for every number, text and ints: of one of the three groups and a tape of up to 2^9 bytes the numbers that are drawn are the document's, one behind the other, or the bytes do not do, and are not taken; no condition. -/
import Derived.Test.YtlacmkliofnjcaaDoorTpAwake
import Derived.Test.YtlacmkliofnjcaaDoorTpLaid
import Derived.Test.YtlacmkliofnjcaaDoorDWalk
namespace Go.Proofs.YtlacmkliofnjcaaDoor
open Go.ChangeShapes Go.WideShapes Go.ChangeAt Go.RowKit
open Go.ChangeMaps (open_string)
namespace tapeDrawsP
set_option linter.unusedVariables false
theorem sl_ints : Tryd.prog.underlying 22 = some (.slice (Tryd.prog.elem 22)) := by kernel_rfl
/-- The lowest four bits. -/
def ly4 (x : Int) : Nat := (x % 16).toNat
theorem ly4_lt (x : Int) : ly4 x < 16 := by unfold ly4; omega
theorem and_ly4 (x : Int) : bits .and .i64 x 15 = ((ly4 x : Nat) : Int) := by
 show IntKind.i64.wrap ((BitVec.ofInt 64 x &&& BitVec.ofInt 64 15).toNat : Int) = _
 have h15 : (BitVec.ofInt 64 15).toNat = 2 ^ 4 - 1 := by decide
 rw [BitVec.toNat_and, h15, Nat.and_two_pow_sub_one_eq_mod, BitVec.toNat_ofInt]
 have e : (x % ((2 ^ 64 : Nat) : Int)).toNat % 2 ^ 4 = ly4 x := by
  unfold ly4
  omega
 rw [e]
 exact wrap_i64 _ (by have := ly4_lt x; omega)
theorem and_1n (i : Nat) : bits .and .i64 (i : Int) 1 = ((i % 2 : Nat) : Int) := by
 rw [and_1]
 omega
theorem dst_one (q : Nat) (s : List UInt8) : dst q s 1 = (drw q s).map (·.2) := rfl
theorem dwf_zero (q : Nat) (s : List UInt8) : dwf q s 0 = drN q s := rfl
set_option maxRecDepth 100000 in
set_option maxHeartbeats 2000000 in
theorem core0 (a0 : Int) (s : List UInt8) (m ca : Nat) (ab : Option Addr) (w : World) (h : 512 < s.length ∨ 10 < m) :
  Calls Tryd.prog 4 #[.int .i64 a0, .string ⟨(s).toArray⟩, .slice ab m ca] w fun e w' => e = .returned (.bool true) ∧ Below w.heap.size w w' := by
 have haw := awake10_any
 go_enter Tryd.func4, Tryd.ntmps4
 have sb := sbmk w
 (repeat ((fail_if_success with_reducible refine rg ?_); go_step))
 refine wp_region_pw ?_
 refine pw_value (by rfl) (.bool false) (fun _ => rfl) ?_
 simp only [Act.put, pu]
 refine pw_nil ?_
 by_cases h12 : 512 < s.length
 ·clear h
  (repeat ((fail_if_success with_reducible refine rg ?_); go_step))
  refine wp_region_pw ?_
  refine pw_mv (by rfl) rfl rfl ?_
  simp only [Act.put, pu]
  refine pw_value (by rfl) (.int .i64 s.length) (y_lenS _ _ rfl s rfl Tryd.underlying9) ?_
  simp only [Act.put, pu]
  refine pw_value (by rfl) (.bool true) (exec_gt_i _ _ _ _ rfl s.length 512 rfl rfl true (decide_eq_true (by omega))) ?_
  simp only [Act.put, pu]
  refine pw_mv (by rfl) rfl rfl ?_
  simp only [Act.put, pu]
  refine pw_skip (by rfl) ?_
  simp only [Act.put, pu]
  refine pw_skip (by rfl) ?_
  simp only [Act.put, pu]
  refine pw_skip (by rfl) ?_
  simp only [Act.put, pu]
  refine pw_pick (by rfl) true (v := .bool true) rfl rfl rfl ?_
  simp only [Act.put, pu]
  refine pw_nil ?_
  (repeat ((fail_if_success with_reducible refine rg ?_); go_step))
  refine wp_region_pw ?_
  refine pw_callB (by rfl) 7 _ _ rfl Tryd.func7 (by kernel_rfl) #[] rfl _ (haw _) ?_
  intro z2000 k
  simp only [Act.put, pu]
  replace sb := sb.trans (k.below w.heap.size sb.size (by simp <;> omega))
  clear k
  refine pw_as (by rfl) rfl rfl ?_
  simp only [Act.put, pu]
  refine pw_nil ?_
  go_wp2
  go_ret
  exact ⟨rfl, sb⟩
 ·have hm12 : 10 < m := h.resolve_left h12
  clear h
  (repeat ((fail_if_success with_reducible refine rg ?_); go_step))
  refine wp_region_pw ?_
  refine pw_mv (by rfl) rfl rfl ?_
  simp only [Act.put, pu]
  refine pw_value (by rfl) (.int .i64 s.length) (y_lenS _ _ rfl s rfl Tryd.underlying9) ?_
  simp only [Act.put, pu]
  refine pw_value (by rfl) (.bool false) (exec_gt_i _ _ _ _ rfl s.length 512 rfl rfl false (decide_eq_false (by omega))) ?_
  simp only [Act.put, pu]
  refine pw_mv (by rfl) rfl rfl ?_
  simp only [Act.put, pu]
  refine pw_mv (by rfl) rfl rfl ?_
  simp only [Act.put, pu]
  refine pw_value (by rfl) (.int .i64 m) (exec_len_s 22 _ rfl ab m ca rfl sl_ints) ?_
  simp only [Act.put, pu]
  refine pw_value (by rfl) (.bool true) (exec_gt_i _ _ _ _ rfl m 10 rfl rfl true (decide_eq_true (by omega))) ?_
  simp only [Act.put, pu]
  refine pw_pick (by rfl) false (v := .bool true) rfl rfl rfl ?_
  simp only [Act.put, pu]
  refine pw_nil ?_
  (repeat ((fail_if_success with_reducible refine rg ?_); go_step))
  refine wp_region_pw ?_
  refine pw_callB (by rfl) 7 _ _ rfl Tryd.func7 (by kernel_rfl) #[] rfl _ (haw _) ?_
  intro z2000 k
  simp only [Act.put, pu]
  replace sb := sb.trans (k.below w.heap.size sb.size (by simp <;> omega))
  clear k
  refine pw_as (by rfl) rfl rfl ?_
  simp only [Act.put, pu]
  refine pw_nil ?_
  go_wp2
  go_ret
  exact ⟨rfl, sb⟩
set_option maxRecDepth 100000 in
set_option maxHeartbeats 2000000 in
theorem core1 (a0 : Int) (m0 mm GG PP QQ n0 n1 n2 G0 G1 G2 : Nat) (L0 L1 L2 : Array Value) (s : List UInt8) (m ca : Nat) (ab : Option Addr) (e : Nat → Int) (gb ob : Nat) (bcs : Array Value) (tb : TypeId) (w : World) (hm0 : bits .and .i64 a0 255 = (m0 : Int)) (hmm : m0 % 3 = mm) (hs : ¬ 512 < s.length) (hm : ¬ 10 < m) (hI : IntsAt w ab m e gb ob bcs tb)
  (hQ0 : 0 < QQ) (hQ1 : QQ < 2 ^ 256)
  (hA0 : ∀ w', Calls Tryd.prog 11 #[] w' fun e w2 => ∃ g, e = .returned (.agg (paC (some ⟨g, 0, none⟩) n0 n0 G0)) ∧ w'.heap.size ≤ g ∧ Row w2 g L0 66 ∧ Below w'.heap.size w' w2)
  (hA1 : ∀ w', Calls Tryd.prog 12 #[] w' fun e w2 => ∃ g, e = .returned (.agg (paC (some ⟨g, 0, none⟩) n1 n1 G1)) ∧ w'.heap.size ≤ g ∧ Row w2 g L1 66 ∧ Below w'.heap.size w' w2)
  (hA2 : ∀ w', Calls Tryd.prog 13 #[] w' fun e w2 => ∃ g, e = .returned (.agg (paC (some ⟨g, 0, none⟩) n2 n2 G2)) ∧ w'.heap.size ≤ g ∧ Row w2 g L2 66 ∧ Below w'.heap.size w' w2)
  (hnw : ∀ w' x, Row w' x (pk mm L0 L1 L2) 66 → Calls Tryd.prog 14 #[.agg (paC (some ⟨x, 0, none⟩) (pk mm n0 n1 n2) (pk mm n0 n1 n2) (pk mm G0 G1 G2))] w' fun e w2 => ∃ g gr gf, e = .returned (.tuple #[.pointer (some ⟨g, 0, none⟩), .int .i64 0]) ∧ GrpAt w2 g gr gf PP QQ GG ∧ Below w'.heap.size w' w2)
  (hrq : ∀ w' x, Row w' x (pk mm L0 L1 L2) 66 → Calls Tryd.prog 16 #[.agg (paC (some ⟨x, 0, none⟩) (pk mm n0 n1 n2) (pk mm n0 n1 n2) (pk mm G0 G1 G2))] w' fun e w2 => e = .returned (.agg (natC QQ)) ∧ Below w'.heap.size w' w2) :
  Calls Tryd.prog 4 #[.int .i64 a0, .string ⟨(s).toArray⟩, .slice ab m ca] w fun e w' => e = .returned (.bool true) ∧ Below w.heap.size w w' := by
 have haw := awake10_any
 have HI : Hid (IntsAt w ab m e gb ob bcs tb) := hI
 clear hI
 have htn := fun w' => tnew_ok s w' (by omega)
 have hrda := fun (u : List UInt8) w' (n : Nat) (hn : n ≤ 1000) (hu : u.length ≤ 100000) => rdraws_any u QQ n w' hn hu hQ0 hQ1
 have htda := fun (u : List UInt8) (n : Nat) w' x g gr gf (hn : n ≤ 1000) (h : GrpAt w' g gr gf PP QQ GG) (r : Row w' x (tpC true u) 62) => tdraws_ok x _ _ _ _ _ _ n u w' hn hQ0 hQ1 r h.kn
 have htd1a := fun (u : List UInt8) w' x g gr gf (h : GrpAt w' g gr gf PP QQ GG) (r : Row w' x (tpC true u) 62) => tdraw_ok x _ _ _ _ _ _ u w' hQ0 hQ1 r h.kn
 have hwf0 := fun (u : List UInt8) (j : Nat) => dwf_lt u j hQ0
 have HQ : Hid (0 < QQ ∧ QQ < 2 ^ 256) := ⟨hQ0, hQ1⟩
 clear hQ0 hQ1
 obtain ⟨ie, hie, hz, hsz⟩ := info_pa'
 have hs1 : ¬ 3 * ie.size > 2 ^ 24 := by rw [hsz]; decide
 have hs2 : ¬ 3 * ie.size = 0 := by rw [hsz]; decide
 have hl := fun x y z n m l X Y Z => lit_pas x y z n m l X Y Z ie.size hsz
 have hm3 : mm < 3 := by rw [← hmm]; exact Nat.mod_lt _ (by decide)
 have hpp := fun x y z => pas_part x y z n0 n1 n2 G0 G1 G2 mm hm3
 simp only [Nat.zero_add] at hpp
 go_enter Tryd.func4, Tryd.ntmps4
 have sb := sbmk w
 (repeat ((fail_if_success with_reducible refine rg ?_); go_step))
 refine wp_region_pw ?_
 refine pw_value (by rfl) (.bool false) (fun _ => rfl) ?_
 simp only [Act.put, pu]
 refine pw_nil ?_
 (repeat ((fail_if_success with_reducible refine rg ?_); go_step))
 refine wp_region_pw ?_
 refine pw_mv (by rfl) rfl rfl ?_
 simp only [Act.put, pu]
 refine pw_value (by rfl) (.int .i64 s.length) (y_lenS _ _ rfl s rfl Tryd.underlying9) ?_
 simp only [Act.put, pu]
 refine pw_value (by rfl) (.bool false) (exec_gt_i _ _ _ _ rfl s.length 512 rfl rfl false (decide_eq_false (by omega))) ?_
 simp only [Act.put, pu]
 refine pw_mv (by rfl) rfl rfl ?_
 simp only [Act.put, pu]
 refine pw_mv (by rfl) rfl rfl ?_
 simp only [Act.put, pu]
 refine pw_value (by rfl) (.int .i64 m) (exec_len_s 22 _ rfl ab m ca rfl sl_ints) ?_
 simp only [Act.put, pu]
 refine pw_value (by rfl) (.bool false) (exec_gt_i _ _ _ _ rfl m 10 rfl rfl false (decide_eq_false (by omega))) ?_
 simp only [Act.put, pu]
 refine pw_pick (by rfl) false (v := .bool false) rfl rfl rfl ?_
 simp only [Act.put, pu]
 refine pw_nil ?_
 (repeat ((fail_if_success with_reducible refine rg ?_); go_step))
 refine wp_region_pw ?_
 refine pw_callE (by rfl) 11 _ _ rfl Tryd.func11 (by kernel_rfl) #[] rfl (hA0 _) ?_
 rintro _ z3000 ⟨gU, rfl, nU, rU, hb⟩
 refine ⟨_, rfl, ?_⟩
 simp only [Act.put, pu]
 have bU := Nat.le_trans sb.size nU
 clear nU
 have k := Kept.ofBelow hb
 clear hb
 replace sb := sb.trans (k.below w.heap.size sb.size (by simp <;> omega))
 clear k
 refine pw_callE (by rfl) 12 _ _ rfl Tryd.func12 (by kernel_rfl) #[] rfl (hA1 _) ?_
 rintro _ z3001 ⟨gV, rfl, nV, rV, hb⟩
 refine ⟨_, rfl, ?_⟩
 simp only [Act.put, pu]
 have dUxV := Nat.lt_of_lt_of_le rU.lt nV
 have bV := Nat.le_trans sb.size nV
 clear nV
 have k := Kept.ofBelow hb
 clear hb
 replace rU := k.row rU (by simp <;> omega)
 replace sb := sb.trans (k.below w.heap.size sb.size (by simp <;> omega))
 clear k
 refine pw_callE (by rfl) 13 _ _ rfl Tryd.func13 (by kernel_rfl) #[] rfl (hA2 _) ?_
 rintro _ z3002 ⟨gW, rfl, nW, rW, hb⟩
 refine ⟨_, rfl, ?_⟩
 simp only [Act.put, pu]
 have dUxW := Nat.lt_of_lt_of_le rU.lt nW
 have dVxW := Nat.lt_of_lt_of_le rV.lt nW
 have bW := Nat.le_trans sb.size nW
 clear nW
 have k := Kept.ofBelow hb
 clear hb
 replace rU := k.row rU (by simp <;> omega)
 replace rV := k.row rV (by simp <;> omega)
 replace sb := sb.trans (k.below w.heap.size sb.size (by simp <;> omega))
 clear k
 refine pw_litr (by rfl) 39 37 3 _ rfl (pasC (some ⟨gU, 0, none⟩) (some ⟨gV, 0, none⟩) (some ⟨gW, 0, none⟩) n0 n1 n2 G0 G1 G2) ie _ Tryd.underlying39 hie hz hs1 hs2 [(0, .agg (paC (some ⟨gU, 0, none⟩) n0 n0 G0)), (1, .agg (paC (some ⟨gV, 0, none⟩) n1 n1 G1)), (2, .agg (paC (some ⟨gW, 0, none⟩) n2 n2 G2))] rfl (hl _ _ _ _ _ _ _ _ _) ?_
 intro gA z3003 n0 rA k
 simp only [Act.put, pu]
 have dUxA := Nat.lt_of_lt_of_le rU.lt n0
 have dVxA := Nat.lt_of_lt_of_le rV.lt n0
 have dWxA := Nat.lt_of_lt_of_le rW.lt n0
 have bA := Nat.le_trans sb.size n0
 clear n0
 replace rU := k.row rU (by simp <;> omega)
 replace rV := k.row rV (by simp <;> omega)
 replace rW := k.row rW (by simp <;> omega)
 replace sb := sb.trans (k.below w.heap.size sb.size (by simp <;> omega))
 clear k
 refine pw_mv (by rfl) rfl rfl ?_
 simp only [Act.put, pu]
 refine pw_value (by rfl) (.int .i64 (m0 : Nat)) (fun w' => (exec_bits_i .and _ _ _ _ (.inl rfl) rfl a0 255 rfl rfl w').trans (by rw [hm0])) ?_
 simp only [Act.put, pu]
 refine pw_value (by rfl) (.int .i64 (mm : Nat)) (fun w' => (exec_rem_i _ _ _ _ rfl m0 3 rfl rfl (by decide) w').trans (by rw [hmm])) ?_
 simp only [Act.put, pu]
 refine pw_value (by rfl) (.pointer (some ⟨gA, mm * 5, none⟩)) (fun w' => (exec_index_s 39 _ _ rfl gA 0 3 3 rfl mm rfl hm3 _ Tryd.underlying39 5 Tryd.sizeOf37 w').trans (by rw [Nat.zero_add])) ?_
 simp only [Act.put, pu]
 refine pw_loadm (by rfl) 37 _ rfl _ (mm * 5) rfl rA.r (paC (some ⟨pk mm gU gV gW, 0, none⟩) (pk mm n0 n1 n2) (pk mm n0 n1 n2) (pk mm G0 G1 G2)) (hpp gU gV gW) _ Tryd.underlying37 rfl size_pa ?_
 simp only [Act.put, pu]
 refine pw_new (by rfl) 37 rfl _ zero_pa ?_
 intro g7 z3009 n0 r7 k
 simp only [Act.put, pu]
 have dUx7 := Nat.lt_of_lt_of_le rU.lt n0
 have dVx7 := Nat.lt_of_lt_of_le rV.lt n0
 have dWx7 := Nat.lt_of_lt_of_le rW.lt n0
 have dAx7 := Nat.lt_of_lt_of_le rA.lt n0
 have b7 := Nat.le_trans sb.size n0
 clear n0
 replace rU := k.row rU (by simp <;> omega)
 replace rV := k.row rV (by simp <;> omega)
 replace rW := k.row rW (by simp <;> omega)
 replace rA := k.row rA (by simp <;> omega)
 replace sb := sb.trans (k.below w.heap.size sb.size (by simp <;> omega))
 clear k
 refine pw_put (by rfl) 37 _ _ rfl _ rfl r7 (paC (some ⟨pk mm gU gV gW, 0, none⟩) (pk mm n0 n1 n2) (pk mm n0 n1 n2) (pk mm G0 G1 G2)) rfl (by exact size_pa) (by rfl) (pa_one _ _ _ _) ?_
 clear r7
 intro z3010 r7 k
 simp only [Act.put]
 replace rU := k.row rU (by simp <;> omega)
 replace rV := k.row rV (by simp <;> omega)
 replace rW := k.row rW (by simp <;> omega)
 replace rA := k.row rA (by simp <;> omega)
 replace sb := sb.trans (k.below w.heap.size sb.size (by simp <;> omega))
 clear k
 refine pw_nil ?_
 have rP := pk_row mm rU rV rW
 clear rU rV rW rA hA0 hA1 hA2 hl hie hz hs1 hs2 hsz
 clear hpp
 generalize pk mm gU gV gW = gP at *
 generalize pk mm n0 n1 n2 = N1 at *
 generalize pk mm G0 G1 G2 = G3 at *
 generalize pk mm L0 L1 L2 = LK at *
 clear hm3 hmm hm0
 (repeat ((fail_if_success with_reducible refine rg ?_); go_step))
 refine wp_region_pw ?_
 refine pw_loadm (by rfl) 37 _ rfl _ 0 rfl r7.r _ (part_all _) _ Tryd.underlying37 rfl size_pa ?_
 simp only [Act.put, pu]
 refine pw_callE (by rfl) 14 _ _ rfl Tryd.func14 (by kernel_rfl) #[.agg (paC (some ⟨gP, 0, none⟩) N1 N1 G3)] rfl (hnw _ gP rP) ?_
 rintro _ z4001 ⟨g, gr, gf, rfl, ⟨rG, rR, rF⟩, hb⟩
 refine ⟨_, rfl, ?_⟩
 simp only [Act.put, pu]
 have k := Kept.ofBelow hb
 clear hb
 replace r7 := k.row r7 (by simp <;> omega)
 replace rP := k.row rP (by simp <;> omega)
 replace sb := sb.trans (k.below w.heap.size sb.size (by simp <;> omega))
 clear k
 refine pw_mv (by rfl) rfl rfl ?_
 simp only [Act.put, pu]
 refine pw_ext (by rfl) rfl rfl rfl ?_
 simp only [Act.put, pu]
 refine pw_ext (by rfl) rfl rfl rfl ?_
 simp only [Act.put, pu]
 refine pw_as (by rfl) rfl rfl ?_
 simp only [Act.put, pu]
 refine pw_as (by rfl) rfl rfl ?_
 simp only [Act.put, pu]
 refine pw_nil ?_
 clear hnw
 (repeat ((fail_if_success with_reducible refine rg ?_); go_step))
 refine wp_region_pw ?_
 refine pw_mv (by rfl) rfl rfl ?_
 simp only [Act.put, pu]
 refine pw_callE (by rfl) 8 _ _ rfl Tryd.func8 (by kernel_rfl) #[.string ⟨(s).toArray⟩] rfl (htn _) ?_
 rintro _ z5001 ⟨gT, rfl, nT, rT, hb⟩
 refine ⟨_, rfl, ?_⟩
 simp only [Act.put, pu]
 have d7xT := Nat.lt_of_lt_of_le r7.lt nT
 have dPxT := Nat.lt_of_lt_of_le rP.lt nT
 have dGxT := Nat.lt_of_lt_of_le rG.lt nT
 have dRxT := Nat.lt_of_lt_of_le rR.lt nT
 have dFxT := Nat.lt_of_lt_of_le rF.lt nT
 have bT := Nat.le_trans sb.size nT
 clear nT
 have k := Kept.ofBelow hb
 clear hb
 replace r7 := k.row r7 (by simp <;> omega)
 replace rP := k.row rP (by simp <;> omega)
 replace rG := k.row rG (by simp <;> omega)
 replace rR := k.row rR (by simp <;> omega)
 replace rF := k.row rF (by simp <;> omega)
 replace sb := sb.trans (k.below w.heap.size sb.size (by simp <;> omega))
 clear k
 refine pw_mv (by rfl) rfl rfl ?_
 simp only [Act.put, pu]
 refine pw_ext (by rfl) rfl rfl rfl ?_
 simp only [Act.put, pu]
 refine pw_ext (by rfl) rfl rfl rfl ?_
 simp only [Act.put, pu]
 refine pw_as (by rfl) rfl rfl ?_
 simp only [Act.put, pu]
 refine pw_as (by rfl) rfl rfl ?_
 simp only [Act.put, pu]
 refine pw_nil ?_
 clear htn
 (repeat ((fail_if_success with_reducible refine rg ?_); go_step))
 refine wp_region_pw ?_
 refine pw_mv (by rfl) rfl rfl ?_
 simp only [Act.put, pu]
 refine pw_value (by rfl) (.bool false) (exec_neq_k .i64 _ _ _ _ rfl 0 0 rfl rfl false rfl) ?_
 simp only [Act.put, pu]
 refine pw_mv (by rfl) rfl rfl ?_
 simp only [Act.put, pu]
 refine pw_mv (by rfl) rfl rfl ?_
 simp only [Act.put, pu]
 refine pw_value (by rfl) (.bool false) (exec_neq_k .i64 _ _ _ _ rfl 0 0 rfl rfl false rfl) ?_
 simp only [Act.put, pu]
 refine pw_pick (by rfl) false (v := .bool false) rfl rfl rfl ?_
 simp only [Act.put, pu]
 refine pw_mv (by rfl) rfl rfl ?_
 simp only [Act.put, pu]
 refine pw_mv (by rfl) rfl rfl ?_
 simp only [Act.put, pu]
 refine pw_value (by rfl) (.bool false) (exec_eql_nilp _ _ _ _ rfl (some ⟨gT, 0, none⟩) rfl rfl ptr_tp) ?_
 simp only [Act.put, pu]
 refine pw_pick (by rfl) false (v := .bool false) rfl rfl rfl ?_
 simp only [Act.put, pu]
 refine pw_nil ?_
 (repeat ((fail_if_success with_reducible refine rg ?_); go_step))
 refine wp_region_pw ?_
 refine pw_value (by rfl) (.int .i64 0) (fun _ => rfl) ?_
 simp only [Act.put, pu]
 refine pw_nil ?_
 (repeat ((fail_if_success with_reducible refine rg ?_); go_step))
 refine wp_region_pw ?_
 refine pw_value (by rfl) (.int .i64 0) (fun _ => rfl) ?_
 simp only [Act.put, pu]
 refine pw_nil ?_
 have hne : gT ≠ gP ∧ gT ≠ g7 := ⟨by omega, by omega⟩
 go_wp2_with fail
 go_loopg [12, 13, 14, 15, 16, 17, 18, 19, 20, 21, 22, 23, 24] m (fun gg s12 s13 s14 s15 s16 s17 s18 s19 s20 s21 s22 s23 s24 wr => ∃ (i at' : Nat), i + gg = m ∧ s13 = .int .i64 i ∧ s12 = .int .i64 at' ∧ at' ≤ s.length ∧ Row wr gT (tpC true (s.drop at')) 62 ∧ Row wr g7 (paC (some ⟨gP, 0, none⟩) N1 N1 G3) 37 ∧ Row wr gP LK 66 ∧ GrpAt wr g gr gf PP QQ GG ∧ Below w.heap.size w wr)
 case atStart => exact ⟨0, 0, by omega, rfl, rfl, Nat.zero_le _, by rw [List.drop_zero]; exact rT, r7, rP, ⟨rG, rR, rF⟩, sb⟩
 case round =>
  clear rT r7 rP rG rR rF sb
  obtain ⟨i, at', hi, rfl, rfl, hat, rT, r7, rP, ⟨rG, rR, rF⟩, sb⟩ := hrel
  cases gk with
  | zero =>
   obtain rfl : i = m := by omega
   clear hi
   (repeat ((fail_if_success with_reducible refine rg ?_); go_step))
   refine wp_region_pw ?_
   refine pw_mv (by rfl) rfl rfl ?_
   simp only [Act.put, pu]
   refine pw_mv (by rfl) rfl rfl ?_
   simp only [Act.put, pu]
   refine pw_value (by rfl) (.int .i64 i) (exec_len_s 22 _ rfl ab i ca rfl sl_ints) ?_
   simp only [Act.put, pu]
   refine pw_value (by rfl) (.bool false) (exec_lt_b _ _ _ _ rfl i i rfl rfl false (decide_eq_false (Int.lt_irrefl _))) ?_
   simp only [Act.put, pu]
   refine pw_nil ?_
   (repeat ((fail_if_success with_reducible refine rg ?_); go_step))
   refine wp_region_pw ?_
   refine pw_callB (by rfl) 7 _ _ rfl Tryd.func7 (by kernel_rfl) #[] rfl _ (haw _) ?_
   intro z27000 k
   simp only [Act.put, pu]
   replace sb := sb.trans (k.below w.heap.size sb.size (by simp <;> omega))
   clear k
   refine pw_as (by rfl) rfl rfl ?_
   simp only [Act.put, pu]
   refine pw_nil ?_
   go_wp2
   go_ret
   exact ⟨rfl, sb⟩
  | succ gg =>
   clear haw
   have hlt : i < m := by omega
   (repeat ((fail_if_success with_reducible refine rg ?_); go_step))
   refine wp_region_pw ?_
   refine pw_mv (by rfl) rfl rfl ?_
   simp only [Act.put, pu]
   refine pw_mv (by rfl) rfl rfl ?_
   simp only [Act.put, pu]
   refine pw_value (by rfl) (.int .i64 m) (exec_len_s 22 _ rfl ab m ca rfl sl_ints) ?_
   simp only [Act.put, pu]
   refine pw_value (by rfl) (.bool true) (exec_lt_b _ _ _ _ rfl i m rfl rfl true (decide_eq_true (by omega))) ?_
   simp only [Act.put, pu]
   refine pw_nil ?_
   obtain h0 | ⟨rfl, rB0, hbt⟩ := HI.out.at'
   ·exact absurd h0 (by omega)
   have hz := hbt i hlt
   have hnn := ly4_lt (e i)
   have hand := and_ly4 (e i)
   clear hbt
   generalize ly4 (e i) = nn at *
   generalize e i = z at *
   have rB := rB0.belowAll sb
   (repeat ((fail_if_success with_reducible refine rg ?_); go_step))
   refine wp_region_pw ?_
   refine pw_mv (by rfl) rfl rfl ?_
   simp only [Act.put, pu]
   refine pw_mv (by rfl) rfl rfl ?_
   simp only [Act.put, pu]
   refine pw_value (by rfl) (.pointer (some ⟨gb, ob + i * 1, none⟩)) (exec_index_s 22 _ _ rfl gb ob m ca rfl i rfl hlt _ Tryd.underlying22 1 Tryd.sizeOf3) ?_
   simp only [Act.put, pu]
   refine pw_loadk (by rfl) 3 _ rfl _ (ob + i * 1) rfl rB (.int .i64 z) hz Tryd.isAgg3 ?_
   simp only [Act.put, pu]
   refine pw_value (by rfl) (.int .i64 (nn : Nat)) (fun w' => (exec_bits_i .and _ _ _ _ (.inl rfl) rfl z 15 rfl rfl w').trans (by rw [hand])) ?_
   simp only [Act.put, pu]
   refine pw_as (by rfl) rfl rfl ?_
   simp only [Act.put, pu]
   refine pw_nil ?_
   clear rB hz hand rB0
   have hrd := fun w' => hrda (s.drop at') w' nn (by omega) (by rw [List.length_drop]; omega)
   have htd := fun w' x (h : GrpAt w' g gr gf PP QQ GG) (r : Row w' x (tpC true (s.drop at')) 62) => htda (s.drop at') nn w' x g gr gf (by omega) h r
   have htd1 := fun (u : List UInt8) w' x (h : GrpAt w' g gr gf PP QQ GG) (r : Row w' x (tpC true u) 62) => htd1a u w' x g gr gf h r
   have hwf := hwf0 (s.drop at')
   have hul : (s.drop at').length ≤ 100000 := by rw [List.length_drop]; omega
   have hsl : (s.drop at').length = s.length - at' := List.length_drop
   have HU0 : Hid (s.drop at' = s.drop at') := rfl
   clear htda htd1a hwf0
   cases hd : dst QQ (s.drop at') nn with
   | none =>
    have HD : Hid (dst QQ (s.drop at') nn = none) := hd
    obtain ⟨f1, f2, f3, f4, f5⟩ := dw_none hd
    rw [f1, f3, f5] at hrd
    rw [f1, f2, f4] at htd
    clear f1 f2 f3 f4 f5 hd
    clear HU0
    generalize hu : s.drop at' = u at *
    have HU0 : Hid (s.drop at' = u) := hu
    have HT : Hid (s.drop (at' + 0) = u) := hu
    have hTl : u.length = s.length - (at' + 0) := hsl
    clear hu
    (repeat ((fail_if_success with_reducible refine rg ?_); go_step))
    refine wp_region_dwb (by kernel_rfl) [false, false, false, false, false, false, true, false, false, false, false, false, false, false] ?_ (by kernel_rfl)
    have orT := rT
    have or7 := r7
    have orP := rP
    have orG := rG
    have orR := rR
    have orF := rF
    have cb := below_self sb
    refine dw_mv (by rfl) rfl rfl ?_
    simp only [Act.put, pu]
    refine dw_mv (by rfl) rfl rfl ?_
    simp only [Act.put, pu]
    refine dw_value (by rfl) (.string ⟨(u).toArray⟩) (fun w' => (y_from _ _ _ Tryd.underlying9 rfl s at' rfl rfl (by omega) w').trans (by rw [HU0.out])) ?_
    simp only [Act.put, pu]
    refine dw_loadm (by rfl) 37 _ rfl _ 0 rfl (fun _ hb => (or7.belowAll hb).r) _ (part_all _) _ Tryd.underlying37 rfl size_pa ?_
    simp only [Act.put, pu]
    refine dw_call (by rfl) 16 _ _ rfl Tryd.func16 (by kernel_rfl) #[.agg (paC (some ⟨gP, 0, none⟩) N1 N1 G3)] rfl _ (fun w' hb => hrq w' gP (orP.belowAll hb)) ?_
    simp only [Act.put, pu]
    refine dw_mv (by rfl) rfl rfl ?_
    simp only [Act.put, pu]
    refine dw_callE (by rfl) 15 _ _ rfl Tryd.func15 (by kernel_rfl) #[.string ⟨(u).toArray⟩, .agg (natC QQ), .int .i64 (nn : Nat)] rfl ?_
    intro wa6 hqb
    replace rT := rT.belowAll hqb
    replace r7 := r7.belowAll hqb
    replace rP := rP.belowAll hqb
    replace rG := rG.belowAll hqb
    replace rR := rR.belowAll hqb
    replace rF := rF.belowAll hqb
    replace sb := below_on sb (Nat.le_refl _) hqb
    replace cb := below_on cb (Nat.le_refl _) hqb
    clear hqb
    refine (hrd _).mono ?_
    rintro _ wb6 ⟨vx, rfl, hX, hb⟩
    refine ⟨_, rfl, below_on cb (Nat.le_refl _) hb, ?_⟩
    simp only [Act.put, pu]
    have ehXxT := hX.low rT.lt
    have ehXx7 := hX.low r7.lt
    have ehXxP := hX.low rP.lt
    have ehXxG := hX.low rG.lt
    have ehXxR := hX.low rR.lt
    have ehXxF := hX.low rF.lt
    replace rT := rT.belowAll hb
    replace r7 := r7.belowAll hb
    replace rP := rP.belowAll hb
    replace rG := rG.belowAll hb
    replace rR := rR.belowAll hb
    replace rF := rF.belowAll hb
    replace sb := below_on sb (Nat.le_refl _) hb
    replace cb := below_on cb (Nat.le_refl _) hb
    clear hb
    refine dw_mv (by rfl) rfl rfl ?_
    simp only [Act.put, pu]
    refine dw_ext (by rfl) rfl rfl rfl ?_
    simp only [Act.put, pu]
    refine dw_ext (by rfl) rfl rfl rfl ?_
    simp only [Act.put, pu]
    refine dw_ext (by rfl) rfl rfl rfl ?_
    simp only [Act.put, pu]
    refine dw_as (by rfl) rfl rfl ?_
    simp only [Act.put, pu]
    refine dw_as (by rfl) rfl rfl ?_
    simp only [Act.put, pu]
    refine dw_as (by rfl) rfl rfl ?_
    simp only [Act.put, pu]
    refine dw_nil ?_
    intro wz hqb
    replace rT := rT.belowAll hqb
    replace r7 := r7.belowAll hqb
    replace rP := rP.belowAll hqb
    replace rG := rG.belowAll hqb
    replace rR := rR.belowAll hqb
    replace rF := rF.belowAll hqb
    replace hX := hX.on (Kept.ofBelow hqb) (own_ne0 _)
    replace sb := below_on sb (Nat.le_refl _) hqb
    clear hqb cb orT or7 orP orG orR orF
    clear hrd
    (repeat ((fail_if_success with_reducible refine rg ?_); go_step))
    refine wp_region_pw ?_
    refine pw_mv (by rfl) rfl rfl ?_
    simp only [Act.put, pu]
    refine pw_mv (by rfl) rfl rfl ?_
    simp only [Act.put, pu]
    refine pw_mv (by rfl) rfl rfl ?_
    simp only [Act.put, pu]
    refine pw_callE (by rfl) 17 _ _ rfl Tryd.func17 (by kernel_rfl) #[.pointer (some ⟨gT, 0, none⟩), .pointer (some ⟨g, 0, none⟩), .int .i64 (nn : Nat)] rfl (htd _ gT ⟨rG, rR, rF⟩ rT) ?_
    have crT := rT.lt
    clear rT
    rintro _ z14003 ⟨vy, rfl, hY, rT, k⟩
    refine ⟨_, rfl, ?_⟩
    simp only [Act.put, pu]
    have ehYxT := hY.low crT
    have ehYx7 := hY.low r7.lt
    have ehYxP := hY.low rP.lt
    have ehYxG := hY.low rG.lt
    have ehYxR := hY.low rR.lt
    have ehYxF := hY.low rF.lt
    clear crT
    replace r7 := k.row r7 (by simp <;> omega)
    replace rP := k.row rP (by simp <;> omega)
    replace rG := k.row rG (by simp <;> omega)
    replace rR := k.row rR (by simp <;> omega)
    replace rF := k.row rF (by simp <;> omega)
    replace hX := hX.on k (own_ne1 ehXxT)
    replace sb := sb.trans (k.below w.heap.size sb.size (by simp <;> omega))
    clear k
    refine pw_mv (by rfl) rfl rfl ?_
    simp only [Act.put, pu]
    refine pw_ext (by rfl) rfl rfl rfl ?_
    simp only [Act.put, pu]
    refine pw_ext (by rfl) rfl rfl rfl ?_
    simp only [Act.put, pu]
    refine pw_as (by rfl) rfl rfl ?_
    simp only [Act.put, pu]
    refine pw_as (by rfl) rfl rfl ?_
    simp only [Act.put, pu]
    refine pw_nil ?_
    clear htd
    by_cases hodd : nn = 1 ∧ i % 2 = 1
    ·obtain ⟨h1, hi2⟩ := hodd
     (repeat ((fail_if_success with_reducible refine rg ?_); go_step))
     refine wp_region_pw ?_
     refine pw_mv (by rfl) rfl rfl ?_
     simp only [Act.put, pu]
     refine pw_value (by rfl) (.bool true) (exec_eql_k .i64 _ _ _ _ rfl (nn : Nat) 1 rfl rfl true (decide_eq_true (by omega))) ?_
     simp only [Act.put, pu]
     refine pw_mv (by rfl) rfl rfl ?_
     simp only [Act.put, pu]
     refine pw_mv (by rfl) rfl rfl ?_
     simp only [Act.put, pu]
     refine pw_value (by rfl) (.int .i64 ((i % 2 : Nat) : Int)) (fun w' => (exec_bits_i .and _ _ _ _ (.inl rfl) rfl (i : Int) 1 rfl rfl w').trans (by rw [and_1n])) ?_
     simp only [Act.put, pu]
     refine pw_value (by rfl) (.bool true) (exec_eql_k .i64 _ _ _ _ rfl ((i % 2 : Nat) : Int) 1 rfl rfl true (decide_eq_true (by omega))) ?_
     simp only [Act.put, pu]
     refine pw_pick (by rfl) true (v := .bool true) rfl rfl rfl ?_
     simp only [Act.put, pu]
     refine pw_nil ?_
     have hdr := htd1 u
     have hdn : drw QQ u = none := by
      have := HD.out
      rw [h1, dst_one] at this
      cases hq : drw QQ u with
      | none => rfl
      | some y => rw [hq] at this; cases this
     obtain ⟨f1, f2, _, f4, _⟩ := dr_none hdn
     rw [f1, f2, f4] at hdr
     have hrd1 := fun w' => hrda u w' 1 (by decide) hul
     have hd1 : dst QQ u 1 = none := by rw [dst_one, hdn]; rfl
     obtain ⟨f1, f2, f3, f4, f5⟩ := dw_none hd1
     rw [f1, f3, f5] at hrd1
     clear f1 f2 f3 f4 f5 hdn hd1
     (repeat ((fail_if_success with_reducible refine rg ?_); go_step))
     refine wp_region_pw ?_
     refine pw_mv (by rfl) rfl rfl ?_
     simp only [Act.put, pu]
     refine pw_mv (by rfl) rfl rfl ?_
     simp only [Act.put, pu]
     refine pw_callE (by rfl) 18 _ _ rfl Tryd.func18 (by kernel_rfl) #[.pointer (some ⟨gT, 0, none⟩), .pointer (some ⟨g, 0, none⟩)] rfl (hdr _ gT ⟨rG, rR, rF⟩ rT) ?_
     have crT := rT.lt
     clear rT
     rintro _ z16002 ⟨rfl, rT, k⟩
     refine ⟨_, rfl, ?_⟩
     simp only [Act.put, pu]
     clear crT
     replace r7 := k.row r7 (by simp <;> omega)
     replace rP := k.row rP (by simp <;> omega)
     replace rG := k.row rG (by simp <;> omega)
     replace rR := k.row rR (by simp <;> omega)
     replace rF := k.row rF (by simp <;> omega)
     replace hX := hX.on k (own_ne1 ehXxT)
     replace hY := hY.on k (own_ne1 ehYxT)
     replace sb := sb.trans (k.below w.heap.size sb.size (by simp <;> omega))
     clear k
     refine pw_mv (by rfl) rfl rfl ?_
     simp only [Act.put, pu]
     refine pw_ext (by rfl) rfl rfl rfl ?_
     simp only [Act.put, pu]
     refine pw_ext (by rfl) rfl rfl rfl ?_
     simp only [Act.put, pu]
     refine pw_new (by rfl) 35 rfl _ zero_nat ?_
     intro g20 z16006 n0 r20 k
     simp only [Act.put, pu]
     have dTx20 := Nat.lt_of_lt_of_le rT.lt n0
     have d7x20 := Nat.lt_of_lt_of_le r7.lt n0
     have dPx20 := Nat.lt_of_lt_of_le rP.lt n0
     have dGx20 := Nat.lt_of_lt_of_le rG.lt n0
     have dRx20 := Nat.lt_of_lt_of_le rR.lt n0
     have dFx20 := Nat.lt_of_lt_of_le rF.lt n0
     have ehXx20 := hX.new n0
     have ehYx20 := hY.new n0
     have b20 := Nat.le_trans sb.size n0
     clear n0
     replace rT := k.row rT (by simp <;> omega)
     replace r7 := k.row r7 (by simp <;> omega)
     replace rP := k.row rP (by simp <;> omega)
     replace rG := k.row rG (by simp <;> omega)
     replace rR := k.row rR (by simp <;> omega)
     replace rF := k.row rF (by simp <;> omega)
     replace hX := hX.on k (own_ne0 _)
     replace hY := hY.on k (own_ne0 _)
     replace sb := sb.trans (k.below w.heap.size sb.size (by simp <;> omega))
     clear k
     refine pw_put (by rfl) 35 _ _ rfl _ rfl r20 (natC 0) rfl (by exact size_nat) (by simp only [natC_size]) (natC_one _) ?_
     clear r20
     intro z16007 r20 k
     simp only [Act.put]
     replace rT := k.row rT (by simp <;> omega)
     replace r7 := k.row r7 (by simp <;> omega)
     replace rP := k.row rP (by simp <;> omega)
     replace rG := k.row rG (by simp <;> omega)
     replace rR := k.row rR (by simp <;> omega)
     replace rF := k.row rF (by simp <;> omega)
     replace hX := hX.on k (own_ne1 ehXx20)
     replace hY := hY.on k (own_ne1 ehYx20)
     replace sb := sb.trans (k.below w.heap.size sb.size (by simp <;> omega))
     clear k
     refine pw_as (by rfl) rfl rfl ?_
     simp only [Act.put, pu]
     refine pw_nil ?_
     clear hdr
     have HS : Hid (s.drop (at' + 0) = u) := HT.out
     (repeat ((fail_if_success with_reducible refine rg ?_); go_step))
     refine wp_region_dwb (by kernel_rfl) [false, false, false, false, false, false, false, false, false, false, true, false, false, false, false, false, false, false] ?_ (by kernel_rfl)
     have orT := rT
     have or7 := r7
     have orP := rP
     have orG := rG
     have orR := rR
     have orF := rF
     have or20 := r20
     have cb := below_self sb
     refine dw_mv (by rfl) rfl rfl ?_
     simp only [Act.put, pu]
     refine dw_mv (by rfl) rfl rfl ?_
     simp only [Act.put, pu]
     refine dw_value (by rfl) (.int .i64 s.length) (y_lenS _ _ rfl s rfl Tryd.underlying9) ?_
     simp only [Act.put, pu]
     refine dw_mv (by rfl) rfl rfl ?_
     simp only [Act.put, pu]
     refine dw_mv (by rfl) rfl rfl ?_
     simp only [Act.put, pu]
     refine dw_value (by rfl) (.int .i64 ((at' + 0 : Nat) : Int)) (exec_add_in _ _ _ _ rfl at' 0 rfl rfl (by omega)) ?_
     simp only [Act.put, pu]
     refine dw_value (by rfl) (.int .i64 ((at' + 0 : Nat) : Int)) (y_min _ _ _ rfl s.length (at' + 0) _ rfl rfl (by omega)) ?_
     simp only [Act.put, pu]
     refine dw_value (by rfl) (.string ⟨(u).toArray⟩) (fun w' => (y_from _ _ _ Tryd.underlying9 rfl s (at' + 0) rfl rfl (by omega) w').trans (by rw [HS.out])) ?_
     simp only [Act.put, pu]
     refine dw_loadm (by rfl) 37 _ rfl _ 0 rfl (fun _ hb => (or7.belowAll hb).r) _ (part_all _) _ Tryd.underlying37 rfl size_pa ?_
     simp only [Act.put, pu]
     refine dw_call (by rfl) 16 _ _ rfl Tryd.func16 (by kernel_rfl) #[.agg (paC (some ⟨gP, 0, none⟩) N1 N1 G3)] rfl _ (fun w' hb => hrq w' gP (orP.belowAll hb)) ?_
     simp only [Act.put, pu]
     refine dw_callE (by rfl) 15 _ _ rfl Tryd.func15 (by kernel_rfl) #[.string ⟨(u).toArray⟩, .agg (natC QQ), .int .i64 (1 : Nat)] rfl ?_
     intro wa10 hqb
     replace rT := rT.belowAll hqb
     replace r7 := r7.belowAll hqb
     replace rP := rP.belowAll hqb
     replace rG := rG.belowAll hqb
     replace rR := rR.belowAll hqb
     replace rF := rF.belowAll hqb
     replace r20 := r20.belowAll hqb
     replace hX := hX.on (Kept.ofBelow hqb) (own_ne0 _)
     replace hY := hY.on (Kept.ofBelow hqb) (own_ne0 _)
     replace sb := below_on sb (Nat.le_refl _) hqb
     replace cb := below_on cb (Nat.le_refl _) hqb
     clear hqb
     refine (hrd1 _).mono ?_
     rintro _ wb10 ⟨vz, rfl, hZ, hb⟩
     refine ⟨_, rfl, below_on cb (Nat.le_refl _) hb, ?_⟩
     simp only [Act.put, pu]
     have ehZxT := hZ.low rT.lt
     have ehZx7 := hZ.low r7.lt
     have ehZxP := hZ.low rP.lt
     have ehZxG := hZ.low rG.lt
     have ehZxR := hZ.low rR.lt
     have ehZxF := hZ.low rF.lt
     have ehZx20 := hZ.low r20.lt
     replace rT := rT.belowAll hb
     replace r7 := r7.belowAll hb
     replace rP := rP.belowAll hb
     replace rG := rG.belowAll hb
     replace rR := rR.belowAll hb
     replace rF := rF.belowAll hb
     replace r20 := r20.belowAll hb
     replace hX := hX.on (Kept.ofBelow hb) (own_ne0 _)
     replace hY := hY.on (Kept.ofBelow hb) (own_ne0 _)
     replace sb := below_on sb (Nat.le_refl _) hb
     replace cb := below_on cb (Nat.le_refl _) hb
     clear hb
     refine dw_mv (by rfl) rfl rfl ?_
     simp only [Act.put, pu]
     refine dw_ext (by rfl) rfl rfl rfl ?_
     simp only [Act.put, pu]
     refine dw_ext (by rfl) rfl rfl rfl ?_
     simp only [Act.put, pu]
     refine dw_ext (by rfl) rfl rfl rfl ?_
     simp only [Act.put, pu]
     refine dw_as (by rfl) rfl rfl ?_
     simp only [Act.put, pu]
     refine dw_as (by rfl) rfl rfl ?_
     simp only [Act.put, pu]
     refine dw_as (by rfl) rfl rfl ?_
     simp only [Act.put, pu]
     refine dw_nil ?_
     intro wz hqb
     replace rT := rT.belowAll hqb
     replace r7 := r7.belowAll hqb
     replace rP := rP.belowAll hqb
     replace rG := rG.belowAll hqb
     replace rR := rR.belowAll hqb
     replace rF := rF.belowAll hqb
     replace r20 := r20.belowAll hqb
     replace hX := hX.on (Kept.ofBelow hqb) (own_ne0 _)
     replace hY := hY.on (Kept.ofBelow hqb) (own_ne0 _)
     replace hZ := hZ.on (Kept.ofBelow hqb) (own_ne0 _)
     replace sb := below_on sb (Nat.le_refl _) hqb
     clear hqb cb orT or7 orP orG orR orF or20
     clear hrd1 hZ
     (repeat ((fail_if_success with_reducible refine rg ?_); go_step))
     refine wp_region_qw (by kernel_rfl) (by kernel_rfl) ?_
     refine qw_move (by rfl) rfl rfl ?_
     simp only [Act.put, pu]
     refine qw_move (by rfl) rfl rfl ?_
     simp only [Act.put, pu]
     refine qw_skip (by rfl) ?_
     simp only [Act.put, pu]
     refine qw_skip (by rfl) ?_
     simp only [Act.put, pu]
     refine qw_skip (by rfl) ?_
     simp only [Act.put, pu]
     refine qw_skip (by rfl) ?_
     simp only [Act.put, pu]
     refine qw_skip (by rfl) ?_
     simp only [Act.put, pu]
     refine qw_skip (by rfl) ?_
     simp only [Act.put, pu]
     refine qw_skip (by rfl) ?_
     simp only [Act.put, pu]
     refine qw_skip (by rfl) ?_
     simp only [Act.put, pu]
     refine qw_skip (by rfl) ?_
     simp only [Act.put, pu]
     refine qw_skip (by rfl) ?_
     simp only [Act.put, pu]
     refine qw_skip (by rfl) ?_
     simp only [Act.put, pu]
     refine qw_skip (by rfl) ?_
     simp only [Act.put, pu]
     refine qw_skip (by rfl) ?_
     simp only [Act.put, pu]
     refine qw_skip (by rfl) ?_
     simp only [Act.put, pu]
     refine qw_pick false (v := .bool false) (by rfl) rfl rfl rfl ?_
     simp only [Act.put, pu]
     refine qw_nil ?_
     intro w18 hqb
     replace rT := rT.belowAll hqb
     replace r7 := r7.belowAll hqb
     replace rP := rP.belowAll hqb
     replace rG := rG.belowAll hqb
     replace rR := rR.belowAll hqb
     replace rF := rF.belowAll hqb
     replace hX := hX.on (Kept.ofBelow hqb) (own_ne0 _)
     replace hY := hY.on (Kept.ofBelow hqb) (own_ne0 _)
     replace sb := below_on sb (Nat.le_refl _) hqb
     clear hqb
     clear r20
     (repeat ((fail_if_success with_reducible refine rg ?_); go_step))
     refine wp_region_pw ?_
     refine pw_mv (by rfl) rfl rfl ?_
     simp only [Act.put, pu]
     refine pw_mv (by rfl) rfl rfl ?_
     simp only [Act.put, pu]
     refine pw_skip (by rfl) ?_
     simp only [Act.put, pu]
     refine pw_pick (by rfl) false (v := .bool false) rfl rfl rfl ?_
     simp only [Act.put, pu]
     refine pw_nil ?_
     obtain ⟨ax, cx, rfl⟩ := own_shape hX
     obtain ⟨ay, cy, rfl⟩ := own_shape hY
     obtain ⟨_, gx, curx, hnx⟩ := ownN_nats hX (fun j hj => absurd hj (Nat.not_lt_zero _))
     obtain ⟨_, gy, cury, hny⟩ := ownN_nats hY (fun j hj => absurd hj (Nat.not_lt_zero _))
     clear hX hY
     (repeat ((fail_if_success with_reducible refine rg ?_); go_step))
     refine wp_region_pw ?_
     refine pw_mv (by rfl) rfl rfl ?_
     simp only [Act.put, pu]
     refine pw_value (by rfl) (.bool false) (exec_eql_k .i64 _ _ _ _ rfl 5 0 rfl rfl false rfl) ?_
     simp only [Act.put, pu]
     refine pw_mv (by rfl) rfl rfl ?_
     simp only [Act.put, pu]
     refine pw_value (by rfl) (.bool false) (y_neB _ _ _ _ rfl false false rfl rfl Tryd.underlying4 false rfl) ?_
     simp only [Act.put, pu]
     refine pw_mv (by rfl) rfl rfl ?_
     simp only [Act.put, pu]
     refine pw_mv (by rfl) rfl rfl ?_
     simp only [Act.put, pu]
     refine pw_value (by rfl) (.bool true) (exec_neq_k .i64 _ _ _ _ rfl 5 0 rfl rfl true rfl) ?_
     simp only [Act.put, pu]
     refine pw_mv (by rfl) rfl rfl ?_
     simp only [Act.put, pu]
     refine pw_mv (by rfl) rfl rfl ?_
     simp only [Act.put, pu]
     refine pw_value (by rfl) (.bool false) (exec_neq_k .i64 _ _ _ _ rfl 5 5 rfl rfl false rfl) ?_
     simp only [Act.put, pu]
     refine pw_pick (by rfl) true (v := .bool false) rfl rfl rfl ?_
     simp only [Act.put, pu]
     refine pw_pick (by rfl) false (v := .bool false) rfl rfl rfl ?_
     simp only [Act.put, pu]
     refine pw_mv (by rfl) rfl rfl ?_
     simp only [Act.put, pu]
     refine pw_mv (by rfl) rfl rfl ?_
     simp only [Act.put, pu]
     refine pw_mv (by rfl) rfl rfl ?_
     simp only [Act.put, pu]
     refine pw_callB (by rfl) 19 _ _ rfl Tryd.func19 (by kernel_rfl) #[.slice ax 0 cx, .slice ay 0 cy] rfl _ (rsame_yes 0 cx cy ax ay (dwf QQ u) gx 0 gy 0 _ _ _ _ _ (by omega) hnx hny) ?_
     intro z22015 k
     simp only [Act.put, pu]
     replace rT := k.row rT (by simp <;> omega)
     replace r7 := k.row r7 (by simp <;> omega)
     replace rP := k.row rP (by simp <;> omega)
     replace rG := k.row rG (by simp <;> omega)
     replace rR := k.row rR (by simp <;> omega)
     replace rF := k.row rF (by simp <;> omega)
     replace sb := sb.trans (k.below w.heap.size sb.size (by simp <;> omega))
     clear k
     refine pw_value (by rfl) (.bool false) (exec_not _ _ rfl true rfl) ?_
     simp only [Act.put, pu]
     refine pw_pick (by rfl) false (v := .bool false) rfl rfl rfl ?_
     simp only [Act.put, pu]
     refine pw_nil ?_
     clear hnx hny
     (repeat ((fail_if_success with_reducible refine rg ?_); go_step))
     refine wp_region_pw ?_
     refine pw_mv (by rfl) rfl rfl ?_
     simp only [Act.put, pu]
     refine pw_mv (by rfl) rfl rfl ?_
     simp only [Act.put, pu]
     refine pw_value (by rfl) (.int .i64 ((at' + 0 : Nat) : Int)) (exec_add_in _ _ _ _ rfl at' 0 rfl rfl (by omega)) ?_
     simp only [Act.put, pu]
     refine pw_as (by rfl) rfl rfl ?_
     simp only [Act.put, pu]
     refine pw_nil ?_
     (repeat ((fail_if_success with_reducible refine rg ?_); go_step))
     refine wp_region_pw ?_
     refine pw_mv (by rfl) rfl rfl ?_
     simp only [Act.put, pu]
     refine pw_callB (by rfl) 10 _ _ rfl Tryd.func10 (by kernel_rfl) #[.pointer (some ⟨gT, 0, none⟩)] rfl _ (tleft_ok gT u _ rT) ?_
     intro z25001 k
     simp only [Act.put, pu]
     replace rT := k.row rT (by simp <;> omega)
     replace r7 := k.row r7 (by simp <;> omega)
     replace rP := k.row rP (by simp <;> omega)
     replace rG := k.row rG (by simp <;> omega)
     replace rR := k.row rR (by simp <;> omega)
     replace rF := k.row rF (by simp <;> omega)
     replace sb := sb.trans (k.below w.heap.size sb.size (by simp <;> omega))
     clear k
     refine pw_mv (by rfl) rfl rfl ?_
     simp only [Act.put, pu]
     refine pw_value (by rfl) (.int .i64 s.length) (y_lenS _ _ rfl s rfl Tryd.underlying9) ?_
     simp only [Act.put, pu]
     refine pw_mv (by rfl) rfl rfl ?_
     simp only [Act.put, pu]
     refine pw_value (by rfl) (.int .i64 ((s.length - (at' + 0) : Nat) : Int)) (exec_sub_in _ _ _ _ rfl s.length (at' + 0) rfl rfl (by omega) (by omega)) ?_
     simp only [Act.put, pu]
     refine pw_value (by rfl) (.bool false) (exec_neq_k .i64 _ _ _ _ rfl ((u).length : Nat) (s.length - (at' + 0) : Nat) rfl rfl false (by rw [hTl, decide_eq_true rfl]; rfl)) ?_
     simp only [Act.put, pu]
     refine pw_nil ?_
     (repeat ((fail_if_success with_reducible refine rg ?_); go_step))
     refine wp_region_pw ?_
     refine pw_mv (by rfl) rfl rfl ?_
     simp only [Act.put, pu]
     refine pw_value (by rfl) (.int .i64 ((i + 1 : Nat) : Int)) (exec_add_in _ _ _ _ rfl i 1 rfl rfl (by omega)) ?_
     simp only [Act.put, pu]
     refine pw_as (by rfl) rfl rfl ?_
     simp only [Act.put, pu]
     refine pw_nil ?_
     go_wp2
     go_roundg gg
     case measure => omega
     case rel => exact ⟨i + 1, at' + 0, by omega, rfl, rfl, by omega, by rw [HT.out]; exact rT, r7, rP, ⟨rG, rR, rF⟩, sb⟩
    ·by_cases h1 : nn = 1
     case' pos =>
      have hi2 : ¬ i % 2 = 1 := fun h => hodd ⟨h1, h⟩
      (repeat ((fail_if_success with_reducible refine rg ?_); go_step))
      refine wp_region_pw ?_
      refine pw_mv (by rfl) rfl rfl ?_
      simp only [Act.put, pu]
      refine pw_value (by rfl) (.bool true) (exec_eql_k .i64 _ _ _ _ rfl (nn : Nat) 1 rfl rfl true (decide_eq_true (by omega))) ?_
      simp only [Act.put, pu]
      refine pw_mv (by rfl) rfl rfl ?_
      simp only [Act.put, pu]
      refine pw_mv (by rfl) rfl rfl ?_
      simp only [Act.put, pu]
      refine pw_value (by rfl) (.int .i64 ((i % 2 : Nat) : Int)) (fun w' => (exec_bits_i .and _ _ _ _ (.inl rfl) rfl (i : Int) 1 rfl rfl w').trans (by rw [and_1n])) ?_
      simp only [Act.put, pu]
      refine pw_value (by rfl) (.bool false) (exec_eql_k .i64 _ _ _ _ rfl ((i % 2 : Nat) : Int) 1 rfl rfl false (decide_eq_false (by omega))) ?_
      simp only [Act.put, pu]
      refine pw_pick (by rfl) true (v := .bool false) rfl rfl rfl ?_
      simp only [Act.put, pu]
      refine pw_nil ?_
     case' neg =>
      (repeat ((fail_if_success with_reducible refine rg ?_); go_step))
      refine wp_region_pw ?_
      refine pw_mv (by rfl) rfl rfl ?_
      simp only [Act.put, pu]
      refine pw_value (by rfl) (.bool false) (exec_eql_k .i64 _ _ _ _ rfl (nn : Nat) 1 rfl rfl false (decide_eq_false (by omega))) ?_
      simp only [Act.put, pu]
      refine pw_mv (by rfl) rfl rfl ?_
      simp only [Act.put, pu]
      refine pw_skip (by rfl) ?_
      simp only [Act.put, pu]
      refine pw_skip (by rfl) ?_
      simp only [Act.put, pu]
      refine pw_skip (by rfl) ?_
      simp only [Act.put, pu]
      refine pw_pick (by rfl) false (v := .bool false) rfl rfl rfl ?_
      simp only [Act.put, pu]
      refine pw_nil ?_
     all_goals
      obtain ⟨ax, cx, rfl⟩ := own_shape hX
      obtain ⟨ay, cy, rfl⟩ := own_shape hY
      obtain ⟨_, gx, curx, hnx⟩ := ownN_nats hX (fun j hj => absurd hj (Nat.not_lt_zero _))
      obtain ⟨_, gy, cury, hny⟩ := ownN_nats hY (fun j hj => absurd hj (Nat.not_lt_zero _))
      clear hX hY
      (repeat ((fail_if_success with_reducible refine rg ?_); go_step))
      refine wp_region_pw ?_
      refine pw_mv (by rfl) rfl rfl ?_
      simp only [Act.put, pu]
      refine pw_value (by rfl) (.bool false) (exec_eql_k .i64 _ _ _ _ rfl 5 0 rfl rfl false rfl) ?_
      simp only [Act.put, pu]
      refine pw_mv (by rfl) rfl rfl ?_
      simp only [Act.put, pu]
      refine pw_value (by rfl) (.bool false) (y_neB _ _ _ _ rfl false false rfl rfl Tryd.underlying4 false rfl) ?_
      simp only [Act.put, pu]
      refine pw_mv (by rfl) rfl rfl ?_
      simp only [Act.put, pu]
      refine pw_mv (by rfl) rfl rfl ?_
      simp only [Act.put, pu]
      refine pw_value (by rfl) (.bool true) (exec_neq_k .i64 _ _ _ _ rfl 5 0 rfl rfl true rfl) ?_
      simp only [Act.put, pu]
      refine pw_mv (by rfl) rfl rfl ?_
      simp only [Act.put, pu]
      refine pw_mv (by rfl) rfl rfl ?_
      simp only [Act.put, pu]
      refine pw_value (by rfl) (.bool false) (exec_neq_k .i64 _ _ _ _ rfl 5 5 rfl rfl false rfl) ?_
      simp only [Act.put, pu]
      refine pw_pick (by rfl) true (v := .bool false) rfl rfl rfl ?_
      simp only [Act.put, pu]
      refine pw_pick (by rfl) false (v := .bool false) rfl rfl rfl ?_
      simp only [Act.put, pu]
      refine pw_mv (by rfl) rfl rfl ?_
      simp only [Act.put, pu]
      refine pw_mv (by rfl) rfl rfl ?_
      simp only [Act.put, pu]
      refine pw_mv (by rfl) rfl rfl ?_
      simp only [Act.put, pu]
      refine pw_callB (by rfl) 19 _ _ rfl Tryd.func19 (by kernel_rfl) #[.slice ax 0 cx, .slice ay 0 cy] rfl _ (rsame_yes 0 cx cy ax ay (dwf QQ u) gx 0 gy 0 _ _ _ _ _ (by omega) hnx hny) ?_
      intro z22015 k
      simp only [Act.put, pu]
      replace rT := k.row rT (by simp <;> omega)
      replace r7 := k.row r7 (by simp <;> omega)
      replace rP := k.row rP (by simp <;> omega)
      replace rG := k.row rG (by simp <;> omega)
      replace rR := k.row rR (by simp <;> omega)
      replace rF := k.row rF (by simp <;> omega)
      replace sb := sb.trans (k.below w.heap.size sb.size (by simp <;> omega))
      clear k
      refine pw_value (by rfl) (.bool false) (exec_not _ _ rfl true rfl) ?_
      simp only [Act.put, pu]
      refine pw_pick (by rfl) false (v := .bool false) rfl rfl rfl ?_
      simp only [Act.put, pu]
      refine pw_nil ?_
      clear hnx hny
      (repeat ((fail_if_success with_reducible refine rg ?_); go_step))
      refine wp_region_pw ?_
      refine pw_mv (by rfl) rfl rfl ?_
      simp only [Act.put, pu]
      refine pw_mv (by rfl) rfl rfl ?_
      simp only [Act.put, pu]
      refine pw_value (by rfl) (.int .i64 ((at' + 0 : Nat) : Int)) (exec_add_in _ _ _ _ rfl at' 0 rfl rfl (by omega)) ?_
      simp only [Act.put, pu]
      refine pw_as (by rfl) rfl rfl ?_
      simp only [Act.put, pu]
      refine pw_nil ?_
      (repeat ((fail_if_success with_reducible refine rg ?_); go_step))
      refine wp_region_pw ?_
      refine pw_mv (by rfl) rfl rfl ?_
      simp only [Act.put, pu]
      refine pw_callB (by rfl) 10 _ _ rfl Tryd.func10 (by kernel_rfl) #[.pointer (some ⟨gT, 0, none⟩)] rfl _ (tleft_ok gT u _ rT) ?_
      intro z25001 k
      simp only [Act.put, pu]
      replace rT := k.row rT (by simp <;> omega)
      replace r7 := k.row r7 (by simp <;> omega)
      replace rP := k.row rP (by simp <;> omega)
      replace rG := k.row rG (by simp <;> omega)
      replace rR := k.row rR (by simp <;> omega)
      replace rF := k.row rF (by simp <;> omega)
      replace sb := sb.trans (k.below w.heap.size sb.size (by simp <;> omega))
      clear k
      refine pw_mv (by rfl) rfl rfl ?_
      simp only [Act.put, pu]
      refine pw_value (by rfl) (.int .i64 s.length) (y_lenS _ _ rfl s rfl Tryd.underlying9) ?_
      simp only [Act.put, pu]
      refine pw_mv (by rfl) rfl rfl ?_
      simp only [Act.put, pu]
      refine pw_value (by rfl) (.int .i64 ((s.length - (at' + 0) : Nat) : Int)) (exec_sub_in _ _ _ _ rfl s.length (at' + 0) rfl rfl (by omega) (by omega)) ?_
      simp only [Act.put, pu]
      refine pw_value (by rfl) (.bool false) (exec_neq_k .i64 _ _ _ _ rfl ((u).length : Nat) (s.length - (at' + 0) : Nat) rfl rfl false (by rw [hTl, decide_eq_true rfl]; rfl)) ?_
      simp only [Act.put, pu]
      refine pw_nil ?_
      (repeat ((fail_if_success with_reducible refine rg ?_); go_step))
      refine wp_region_pw ?_
      refine pw_mv (by rfl) rfl rfl ?_
      simp only [Act.put, pu]
      refine pw_value (by rfl) (.int .i64 ((i + 1 : Nat) : Int)) (exec_add_in _ _ _ _ rfl i 1 rfl rfl (by omega)) ?_
      simp only [Act.put, pu]
      refine pw_as (by rfl) rfl rfl ?_
      simp only [Act.put, pu]
      refine pw_nil ?_
      go_wp2
      go_roundg gg
      case measure => omega
      case rel => exact ⟨i + 1, at' + 0, by omega, rfl, rfl, by omega, by rw [HT.out]; exact rT, r7, rP, ⟨rG, rR, rF⟩, sb⟩
   | some tl =>
    obtain ⟨hle, hdr0⟩ := dst_is nn tl hd
    obtain ⟨f1, f2, f3, f4, f5⟩ := dw_some hd
    rw [f1, f3, f5] at hrd
    rw [f1, f2, f4] at htd
    have hUs : at' + ((s.drop at').length - tl.length) ≤ s.length := by omega
    have HT : Hid (s.drop (at' + ((s.drop at').length - tl.length)) = tl) := by
     show s.drop (at' + ((s.drop at').length - tl.length)) = tl
     rw [← List.drop_drop]
     exact hdr0.symm
    have hTl : tl.length = s.length - (at' + ((s.drop at').length - tl.length)) := by rw [← List.length_drop, HT.out]
    clear f1 f2 f3 f4 f5 hd hdr0
    clear HU0
    generalize hU : (s.drop at').length - tl.length = U at *
    generalize hu : s.drop at' = u at *
    have HU0 : Hid (s.drop at' = u) := hu
    clear hu
    (repeat ((fail_if_success with_reducible refine rg ?_); go_step))
    refine wp_region_dwb (by kernel_rfl) [false, false, false, false, false, false, true, false, false, false, false, false, false, false] ?_ (by kernel_rfl)
    have orT := rT
    have or7 := r7
    have orP := rP
    have orG := rG
    have orR := rR
    have orF := rF
    have cb := below_self sb
    refine dw_mv (by rfl) rfl rfl ?_
    simp only [Act.put, pu]
    refine dw_mv (by rfl) rfl rfl ?_
    simp only [Act.put, pu]
    refine dw_value (by rfl) (.string ⟨(u).toArray⟩) (fun w' => (y_from _ _ _ Tryd.underlying9 rfl s at' rfl rfl (by omega) w').trans (by rw [HU0.out])) ?_
    simp only [Act.put, pu]
    refine dw_loadm (by rfl) 37 _ rfl _ 0 rfl (fun _ hb => (or7.belowAll hb).r) _ (part_all _) _ Tryd.underlying37 rfl size_pa ?_
    simp only [Act.put, pu]
    refine dw_call (by rfl) 16 _ _ rfl Tryd.func16 (by kernel_rfl) #[.agg (paC (some ⟨gP, 0, none⟩) N1 N1 G3)] rfl _ (fun w' hb => hrq w' gP (orP.belowAll hb)) ?_
    simp only [Act.put, pu]
    refine dw_mv (by rfl) rfl rfl ?_
    simp only [Act.put, pu]
    refine dw_callE (by rfl) 15 _ _ rfl Tryd.func15 (by kernel_rfl) #[.string ⟨(u).toArray⟩, .agg (natC QQ), .int .i64 (nn : Nat)] rfl ?_
    intro wa6 hqb
    replace rT := rT.belowAll hqb
    replace r7 := r7.belowAll hqb
    replace rP := rP.belowAll hqb
    replace rG := rG.belowAll hqb
    replace rR := rR.belowAll hqb
    replace rF := rF.belowAll hqb
    replace sb := below_on sb (Nat.le_refl _) hqb
    replace cb := below_on cb (Nat.le_refl _) hqb
    clear hqb
    refine (hrd _).mono ?_
    rintro _ wb6 ⟨vx, rfl, hX, hb⟩
    refine ⟨_, rfl, below_on cb (Nat.le_refl _) hb, ?_⟩
    simp only [Act.put, pu]
    have ehXxT := hX.low rT.lt
    have ehXx7 := hX.low r7.lt
    have ehXxP := hX.low rP.lt
    have ehXxG := hX.low rG.lt
    have ehXxR := hX.low rR.lt
    have ehXxF := hX.low rF.lt
    replace rT := rT.belowAll hb
    replace r7 := r7.belowAll hb
    replace rP := rP.belowAll hb
    replace rG := rG.belowAll hb
    replace rR := rR.belowAll hb
    replace rF := rF.belowAll hb
    replace sb := below_on sb (Nat.le_refl _) hb
    replace cb := below_on cb (Nat.le_refl _) hb
    clear hb
    refine dw_mv (by rfl) rfl rfl ?_
    simp only [Act.put, pu]
    refine dw_ext (by rfl) rfl rfl rfl ?_
    simp only [Act.put, pu]
    refine dw_ext (by rfl) rfl rfl rfl ?_
    simp only [Act.put, pu]
    refine dw_ext (by rfl) rfl rfl rfl ?_
    simp only [Act.put, pu]
    refine dw_as (by rfl) rfl rfl ?_
    simp only [Act.put, pu]
    refine dw_as (by rfl) rfl rfl ?_
    simp only [Act.put, pu]
    refine dw_as (by rfl) rfl rfl ?_
    simp only [Act.put, pu]
    refine dw_nil ?_
    intro wz hqb
    replace rT := rT.belowAll hqb
    replace r7 := r7.belowAll hqb
    replace rP := rP.belowAll hqb
    replace rG := rG.belowAll hqb
    replace rR := rR.belowAll hqb
    replace rF := rF.belowAll hqb
    replace hX := hX.on (Kept.ofBelow hqb) (own_ne0 _)
    replace sb := below_on sb (Nat.le_refl _) hqb
    clear hqb cb orT or7 orP orG orR orF
    clear hrd
    (repeat ((fail_if_success with_reducible refine rg ?_); go_step))
    refine wp_region_pw ?_
    refine pw_mv (by rfl) rfl rfl ?_
    simp only [Act.put, pu]
    refine pw_mv (by rfl) rfl rfl ?_
    simp only [Act.put, pu]
    refine pw_mv (by rfl) rfl rfl ?_
    simp only [Act.put, pu]
    refine pw_callE (by rfl) 17 _ _ rfl Tryd.func17 (by kernel_rfl) #[.pointer (some ⟨gT, 0, none⟩), .pointer (some ⟨g, 0, none⟩), .int .i64 (nn : Nat)] rfl (htd _ gT ⟨rG, rR, rF⟩ rT) ?_
    have crT := rT.lt
    clear rT
    rintro _ z14003 ⟨vy, rfl, hY, rT, k⟩
    refine ⟨_, rfl, ?_⟩
    simp only [Act.put, pu]
    have ehYxT := hY.low crT
    have ehYx7 := hY.low r7.lt
    have ehYxP := hY.low rP.lt
    have ehYxG := hY.low rG.lt
    have ehYxR := hY.low rR.lt
    have ehYxF := hY.low rF.lt
    clear crT
    replace r7 := k.row r7 (by simp <;> omega)
    replace rP := k.row rP (by simp <;> omega)
    replace rG := k.row rG (by simp <;> omega)
    replace rR := k.row rR (by simp <;> omega)
    replace rF := k.row rF (by simp <;> omega)
    replace hX := hX.on k (own_ne1 ehXxT)
    replace sb := sb.trans (k.below w.heap.size sb.size (by simp <;> omega))
    clear k
    refine pw_mv (by rfl) rfl rfl ?_
    simp only [Act.put, pu]
    refine pw_ext (by rfl) rfl rfl rfl ?_
    simp only [Act.put, pu]
    refine pw_ext (by rfl) rfl rfl rfl ?_
    simp only [Act.put, pu]
    refine pw_as (by rfl) rfl rfl ?_
    simp only [Act.put, pu]
    refine pw_as (by rfl) rfl rfl ?_
    simp only [Act.put, pu]
    refine pw_nil ?_
    clear htd
    by_cases hodd : nn = 1 ∧ i % 2 = 1
    ·obtain ⟨h1, hi2⟩ := hodd
     (repeat ((fail_if_success with_reducible refine rg ?_); go_step))
     refine wp_region_pw ?_
     refine pw_mv (by rfl) rfl rfl ?_
     simp only [Act.put, pu]
     refine pw_value (by rfl) (.bool true) (exec_eql_k .i64 _ _ _ _ rfl (nn : Nat) 1 rfl rfl true (decide_eq_true (by omega))) ?_
     simp only [Act.put, pu]
     refine pw_mv (by rfl) rfl rfl ?_
     simp only [Act.put, pu]
     refine pw_mv (by rfl) rfl rfl ?_
     simp only [Act.put, pu]
     refine pw_value (by rfl) (.int .i64 ((i % 2 : Nat) : Int)) (fun w' => (exec_bits_i .and _ _ _ _ (.inl rfl) rfl (i : Int) 1 rfl rfl w').trans (by rw [and_1n])) ?_
     simp only [Act.put, pu]
     refine pw_value (by rfl) (.bool true) (exec_eql_k .i64 _ _ _ _ rfl ((i % 2 : Nat) : Int) 1 rfl rfl true (decide_eq_true (by omega))) ?_
     simp only [Act.put, pu]
     refine pw_pick (by rfl) true (v := .bool true) rfl rfl rfl ?_
     simp only [Act.put, pu]
     refine pw_nil ?_
     have hdr := htd1 tl
     have hrd1 := fun w' => hrda tl w' 1 (by decide) (by omega)
     cases hdn : drw QQ tl with
     | none =>
      obtain ⟨f1, f2, _, f4, _⟩ := dr_none hdn
      rw [f1, f2, f4] at hdr
      have hd1 : dst QQ tl 1 = none := by rw [dst_one, hdn]; rfl
      obtain ⟨f1, f2, f3, f4, f5⟩ := dw_none hd1
      rw [f1, f3, f5] at hrd1
      clear f1 f2 f3 f4 f5 hdn hd1
      (repeat ((fail_if_success with_reducible refine rg ?_); go_step))
      refine wp_region_pw ?_
      refine pw_mv (by rfl) rfl rfl ?_
      simp only [Act.put, pu]
      refine pw_mv (by rfl) rfl rfl ?_
      simp only [Act.put, pu]
      refine pw_callE (by rfl) 18 _ _ rfl Tryd.func18 (by kernel_rfl) #[.pointer (some ⟨gT, 0, none⟩), .pointer (some ⟨g, 0, none⟩)] rfl (hdr _ gT ⟨rG, rR, rF⟩ rT) ?_
      have crT := rT.lt
      clear rT
      rintro _ z16002 ⟨rfl, rT, k⟩
      refine ⟨_, rfl, ?_⟩
      simp only [Act.put, pu]
      clear crT
      replace r7 := k.row r7 (by simp <;> omega)
      replace rP := k.row rP (by simp <;> omega)
      replace rG := k.row rG (by simp <;> omega)
      replace rR := k.row rR (by simp <;> omega)
      replace rF := k.row rF (by simp <;> omega)
      replace hX := hX.on k (own_ne1 ehXxT)
      replace hY := hY.on k (own_ne1 ehYxT)
      replace sb := sb.trans (k.below w.heap.size sb.size (by simp <;> omega))
      clear k
      refine pw_mv (by rfl) rfl rfl ?_
      simp only [Act.put, pu]
      refine pw_ext (by rfl) rfl rfl rfl ?_
      simp only [Act.put, pu]
      refine pw_ext (by rfl) rfl rfl rfl ?_
      simp only [Act.put, pu]
      refine pw_new (by rfl) 35 rfl _ zero_nat ?_
      intro g20 z16006 n0 r20 k
      simp only [Act.put, pu]
      have dTx20 := Nat.lt_of_lt_of_le rT.lt n0
      have d7x20 := Nat.lt_of_lt_of_le r7.lt n0
      have dPx20 := Nat.lt_of_lt_of_le rP.lt n0
      have dGx20 := Nat.lt_of_lt_of_le rG.lt n0
      have dRx20 := Nat.lt_of_lt_of_le rR.lt n0
      have dFx20 := Nat.lt_of_lt_of_le rF.lt n0
      have ehXx20 := hX.new n0
      have ehYx20 := hY.new n0
      have b20 := Nat.le_trans sb.size n0
      clear n0
      replace rT := k.row rT (by simp <;> omega)
      replace r7 := k.row r7 (by simp <;> omega)
      replace rP := k.row rP (by simp <;> omega)
      replace rG := k.row rG (by simp <;> omega)
      replace rR := k.row rR (by simp <;> omega)
      replace rF := k.row rF (by simp <;> omega)
      replace hX := hX.on k (own_ne0 _)
      replace hY := hY.on k (own_ne0 _)
      replace sb := sb.trans (k.below w.heap.size sb.size (by simp <;> omega))
      clear k
      refine pw_put (by rfl) 35 _ _ rfl _ rfl r20 (natC 0) rfl (by exact size_nat) (by simp only [natC_size]) (natC_one _) ?_
      clear r20
      intro z16007 r20 k
      simp only [Act.put]
      replace rT := k.row rT (by simp <;> omega)
      replace r7 := k.row r7 (by simp <;> omega)
      replace rP := k.row rP (by simp <;> omega)
      replace rG := k.row rG (by simp <;> omega)
      replace rR := k.row rR (by simp <;> omega)
      replace rF := k.row rF (by simp <;> omega)
      replace hX := hX.on k (own_ne1 ehXx20)
      replace hY := hY.on k (own_ne1 ehYx20)
      replace sb := sb.trans (k.below w.heap.size sb.size (by simp <;> omega))
      clear k
      refine pw_as (by rfl) rfl rfl ?_
      simp only [Act.put, pu]
      refine pw_nil ?_
      clear hdr
      have HS : Hid (s.drop (at' + U) = tl) := HT.out
      (repeat ((fail_if_success with_reducible refine rg ?_); go_step))
      refine wp_region_dwb (by kernel_rfl) [false, false, false, false, false, false, false, false, false, false, true, false, false, false, false, false, false, false] ?_ (by kernel_rfl)
      have orT := rT
      have or7 := r7
      have orP := rP
      have orG := rG
      have orR := rR
      have orF := rF
      have or20 := r20
      have cb := below_self sb
      refine dw_mv (by rfl) rfl rfl ?_
      simp only [Act.put, pu]
      refine dw_mv (by rfl) rfl rfl ?_
      simp only [Act.put, pu]
      refine dw_value (by rfl) (.int .i64 s.length) (y_lenS _ _ rfl s rfl Tryd.underlying9) ?_
      simp only [Act.put, pu]
      refine dw_mv (by rfl) rfl rfl ?_
      simp only [Act.put, pu]
      refine dw_mv (by rfl) rfl rfl ?_
      simp only [Act.put, pu]
      refine dw_value (by rfl) (.int .i64 ((at' + U : Nat) : Int)) (exec_add_in _ _ _ _ rfl at' U rfl rfl (by omega)) ?_
      simp only [Act.put, pu]
      refine dw_value (by rfl) (.int .i64 ((at' + U : Nat) : Int)) (y_min _ _ _ rfl s.length (at' + U) _ rfl rfl (by omega)) ?_
      simp only [Act.put, pu]
      refine dw_value (by rfl) (.string ⟨(tl).toArray⟩) (fun w' => (y_from _ _ _ Tryd.underlying9 rfl s (at' + U) rfl rfl (by omega) w').trans (by rw [HS.out])) ?_
      simp only [Act.put, pu]
      refine dw_loadm (by rfl) 37 _ rfl _ 0 rfl (fun _ hb => (or7.belowAll hb).r) _ (part_all _) _ Tryd.underlying37 rfl size_pa ?_
      simp only [Act.put, pu]
      refine dw_call (by rfl) 16 _ _ rfl Tryd.func16 (by kernel_rfl) #[.agg (paC (some ⟨gP, 0, none⟩) N1 N1 G3)] rfl _ (fun w' hb => hrq w' gP (orP.belowAll hb)) ?_
      simp only [Act.put, pu]
      refine dw_callE (by rfl) 15 _ _ rfl Tryd.func15 (by kernel_rfl) #[.string ⟨(tl).toArray⟩, .agg (natC QQ), .int .i64 (1 : Nat)] rfl ?_
      intro wa10 hqb
      replace rT := rT.belowAll hqb
      replace r7 := r7.belowAll hqb
      replace rP := rP.belowAll hqb
      replace rG := rG.belowAll hqb
      replace rR := rR.belowAll hqb
      replace rF := rF.belowAll hqb
      replace r20 := r20.belowAll hqb
      replace hX := hX.on (Kept.ofBelow hqb) (own_ne0 _)
      replace hY := hY.on (Kept.ofBelow hqb) (own_ne0 _)
      replace sb := below_on sb (Nat.le_refl _) hqb
      replace cb := below_on cb (Nat.le_refl _) hqb
      clear hqb
      refine (hrd1 _).mono ?_
      rintro _ wb10 ⟨vz, rfl, hZ, hb⟩
      refine ⟨_, rfl, below_on cb (Nat.le_refl _) hb, ?_⟩
      simp only [Act.put, pu]
      have ehZxT := hZ.low rT.lt
      have ehZx7 := hZ.low r7.lt
      have ehZxP := hZ.low rP.lt
      have ehZxG := hZ.low rG.lt
      have ehZxR := hZ.low rR.lt
      have ehZxF := hZ.low rF.lt
      have ehZx20 := hZ.low r20.lt
      replace rT := rT.belowAll hb
      replace r7 := r7.belowAll hb
      replace rP := rP.belowAll hb
      replace rG := rG.belowAll hb
      replace rR := rR.belowAll hb
      replace rF := rF.belowAll hb
      replace r20 := r20.belowAll hb
      replace hX := hX.on (Kept.ofBelow hb) (own_ne0 _)
      replace hY := hY.on (Kept.ofBelow hb) (own_ne0 _)
      replace sb := below_on sb (Nat.le_refl _) hb
      replace cb := below_on cb (Nat.le_refl _) hb
      clear hb
      refine dw_mv (by rfl) rfl rfl ?_
      simp only [Act.put, pu]
      refine dw_ext (by rfl) rfl rfl rfl ?_
      simp only [Act.put, pu]
      refine dw_ext (by rfl) rfl rfl rfl ?_
      simp only [Act.put, pu]
      refine dw_ext (by rfl) rfl rfl rfl ?_
      simp only [Act.put, pu]
      refine dw_as (by rfl) rfl rfl ?_
      simp only [Act.put, pu]
      refine dw_as (by rfl) rfl rfl ?_
      simp only [Act.put, pu]
      refine dw_as (by rfl) rfl rfl ?_
      simp only [Act.put, pu]
      refine dw_nil ?_
      intro wz hqb
      replace rT := rT.belowAll hqb
      replace r7 := r7.belowAll hqb
      replace rP := rP.belowAll hqb
      replace rG := rG.belowAll hqb
      replace rR := rR.belowAll hqb
      replace rF := rF.belowAll hqb
      replace r20 := r20.belowAll hqb
      replace hX := hX.on (Kept.ofBelow hqb) (own_ne0 _)
      replace hY := hY.on (Kept.ofBelow hqb) (own_ne0 _)
      replace hZ := hZ.on (Kept.ofBelow hqb) (own_ne0 _)
      replace sb := below_on sb (Nat.le_refl _) hqb
      clear hqb cb orT or7 orP orG orR orF or20
      clear hrd1 hZ
      (repeat ((fail_if_success with_reducible refine rg ?_); go_step))
      refine wp_region_qw (by kernel_rfl) (by kernel_rfl) ?_
      refine qw_move (by rfl) rfl rfl ?_
      simp only [Act.put, pu]
      refine qw_move (by rfl) rfl rfl ?_
      simp only [Act.put, pu]
      refine qw_move (by rfl) rfl rfl ?_
      simp only [Act.put, pu]
      refine qw_value (by rfl) (.bool false) ((exec_eql_k .i64 _ _ _ _ rfl 5 0 rfl rfl false rfl)) ?_
      simp only [Act.put, pu]
      refine qw_move (by rfl) rfl rfl ?_
      simp only [Act.put, pu]
      refine qw_value (by rfl) (.bool false) ((y_neB _ _ _ _ rfl false false rfl rfl Tryd.underlying4 false rfl)) ?_
      simp only [Act.put, pu]
      refine qw_move (by rfl) rfl rfl ?_
      simp only [Act.put, pu]
      refine qw_move (by rfl) rfl rfl ?_
      simp only [Act.put, pu]
      refine qw_move (by rfl) rfl rfl ?_
      simp only [Act.put, pu]
      refine qw_skip (by rfl) ?_
      simp only [Act.put, pu]
      refine qw_skip (by rfl) ?_
      simp only [Act.put, pu]
      refine qw_skip (by rfl) ?_
      simp only [Act.put, pu]
      refine qw_skip (by rfl) ?_
      simp only [Act.put, pu]
      refine qw_skip (by rfl) ?_
      simp only [Act.put, pu]
      refine qw_pick false (v := .bool false) (by rfl) rfl rfl rfl ?_
      simp only [Act.put, pu]
      refine qw_pick false (v := .bool false) (by rfl) rfl rfl rfl ?_
      simp only [Act.put, pu]
      refine qw_pick true (v := .bool false) (by rfl) rfl rfl rfl ?_
      simp only [Act.put, pu]
      refine qw_nil ?_
      intro w18 hqb
      replace rT := rT.belowAll hqb
      replace r7 := r7.belowAll hqb
      replace rP := rP.belowAll hqb
      replace rG := rG.belowAll hqb
      replace rR := rR.belowAll hqb
      replace rF := rF.belowAll hqb
      replace hX := hX.on (Kept.ofBelow hqb) (own_ne0 _)
      replace hY := hY.on (Kept.ofBelow hqb) (own_ne0 _)
      replace sb := below_on sb (Nat.le_refl _) hqb
      clear hqb
      clear r20
      (repeat ((fail_if_success with_reducible refine rg ?_); go_step))
      refine wp_region_pw ?_
      refine pw_mv (by rfl) rfl rfl ?_
      simp only [Act.put, pu]
      refine pw_mv (by rfl) rfl rfl ?_
      simp only [Act.put, pu]
      refine pw_mv (by rfl) rfl rfl ?_
      simp only [Act.put, pu]
      refine pw_pick (by rfl) true (v := .bool false) rfl rfl rfl ?_
      simp only [Act.put, pu]
      refine pw_nil ?_
      obtain ⟨ax, cx, rfl⟩ := own_shape hX
      obtain ⟨ay, cy, rfl⟩ := own_shape hY
      obtain ⟨_, gx, curx, hnx⟩ := ownN_nats hX (fun j _ => Nat.lt_trans (hwf j) HQ.out.2)
      obtain ⟨_, gy, cury, hny⟩ := ownN_nats hY (fun j _ => Nat.lt_trans (hwf j) HQ.out.2)
      clear hX hY
      (repeat ((fail_if_success with_reducible refine rg ?_); go_step))
      refine wp_region_pw ?_
      refine pw_mv (by rfl) rfl rfl ?_
      simp only [Act.put, pu]
      refine pw_value (by rfl) (.bool true) (exec_eql_k .i64 _ _ _ _ rfl 0 0 rfl rfl true rfl) ?_
      simp only [Act.put, pu]
      refine pw_mv (by rfl) rfl rfl ?_
      simp only [Act.put, pu]
      refine pw_value (by rfl) (.bool false) (y_neB _ _ _ _ rfl true true rfl rfl Tryd.underlying4 false rfl) ?_
      simp only [Act.put, pu]
      refine pw_mv (by rfl) rfl rfl ?_
      simp only [Act.put, pu]
      refine pw_mv (by rfl) rfl rfl ?_
      simp only [Act.put, pu]
      refine pw_value (by rfl) (.bool false) (exec_neq_k .i64 _ _ _ _ rfl 0 0 rfl rfl false rfl) ?_
      simp only [Act.put, pu]
      refine pw_mv (by rfl) rfl rfl ?_
      simp only [Act.put, pu]
      refine pw_skip (by rfl) ?_
      simp only [Act.put, pu]
      refine pw_skip (by rfl) ?_
      simp only [Act.put, pu]
      refine pw_pick (by rfl) false (v := .bool false) rfl rfl rfl ?_
      simp only [Act.put, pu]
      refine pw_pick (by rfl) false (v := .bool false) rfl rfl rfl ?_
      simp only [Act.put, pu]
      refine pw_mv (by rfl) rfl rfl ?_
      simp only [Act.put, pu]
      refine pw_mv (by rfl) rfl rfl ?_
      simp only [Act.put, pu]
      refine pw_mv (by rfl) rfl rfl ?_
      simp only [Act.put, pu]
      refine pw_callB (by rfl) 19 _ _ rfl Tryd.func19 (by kernel_rfl) #[.slice ax nn cx, .slice ay nn cy] rfl _ (rsame_yes nn cx cy ax ay (dwf QQ u) gx 0 gy 0 _ _ _ _ _ (by omega) hnx hny) ?_
      intro z22015 k
      simp only [Act.put, pu]
      replace rT := k.row rT (by simp <;> omega)
      replace r7 := k.row r7 (by simp <;> omega)
      replace rP := k.row rP (by simp <;> omega)
      replace rG := k.row rG (by simp <;> omega)
      replace rR := k.row rR (by simp <;> omega)
      replace rF := k.row rF (by simp <;> omega)
      replace sb := sb.trans (k.below w.heap.size sb.size (by simp <;> omega))
      clear k
      refine pw_value (by rfl) (.bool false) (exec_not _ _ rfl true rfl) ?_
      simp only [Act.put, pu]
      refine pw_pick (by rfl) false (v := .bool false) rfl rfl rfl ?_
      simp only [Act.put, pu]
      refine pw_nil ?_
      clear hnx hny
      (repeat ((fail_if_success with_reducible refine rg ?_); go_step))
      refine wp_region_pw ?_
      refine pw_mv (by rfl) rfl rfl ?_
      simp only [Act.put, pu]
      refine pw_mv (by rfl) rfl rfl ?_
      simp only [Act.put, pu]
      refine pw_value (by rfl) (.int .i64 ((at' + U : Nat) : Int)) (exec_add_in _ _ _ _ rfl at' U rfl rfl (by omega)) ?_
      simp only [Act.put, pu]
      refine pw_as (by rfl) rfl rfl ?_
      simp only [Act.put, pu]
      refine pw_nil ?_
      (repeat ((fail_if_success with_reducible refine rg ?_); go_step))
      refine wp_region_pw ?_
      refine pw_mv (by rfl) rfl rfl ?_
      simp only [Act.put, pu]
      refine pw_callB (by rfl) 10 _ _ rfl Tryd.func10 (by kernel_rfl) #[.pointer (some ⟨gT, 0, none⟩)] rfl _ (tleft_ok gT tl _ rT) ?_
      intro z25001 k
      simp only [Act.put, pu]
      replace rT := k.row rT (by simp <;> omega)
      replace r7 := k.row r7 (by simp <;> omega)
      replace rP := k.row rP (by simp <;> omega)
      replace rG := k.row rG (by simp <;> omega)
      replace rR := k.row rR (by simp <;> omega)
      replace rF := k.row rF (by simp <;> omega)
      replace sb := sb.trans (k.below w.heap.size sb.size (by simp <;> omega))
      clear k
      refine pw_mv (by rfl) rfl rfl ?_
      simp only [Act.put, pu]
      refine pw_value (by rfl) (.int .i64 s.length) (y_lenS _ _ rfl s rfl Tryd.underlying9) ?_
      simp only [Act.put, pu]
      refine pw_mv (by rfl) rfl rfl ?_
      simp only [Act.put, pu]
      refine pw_value (by rfl) (.int .i64 ((s.length - (at' + U) : Nat) : Int)) (exec_sub_in _ _ _ _ rfl s.length (at' + U) rfl rfl (by omega) (by omega)) ?_
      simp only [Act.put, pu]
      refine pw_value (by rfl) (.bool false) (exec_neq_k .i64 _ _ _ _ rfl ((tl).length : Nat) (s.length - (at' + U) : Nat) rfl rfl false (by rw [hTl, decide_eq_true rfl]; rfl)) ?_
      simp only [Act.put, pu]
      refine pw_nil ?_
      (repeat ((fail_if_success with_reducible refine rg ?_); go_step))
      refine wp_region_pw ?_
      refine pw_mv (by rfl) rfl rfl ?_
      simp only [Act.put, pu]
      refine pw_value (by rfl) (.int .i64 ((i + 1 : Nat) : Int)) (exec_add_in _ _ _ _ rfl i 1 rfl rfl (by omega)) ?_
      simp only [Act.put, pu]
      refine pw_as (by rfl) rfl rfl ?_
      simp only [Act.put, pu]
      refine pw_nil ?_
      go_wp2
      go_roundg gg
      case measure => omega
      case rel => exact ⟨i + 1, at' + U, by omega, rfl, rfl, by omega, by rw [HT.out]; exact rT, r7, rP, ⟨rG, rR, rF⟩, sb⟩
     | some y =>
      obtain ⟨X, tl2⟩ := y
      obtain ⟨_, hle2, htl2⟩ := drw_is hdn
      obtain ⟨f1, f2, _, f4, _⟩ := dr_some hdn
      rw [f1, f2, f4] at hdr
      have hd1 : dst QQ tl 1 = some tl2 := by rw [dst_one, hdn]; rfl
      obtain ⟨f5, f6, f7, f8, f9⟩ := dw_some hd1
      rw [f5, f7, f9] at hrd1
      have HF : Hid (dwf QQ tl 0 = X) := (dwf_zero QQ tl).trans f1
      have hXl : X < 2 ^ 256 := by rw [← f1]; exact Nat.lt_trans (drN_lt tl HQ.out.1) HQ.out.2
      have hT2 : s.drop (at' + (U + (tl.length - tl2.length))) = tl2 := by
       rw [← Nat.add_assoc, ← List.drop_drop, HT.out]
       exact htl2.symm
      clear f1 f2 f4 f5 f6 f7 f8 f9 hdn hd1 htl2
      (repeat ((fail_if_success with_reducible refine rg ?_); go_step))
      refine wp_region_pw ?_
      refine pw_mv (by rfl) rfl rfl ?_
      simp only [Act.put, pu]
      refine pw_mv (by rfl) rfl rfl ?_
      simp only [Act.put, pu]
      refine pw_callE (by rfl) 18 _ _ rfl Tryd.func18 (by kernel_rfl) #[.pointer (some ⟨gT, 0, none⟩), .pointer (some ⟨g, 0, none⟩)] rfl (hdr _ gT ⟨rG, rR, rF⟩ rT) ?_
      have crT := rT.lt
      clear rT
      rintro _ z16002 ⟨rfl, rT, k⟩
      refine ⟨_, rfl, ?_⟩
      simp only [Act.put, pu]
      clear crT
      replace r7 := k.row r7 (by simp <;> omega)
      replace rP := k.row rP (by simp <;> omega)
      replace rG := k.row rG (by simp <;> omega)
      replace rR := k.row rR (by simp <;> omega)
      replace rF := k.row rF (by simp <;> omega)
      replace hX := hX.on k (own_ne1 ehXxT)
      replace hY := hY.on k (own_ne1 ehYxT)
      replace sb := sb.trans (k.below w.heap.size sb.size (by simp <;> omega))
      clear k
      refine pw_mv (by rfl) rfl rfl ?_
      simp only [Act.put, pu]
      refine pw_ext (by rfl) rfl rfl rfl ?_
      simp only [Act.put, pu]
      refine pw_ext (by rfl) rfl rfl rfl ?_
      simp only [Act.put, pu]
      refine pw_new (by rfl) 35 rfl _ zero_nat ?_
      intro g20 z16006 n0 r20 k
      simp only [Act.put, pu]
      have dTx20 := Nat.lt_of_lt_of_le rT.lt n0
      have d7x20 := Nat.lt_of_lt_of_le r7.lt n0
      have dPx20 := Nat.lt_of_lt_of_le rP.lt n0
      have dGx20 := Nat.lt_of_lt_of_le rG.lt n0
      have dRx20 := Nat.lt_of_lt_of_le rR.lt n0
      have dFx20 := Nat.lt_of_lt_of_le rF.lt n0
      have ehXx20 := hX.new n0
      have ehYx20 := hY.new n0
      have b20 := Nat.le_trans sb.size n0
      clear n0
      replace rT := k.row rT (by simp <;> omega)
      replace r7 := k.row r7 (by simp <;> omega)
      replace rP := k.row rP (by simp <;> omega)
      replace rG := k.row rG (by simp <;> omega)
      replace rR := k.row rR (by simp <;> omega)
      replace rF := k.row rF (by simp <;> omega)
      replace hX := hX.on k (own_ne0 _)
      replace hY := hY.on k (own_ne0 _)
      replace sb := sb.trans (k.below w.heap.size sb.size (by simp <;> omega))
      clear k
      refine pw_put (by rfl) 35 _ _ rfl _ rfl r20 (natC X) rfl (by exact size_nat) (by simp only [natC_size]) (natC_one _) ?_
      clear r20
      intro z16007 r20 k
      simp only [Act.put]
      replace rT := k.row rT (by simp <;> omega)
      replace r7 := k.row r7 (by simp <;> omega)
      replace rP := k.row rP (by simp <;> omega)
      replace rG := k.row rG (by simp <;> omega)
      replace rR := k.row rR (by simp <;> omega)
      replace rF := k.row rF (by simp <;> omega)
      replace hX := hX.on k (own_ne1 ehXx20)
      replace hY := hY.on k (own_ne1 ehYx20)
      replace sb := sb.trans (k.below w.heap.size sb.size (by simp <;> omega))
      clear k
      refine pw_as (by rfl) rfl rfl ?_
      simp only [Act.put, pu]
      refine pw_nil ?_
      clear hdr
      have HS : Hid (s.drop (at' + U) = tl) := HT.out
      (repeat ((fail_if_success with_reducible refine rg ?_); go_step))
      refine wp_region_dwb (by kernel_rfl) [false, false, false, false, false, false, false, false, false, false, true, false, false, false, false, false, false, false] ?_ (by kernel_rfl)
      have orT := rT
      have or7 := r7
      have orP := rP
      have orG := rG
      have orR := rR
      have orF := rF
      have or20 := r20
      have cb := below_self sb
      refine dw_mv (by rfl) rfl rfl ?_
      simp only [Act.put, pu]
      refine dw_mv (by rfl) rfl rfl ?_
      simp only [Act.put, pu]
      refine dw_value (by rfl) (.int .i64 s.length) (y_lenS _ _ rfl s rfl Tryd.underlying9) ?_
      simp only [Act.put, pu]
      refine dw_mv (by rfl) rfl rfl ?_
      simp only [Act.put, pu]
      refine dw_mv (by rfl) rfl rfl ?_
      simp only [Act.put, pu]
      refine dw_value (by rfl) (.int .i64 ((at' + U : Nat) : Int)) (exec_add_in _ _ _ _ rfl at' U rfl rfl (by omega)) ?_
      simp only [Act.put, pu]
      refine dw_value (by rfl) (.int .i64 ((at' + U : Nat) : Int)) (y_min _ _ _ rfl s.length (at' + U) _ rfl rfl (by omega)) ?_
      simp only [Act.put, pu]
      refine dw_value (by rfl) (.string ⟨(tl).toArray⟩) (fun w' => (y_from _ _ _ Tryd.underlying9 rfl s (at' + U) rfl rfl (by omega) w').trans (by rw [HS.out])) ?_
      simp only [Act.put, pu]
      refine dw_loadm (by rfl) 37 _ rfl _ 0 rfl (fun _ hb => (or7.belowAll hb).r) _ (part_all _) _ Tryd.underlying37 rfl size_pa ?_
      simp only [Act.put, pu]
      refine dw_call (by rfl) 16 _ _ rfl Tryd.func16 (by kernel_rfl) #[.agg (paC (some ⟨gP, 0, none⟩) N1 N1 G3)] rfl _ (fun w' hb => hrq w' gP (orP.belowAll hb)) ?_
      simp only [Act.put, pu]
      refine dw_callE (by rfl) 15 _ _ rfl Tryd.func15 (by kernel_rfl) #[.string ⟨(tl).toArray⟩, .agg (natC QQ), .int .i64 (1 : Nat)] rfl ?_
      intro wa10 hqb
      replace rT := rT.belowAll hqb
      replace r7 := r7.belowAll hqb
      replace rP := rP.belowAll hqb
      replace rG := rG.belowAll hqb
      replace rR := rR.belowAll hqb
      replace rF := rF.belowAll hqb
      replace r20 := r20.belowAll hqb
      replace hX := hX.on (Kept.ofBelow hqb) (own_ne0 _)
      replace hY := hY.on (Kept.ofBelow hqb) (own_ne0 _)
      replace sb := below_on sb (Nat.le_refl _) hqb
      replace cb := below_on cb (Nat.le_refl _) hqb
      clear hqb
      refine (hrd1 _).mono ?_
      rintro _ wb10 ⟨vz, rfl, hZ, hb⟩
      refine ⟨_, rfl, below_on cb (Nat.le_refl _) hb, ?_⟩
      simp only [Act.put, pu]
      have ehZxT := hZ.low rT.lt
      have ehZx7 := hZ.low r7.lt
      have ehZxP := hZ.low rP.lt
      have ehZxG := hZ.low rG.lt
      have ehZxR := hZ.low rR.lt
      have ehZxF := hZ.low rF.lt
      have ehZx20 := hZ.low r20.lt
      replace rT := rT.belowAll hb
      replace r7 := r7.belowAll hb
      replace rP := rP.belowAll hb
      replace rG := rG.belowAll hb
      replace rR := rR.belowAll hb
      replace rF := rF.belowAll hb
      replace r20 := r20.belowAll hb
      replace hX := hX.on (Kept.ofBelow hb) (own_ne0 _)
      replace hY := hY.on (Kept.ofBelow hb) (own_ne0 _)
      replace sb := below_on sb (Nat.le_refl _) hb
      replace cb := below_on cb (Nat.le_refl _) hb
      clear hb
      refine dw_mv (by rfl) rfl rfl ?_
      simp only [Act.put, pu]
      refine dw_ext (by rfl) rfl rfl rfl ?_
      simp only [Act.put, pu]
      refine dw_ext (by rfl) rfl rfl rfl ?_
      simp only [Act.put, pu]
      refine dw_ext (by rfl) rfl rfl rfl ?_
      simp only [Act.put, pu]
      refine dw_as (by rfl) rfl rfl ?_
      simp only [Act.put, pu]
      refine dw_as (by rfl) rfl rfl ?_
      simp only [Act.put, pu]
      refine dw_as (by rfl) rfl rfl ?_
      simp only [Act.put, pu]
      refine dw_nil ?_
      intro wz hqb
      replace rT := rT.belowAll hqb
      replace r7 := r7.belowAll hqb
      replace rP := rP.belowAll hqb
      replace rG := rG.belowAll hqb
      replace rR := rR.belowAll hqb
      replace rF := rF.belowAll hqb
      replace r20 := r20.belowAll hqb
      replace hX := hX.on (Kept.ofBelow hqb) (own_ne0 _)
      replace hY := hY.on (Kept.ofBelow hqb) (own_ne0 _)
      replace hZ := hZ.on (Kept.ofBelow hqb) (own_ne0 _)
      replace sb := below_on sb (Nat.le_refl _) hqb
      clear hqb cb orT or7 orP orG orR orF or20
      clear hrd1
      obtain ⟨az, cz, rfl⟩ := own_shape hZ
      obtain ⟨_, gz, curz, hnz⟩ := ownN_nats hZ (fun j hj => by obtain rfl : j = 0 := Nat.lt_one_iff.1 hj; rw [HF.out]; exact hXl)
      obtain h0 | ⟨rfl, rZ, hzz⟩ := hnz.at'
      ·exact absurd h0 (by decide)
      have hzt := hzz 0 (by decide)
      rw [HF.out] at hzt
      clear hzz hZ
      (repeat ((fail_if_success with_reducible refine rg ?_); go_step))
      refine wp_region_qw (by kernel_rfl) (by kernel_rfl) ?_
      refine qw_move (by rfl) rfl rfl ?_
      simp only [Act.put, pu]
      refine qw_move (by rfl) rfl rfl ?_
      simp only [Act.put, pu]
      refine qw_move (by rfl) rfl rfl ?_
      simp only [Act.put, pu]
      refine qw_value (by rfl) (.bool true) ((exec_eql_k .i64 _ _ _ _ rfl 0 0 rfl rfl true rfl)) ?_
      simp only [Act.put, pu]
      refine qw_move (by rfl) rfl rfl ?_
      simp only [Act.put, pu]
      refine qw_value (by rfl) (.bool false) ((y_neB _ _ _ _ rfl true true rfl rfl Tryd.underlying4 false rfl)) ?_
      simp only [Act.put, pu]
      refine qw_move (by rfl) rfl rfl ?_
      simp only [Act.put, pu]
      refine qw_move (by rfl) rfl rfl ?_
      simp only [Act.put, pu]
      refine qw_move (by rfl) rfl rfl ?_
      simp only [Act.put, pu]
      refine qw_load (by rfl) 35 _ rfl _ rfl r20 4 _ Tryd.underlying35 size_nat ?_
      simp only [Act.put, pu]
      refine qw_move (by rfl) rfl rfl ?_
      simp only [Act.put, pu]
      refine qw_value (by rfl) (.pointer (some ⟨gz, 0 + 0 * 4, none⟩)) ((exec_index_s 43 _ _ rfl gz 0 1 cz rfl 0 rfl (by decide) _ Tryd.underlying43 4 size_nat4)) ?_
      simp only [Act.put, pu]
      refine qw_loadmR (by rfl) 35 _ rfl _ (0 + 0 * 4) rfl rZ (natC X) hzt _ Tryd.underlying35 rfl size_nat ?_
      simp only [Act.put, pu]
      refine qw_value (by rfl) (.bool false) ((fun w' => (exec_neq_nat _ _ _ rfl X X rfl rfl w').trans (by rw [neq_no10]))) ?_
      simp only [Act.put, pu]
      refine qw_pick true (v := .bool false) (by rfl) rfl rfl rfl ?_
      simp only [Act.put, pu]
      refine qw_pick false (v := .bool false) (by rfl) rfl rfl rfl ?_
      simp only [Act.put, pu]
      refine qw_pick true (v := .bool false) (by rfl) rfl rfl rfl ?_
      simp only [Act.put, pu]
      refine qw_nil ?_
      intro w18 hqb
      replace rT := rT.belowAll hqb
      replace r7 := r7.belowAll hqb
      replace rP := rP.belowAll hqb
      replace rG := rG.belowAll hqb
      replace rR := rR.belowAll hqb
      replace rF := rF.belowAll hqb
      replace hX := hX.on (Kept.ofBelow hqb) (own_ne0 _)
      replace hY := hY.on (Kept.ofBelow hqb) (own_ne0 _)
      replace sb := below_on sb (Nat.le_refl _) hqb
      clear hqb
      clear r20 rZ hzt
      (repeat ((fail_if_success with_reducible refine rg ?_); go_step))
      refine wp_region_pw ?_
      refine pw_mv (by rfl) rfl rfl ?_
      simp only [Act.put, pu]
      refine pw_mv (by rfl) rfl rfl ?_
      simp only [Act.put, pu]
      refine pw_mv (by rfl) rfl rfl ?_
      simp only [Act.put, pu]
      refine pw_pick (by rfl) true (v := .bool true) rfl rfl rfl ?_
      simp only [Act.put, pu]
      refine pw_nil ?_
      (repeat ((fail_if_success with_reducible refine rg ?_); go_step))
      refine wp_region_pw ?_
      refine pw_mv (by rfl) rfl rfl ?_
      simp only [Act.put, pu]
      refine pw_mv (by rfl) rfl rfl ?_
      simp only [Act.put, pu]
      refine pw_value (by rfl) (.int .i64 ((U + (tl.length - tl2.length) : Nat) : Int)) (exec_add_in _ _ _ _ rfl U (tl.length - tl2.length) rfl rfl (by omega)) ?_
      simp only [Act.put, pu]
      refine pw_as (by rfl) rfl rfl ?_
      simp only [Act.put, pu]
      refine pw_nil ?_
      have HT2 : Hid (s.drop (at' + (U + (tl.length - tl2.length))) = tl2) := hT2
      have hTl2 : tl2.length = s.length - (at' + (U + (tl.length - tl2.length))) := by rw [← List.length_drop, hT2]
      clear hT2 HT hTl
      rename Hid (s.drop (at' + (U + (tl.length - tl2.length))) = tl2) => HT
      rename tl2.length = s.length - (at' + (U + (tl.length - tl2.length))) => hTl
      generalize hU2 : U + (tl.length - tl2.length) = U2 at *
      have hUs2 : at' + U2 ≤ s.length := by omega
      obtain ⟨ax, cx, rfl⟩ := own_shape hX
      obtain ⟨ay, cy, rfl⟩ := own_shape hY
      obtain ⟨_, gx, curx, hnx⟩ := ownN_nats hX (fun j _ => Nat.lt_trans (hwf j) HQ.out.2)
      obtain ⟨_, gy, cury, hny⟩ := ownN_nats hY (fun j _ => Nat.lt_trans (hwf j) HQ.out.2)
      clear hX hY
      (repeat ((fail_if_success with_reducible refine rg ?_); go_step))
      refine wp_region_pw ?_
      refine pw_mv (by rfl) rfl rfl ?_
      simp only [Act.put, pu]
      refine pw_value (by rfl) (.bool true) (exec_eql_k .i64 _ _ _ _ rfl 0 0 rfl rfl true rfl) ?_
      simp only [Act.put, pu]
      refine pw_mv (by rfl) rfl rfl ?_
      simp only [Act.put, pu]
      refine pw_value (by rfl) (.bool false) (y_neB _ _ _ _ rfl true true rfl rfl Tryd.underlying4 false rfl) ?_
      simp only [Act.put, pu]
      refine pw_mv (by rfl) rfl rfl ?_
      simp only [Act.put, pu]
      refine pw_mv (by rfl) rfl rfl ?_
      simp only [Act.put, pu]
      refine pw_value (by rfl) (.bool false) (exec_neq_k .i64 _ _ _ _ rfl 0 0 rfl rfl false rfl) ?_
      simp only [Act.put, pu]
      refine pw_mv (by rfl) rfl rfl ?_
      simp only [Act.put, pu]
      refine pw_skip (by rfl) ?_
      simp only [Act.put, pu]
      refine pw_skip (by rfl) ?_
      simp only [Act.put, pu]
      refine pw_pick (by rfl) false (v := .bool false) rfl rfl rfl ?_
      simp only [Act.put, pu]
      refine pw_pick (by rfl) false (v := .bool false) rfl rfl rfl ?_
      simp only [Act.put, pu]
      refine pw_mv (by rfl) rfl rfl ?_
      simp only [Act.put, pu]
      refine pw_mv (by rfl) rfl rfl ?_
      simp only [Act.put, pu]
      refine pw_mv (by rfl) rfl rfl ?_
      simp only [Act.put, pu]
      refine pw_callB (by rfl) 19 _ _ rfl Tryd.func19 (by kernel_rfl) #[.slice ax nn cx, .slice ay nn cy] rfl _ (rsame_yes nn cx cy ax ay (dwf QQ u) gx 0 gy 0 _ _ _ _ _ (by omega) hnx hny) ?_
      intro z22015 k
      simp only [Act.put, pu]
      replace rT := k.row rT (by simp <;> omega)
      replace r7 := k.row r7 (by simp <;> omega)
      replace rP := k.row rP (by simp <;> omega)
      replace rG := k.row rG (by simp <;> omega)
      replace rR := k.row rR (by simp <;> omega)
      replace rF := k.row rF (by simp <;> omega)
      replace sb := sb.trans (k.below w.heap.size sb.size (by simp <;> omega))
      clear k
      refine pw_value (by rfl) (.bool false) (exec_not _ _ rfl true rfl) ?_
      simp only [Act.put, pu]
      refine pw_pick (by rfl) false (v := .bool false) rfl rfl rfl ?_
      simp only [Act.put, pu]
      refine pw_nil ?_
      clear hnx hny
      (repeat ((fail_if_success with_reducible refine rg ?_); go_step))
      refine wp_region_pw ?_
      refine pw_mv (by rfl) rfl rfl ?_
      simp only [Act.put, pu]
      refine pw_mv (by rfl) rfl rfl ?_
      simp only [Act.put, pu]
      refine pw_value (by rfl) (.int .i64 ((at' + U2 : Nat) : Int)) (exec_add_in _ _ _ _ rfl at' U2 rfl rfl (by omega)) ?_
      simp only [Act.put, pu]
      refine pw_as (by rfl) rfl rfl ?_
      simp only [Act.put, pu]
      refine pw_nil ?_
      (repeat ((fail_if_success with_reducible refine rg ?_); go_step))
      refine wp_region_pw ?_
      refine pw_mv (by rfl) rfl rfl ?_
      simp only [Act.put, pu]
      refine pw_callB (by rfl) 10 _ _ rfl Tryd.func10 (by kernel_rfl) #[.pointer (some ⟨gT, 0, none⟩)] rfl _ (tleft_ok gT tl2 _ rT) ?_
      intro z25001 k
      simp only [Act.put, pu]
      replace rT := k.row rT (by simp <;> omega)
      replace r7 := k.row r7 (by simp <;> omega)
      replace rP := k.row rP (by simp <;> omega)
      replace rG := k.row rG (by simp <;> omega)
      replace rR := k.row rR (by simp <;> omega)
      replace rF := k.row rF (by simp <;> omega)
      replace sb := sb.trans (k.below w.heap.size sb.size (by simp <;> omega))
      clear k
      refine pw_mv (by rfl) rfl rfl ?_
      simp only [Act.put, pu]
      refine pw_value (by rfl) (.int .i64 s.length) (y_lenS _ _ rfl s rfl Tryd.underlying9) ?_
      simp only [Act.put, pu]
      refine pw_mv (by rfl) rfl rfl ?_
      simp only [Act.put, pu]
      refine pw_value (by rfl) (.int .i64 ((s.length - (at' + U2) : Nat) : Int)) (exec_sub_in _ _ _ _ rfl s.length (at' + U2) rfl rfl (by omega) (by omega)) ?_
      simp only [Act.put, pu]
      refine pw_value (by rfl) (.bool false) (exec_neq_k .i64 _ _ _ _ rfl ((tl2).length : Nat) (s.length - (at' + U2) : Nat) rfl rfl false (by rw [hTl, decide_eq_true rfl]; rfl)) ?_
      simp only [Act.put, pu]
      refine pw_nil ?_
      (repeat ((fail_if_success with_reducible refine rg ?_); go_step))
      refine wp_region_pw ?_
      refine pw_mv (by rfl) rfl rfl ?_
      simp only [Act.put, pu]
      refine pw_value (by rfl) (.int .i64 ((i + 1 : Nat) : Int)) (exec_add_in _ _ _ _ rfl i 1 rfl rfl (by omega)) ?_
      simp only [Act.put, pu]
      refine pw_as (by rfl) rfl rfl ?_
      simp only [Act.put, pu]
      refine pw_nil ?_
      go_wp2
      go_roundg gg
      case measure => omega
      case rel => exact ⟨i + 1, at' + U2, by omega, rfl, rfl, by omega, by rw [HT.out]; exact rT, r7, rP, ⟨rG, rR, rF⟩, sb⟩
    ·by_cases h1 : nn = 1
     case' pos =>
      have hi2 : ¬ i % 2 = 1 := fun h => hodd ⟨h1, h⟩
      (repeat ((fail_if_success with_reducible refine rg ?_); go_step))
      refine wp_region_pw ?_
      refine pw_mv (by rfl) rfl rfl ?_
      simp only [Act.put, pu]
      refine pw_value (by rfl) (.bool true) (exec_eql_k .i64 _ _ _ _ rfl (nn : Nat) 1 rfl rfl true (decide_eq_true (by omega))) ?_
      simp only [Act.put, pu]
      refine pw_mv (by rfl) rfl rfl ?_
      simp only [Act.put, pu]
      refine pw_mv (by rfl) rfl rfl ?_
      simp only [Act.put, pu]
      refine pw_value (by rfl) (.int .i64 ((i % 2 : Nat) : Int)) (fun w' => (exec_bits_i .and _ _ _ _ (.inl rfl) rfl (i : Int) 1 rfl rfl w').trans (by rw [and_1n])) ?_
      simp only [Act.put, pu]
      refine pw_value (by rfl) (.bool false) (exec_eql_k .i64 _ _ _ _ rfl ((i % 2 : Nat) : Int) 1 rfl rfl false (decide_eq_false (by omega))) ?_
      simp only [Act.put, pu]
      refine pw_pick (by rfl) true (v := .bool false) rfl rfl rfl ?_
      simp only [Act.put, pu]
      refine pw_nil ?_
     case' neg =>
      (repeat ((fail_if_success with_reducible refine rg ?_); go_step))
      refine wp_region_pw ?_
      refine pw_mv (by rfl) rfl rfl ?_
      simp only [Act.put, pu]
      refine pw_value (by rfl) (.bool false) (exec_eql_k .i64 _ _ _ _ rfl (nn : Nat) 1 rfl rfl false (decide_eq_false (by omega))) ?_
      simp only [Act.put, pu]
      refine pw_mv (by rfl) rfl rfl ?_
      simp only [Act.put, pu]
      refine pw_skip (by rfl) ?_
      simp only [Act.put, pu]
      refine pw_skip (by rfl) ?_
      simp only [Act.put, pu]
      refine pw_skip (by rfl) ?_
      simp only [Act.put, pu]
      refine pw_pick (by rfl) false (v := .bool false) rfl rfl rfl ?_
      simp only [Act.put, pu]
      refine pw_nil ?_
     all_goals
      obtain ⟨ax, cx, rfl⟩ := own_shape hX
      obtain ⟨ay, cy, rfl⟩ := own_shape hY
      obtain ⟨_, gx, curx, hnx⟩ := ownN_nats hX (fun j _ => Nat.lt_trans (hwf j) HQ.out.2)
      obtain ⟨_, gy, cury, hny⟩ := ownN_nats hY (fun j _ => Nat.lt_trans (hwf j) HQ.out.2)
      clear hX hY
      (repeat ((fail_if_success with_reducible refine rg ?_); go_step))
      refine wp_region_pw ?_
      refine pw_mv (by rfl) rfl rfl ?_
      simp only [Act.put, pu]
      refine pw_value (by rfl) (.bool true) (exec_eql_k .i64 _ _ _ _ rfl 0 0 rfl rfl true rfl) ?_
      simp only [Act.put, pu]
      refine pw_mv (by rfl) rfl rfl ?_
      simp only [Act.put, pu]
      refine pw_value (by rfl) (.bool false) (y_neB _ _ _ _ rfl true true rfl rfl Tryd.underlying4 false rfl) ?_
      simp only [Act.put, pu]
      refine pw_mv (by rfl) rfl rfl ?_
      simp only [Act.put, pu]
      refine pw_mv (by rfl) rfl rfl ?_
      simp only [Act.put, pu]
      refine pw_value (by rfl) (.bool false) (exec_neq_k .i64 _ _ _ _ rfl 0 0 rfl rfl false rfl) ?_
      simp only [Act.put, pu]
      refine pw_mv (by rfl) rfl rfl ?_
      simp only [Act.put, pu]
      refine pw_skip (by rfl) ?_
      simp only [Act.put, pu]
      refine pw_skip (by rfl) ?_
      simp only [Act.put, pu]
      refine pw_pick (by rfl) false (v := .bool false) rfl rfl rfl ?_
      simp only [Act.put, pu]
      refine pw_pick (by rfl) false (v := .bool false) rfl rfl rfl ?_
      simp only [Act.put, pu]
      refine pw_mv (by rfl) rfl rfl ?_
      simp only [Act.put, pu]
      refine pw_mv (by rfl) rfl rfl ?_
      simp only [Act.put, pu]
      refine pw_mv (by rfl) rfl rfl ?_
      simp only [Act.put, pu]
      refine pw_callB (by rfl) 19 _ _ rfl Tryd.func19 (by kernel_rfl) #[.slice ax nn cx, .slice ay nn cy] rfl _ (rsame_yes nn cx cy ax ay (dwf QQ u) gx 0 gy 0 _ _ _ _ _ (by omega) hnx hny) ?_
      intro z22015 k
      simp only [Act.put, pu]
      replace rT := k.row rT (by simp <;> omega)
      replace r7 := k.row r7 (by simp <;> omega)
      replace rP := k.row rP (by simp <;> omega)
      replace rG := k.row rG (by simp <;> omega)
      replace rR := k.row rR (by simp <;> omega)
      replace rF := k.row rF (by simp <;> omega)
      replace sb := sb.trans (k.below w.heap.size sb.size (by simp <;> omega))
      clear k
      refine pw_value (by rfl) (.bool false) (exec_not _ _ rfl true rfl) ?_
      simp only [Act.put, pu]
      refine pw_pick (by rfl) false (v := .bool false) rfl rfl rfl ?_
      simp only [Act.put, pu]
      refine pw_nil ?_
      clear hnx hny
      (repeat ((fail_if_success with_reducible refine rg ?_); go_step))
      refine wp_region_pw ?_
      refine pw_mv (by rfl) rfl rfl ?_
      simp only [Act.put, pu]
      refine pw_mv (by rfl) rfl rfl ?_
      simp only [Act.put, pu]
      refine pw_value (by rfl) (.int .i64 ((at' + U : Nat) : Int)) (exec_add_in _ _ _ _ rfl at' U rfl rfl (by omega)) ?_
      simp only [Act.put, pu]
      refine pw_as (by rfl) rfl rfl ?_
      simp only [Act.put, pu]
      refine pw_nil ?_
      (repeat ((fail_if_success with_reducible refine rg ?_); go_step))
      refine wp_region_pw ?_
      refine pw_mv (by rfl) rfl rfl ?_
      simp only [Act.put, pu]
      refine pw_callB (by rfl) 10 _ _ rfl Tryd.func10 (by kernel_rfl) #[.pointer (some ⟨gT, 0, none⟩)] rfl _ (tleft_ok gT tl _ rT) ?_
      intro z25001 k
      simp only [Act.put, pu]
      replace rT := k.row rT (by simp <;> omega)
      replace r7 := k.row r7 (by simp <;> omega)
      replace rP := k.row rP (by simp <;> omega)
      replace rG := k.row rG (by simp <;> omega)
      replace rR := k.row rR (by simp <;> omega)
      replace rF := k.row rF (by simp <;> omega)
      replace sb := sb.trans (k.below w.heap.size sb.size (by simp <;> omega))
      clear k
      refine pw_mv (by rfl) rfl rfl ?_
      simp only [Act.put, pu]
      refine pw_value (by rfl) (.int .i64 s.length) (y_lenS _ _ rfl s rfl Tryd.underlying9) ?_
      simp only [Act.put, pu]
      refine pw_mv (by rfl) rfl rfl ?_
      simp only [Act.put, pu]
      refine pw_value (by rfl) (.int .i64 ((s.length - (at' + U) : Nat) : Int)) (exec_sub_in _ _ _ _ rfl s.length (at' + U) rfl rfl (by omega) (by omega)) ?_
      simp only [Act.put, pu]
      refine pw_value (by rfl) (.bool false) (exec_neq_k .i64 _ _ _ _ rfl ((tl).length : Nat) (s.length - (at' + U) : Nat) rfl rfl false (by rw [hTl, decide_eq_true rfl]; rfl)) ?_
      simp only [Act.put, pu]
      refine pw_nil ?_
      (repeat ((fail_if_success with_reducible refine rg ?_); go_step))
      refine wp_region_pw ?_
      refine pw_mv (by rfl) rfl rfl ?_
      simp only [Act.put, pu]
      refine pw_value (by rfl) (.int .i64 ((i + 1 : Nat) : Int)) (exec_add_in _ _ _ _ rfl i 1 rfl rfl (by omega)) ?_
      simp only [Act.put, pu]
      refine pw_as (by rfl) rfl rfl ?_
      simp only [Act.put, pu]
      refine pw_nil ?_
      go_wp2
      go_roundg gg
      case measure => omega
      case rel => exact ⟨i + 1, at' + U, by omega, rfl, rfl, by omega, by rw [HT.out]; exact rT, r7, rP, ⟨rG, rR, rF⟩, sb⟩
theorem walk (a0 : Int) (s : List UInt8) (m ca : Nat) (ab : Option Addr) (e : Nat → Int) (gb ob : Nat) (bcs : Array Value) (tb : TypeId) (w : World) (hI : IntsAt w ab m e gb ob bcs tb) :
  Calls Tryd.prog 4 #[.int .i64 a0, .string ⟨(s).toArray⟩, .slice ab m ca] w fun e w' => e = .returned (.bool true) ∧ Below w.heap.size w w' := by
 by_cases h : 512 < s.length ∨ 10 < m
 ·exact core0 a0 s m ca ab w h
 have hs : ¬ 512 < s.length := fun h1 => h (.inl h1)
 have hm : ¬ 10 < m := fun h1 => h (.inr h1)
 obtain ⟨his, hlt, hG, h2, h63, hL⟩ := pk_gr (ly8 a0 % 3)
 have hq9 := ((grN_iff _ _ _ _).1 his).2.2.1
 have hQ := hlt (pk (ly8 a0 % 3) 3 3 5 - 2) (by omega)
 exact core1 a0 (ly8 a0) (ly8 a0 % 3) (pk (ly8 a0 % 3) leG otG grG) _ _ 3 3 5 leG otG grG _ _ _ s m ca ab e gb ob bcs tb w (and_ly8 a0) rfl hs hm hI (by omega) hQ rleast_any rother_any rgreat_any
  (fun w' x r => gnew_yes (pk (ly8 a0 % 3) 3 3 5) (pk (ly8 a0 % 3) 3 3 5) (some ⟨x, 0, none⟩) (pk (ly8 a0 % 3) leG otG grG) _ _ x 0 _ _ w' h63 hG (lks_links (hL ▸ r) hlt) his)
  (fun w' x r => rQ_any (pk (ly8 a0 % 3) 3 3 5) (pk (ly8 a0 % 3) 3 3 5) (some ⟨x, 0, none⟩) (pk (ly8 a0 % 3) leG otG grG) _ _ x 0 _ _ w' h2 h63 (lks_links (hL ▸ r) hlt))
set_option maxRecDepth 100000 in
theorem lifted (os : Os) (started : os.Started) (H : Type) (enc : TypeId × Value → H) :
  ReturnsInHanded {} Tryd.checked os 4 .any (fun w args => (Rows.tapeDrawsSpec.pre enc Tryd.prog Tryd.f4 [] false w args ∧ laidMetH Tryd.prog lk w) ∧ sizedMet enc Tryd.prog Tryd.f4 (OpenSpec.ofChange Rows.tapeDrawsSpec) false w args)
   (Rows.tapeDrawsSpec.post enc Tryd.prog Tryd.f4 false true false false) := by
 refine returnsInHanded_of_change_and (C := Tryd.checked) (X := fun w _ => laidMetH Tryd.prog lk w) (fun _ _ _ hh h => h.of_heap hh) own started (by kernel_rfl) Tryd.func4
  (ChangeSpec.witness_shaped (enc := enc) (C := Tryd.checked) (os := os) (X := fun w _ => laidMetH Tryd.prog lk w) false (World.laidAll Tryd.prog os lk) #[.int .i64 0, .string ⟨#[]⟩, .slice none 0 0] 8 (World.laidAll_os _ _ _) (lk_shaped os _) (by kernel_rfl) (by kernel_rfl) (by kernel_rfl) (lk_met os _)) ?_
 intro W base args ds gs before hval0 hW _ _ hL _
 have hval : ∀ (j : Nat) t v, Tryd.f4.params[j]? = some t → args[j]? = some v → Value.okWide Tryd.prog W .any base t v := hval0
 have hW' := hW
 obtain ⟨p, q, hA0, hV, rfl, hfz, hnd⟩ := hW
 have hA : DataW.TrodAll enc Tryd.prog W 0 (fun _ => true) true Tryd.f4.params.toList args.toList ds p := hA0
 rw [Tryd.params4] at hA hval
 obtain ⟨v0, vs0, d0, ds0, p0, q0, hargs, rfl, rfl, h0, r0⟩ := trodAll_cons hA
 obtain ⟨v1, vs1, d1, ds1, p1, q1, rfl, rfl, rfl, h1, r1⟩ := trodAll_cons r0
 obtain ⟨v2, vs2, d2, ds2, p2, q2, rfl, rfl, rfl, h2, r2⟩ := trodAll_cons r1
 obtain ⟨rfl, rfl, rfl⟩ := trodAll_nil r2
 obtain rfl : args = #[v0, v1, v2] := by cases args; simp_all
 obtain ⟨rfl, rfl⟩ := trodVars_none hV
 have k0 := h0
 have lt0 := lt_of_trod h0
 obtain ⟨a0, rfl, rfl, rfl, w0⟩ := open_int Tryd.underlying3 (hval 0 3 v0 rfl rfl) h0
 have k1 := h1
 have lt1 := lt_of_trod h1
 obtain ⟨⟨⟨s1⟩⟩, rfl, rfl, rfl, w1⟩ := open_string Tryd.underlying9 (hval 1 9 v1 rfl rfl) h1
 have k2 := h2
 have lt2 := lt_of_trod h2
 obtain ⟨ab2, m2, c2, rfl, hm2, e2, gb2, ob2, bcs2, tb2, hst2⟩ := open_ints (hval 2 22 v2 rfl rfl) h2
 clear hA0 hval0
 refine (walk a0 s1 m2 c2 ab2 e2 gb2 ob2 bcs2 tb2 W hst2).mono fun e W' ⟨he, bel⟩ => ?_
 subst he
 exact ⟨_, rfl, _, _, _, [], _, [], hW', trodAll_mk1 (shut_bool Tryd.underlying4 _), (trodAll_cons_mk (Below.trod laidOut (by kernel_rfl) (of_decide_eq_true (by kernel_rfl)) k0 bel lt0) (trodAll_cons_mk (Below.trod laidOut (by kernel_rfl) (of_decide_eq_true (by kernel_rfl)) k1 bel lt1) (trodAll_cons_mk (Below.trod laidOut (by kernel_rfl) (of_decide_eq_true (by kernel_rfl)) k2 bel lt2) trodAll_mk0))), rfl, bel.frame _, fun h => by cases h⟩
theorem over : Rows.tapeDrawsRow.holds Tryd.pinned (OpenSpec.ofChange Rows.tapeDrawsSpec) :=
 OpenClaim.holds_of_wide 4 Tryd.f4 rfl rfl rfl rfl rfl rfl rfl ⟨rfl, rfl, rfl, rfl, rfl⟩ rfl rfl rfl rfl rfl (by kernel_rfl) Tryd.func4 (by kernel_rfl)
  (of_decide_eq_true (by kernel_rfl)) (by unfold Func.isWrapper; first | (rw [if_pos (by decide +kernel)]; kernel_rfl) | (rw [if_neg (by decide +kernel)]; exact ⟨rfl, rfl⟩))
  (fun os started H enc _ => lifted os started H enc)
theorem card : Claim7.holds Tryd.pinned (.plain (OpenSpec.ofChange Rows.tapeDrawsSpec)) Rows.tapeDrawsCard :=
 Claim7.holds_tied_plain_at .later [] [.data, .pinned] true (true, "b2f3a635b080a807049dfd8a3bbcd83cfd1f2faf6c6deaae8cd420e9f63e0053") false
  over (fun _ h => by cases h) (by kernel_rfl) (fun _ h => by cases h) tapeDraws_row_tie rfl ⟨rfl, rfl⟩ (by kernel_rfl) rfl
  (fun f fn hf hfn => by
   obtain rfl : f = 4 := Option.some.inj ((show Tryd.prog.funcNamed "sacristy/sacristylaw10.TapeDraws" = some 4 by kernel_rfl).symm.trans hf) |>.symm
   obtain rfl : fn = Tryd.f4 := (Option.some.inj (Tryd.func4.symm.trans hfn)).symm
   exact ⟨by kernel_rfl, fun j t ht => by
    rw [Tryd.params4] at ht
    have hm : t ∈ [3, 9, 22] := by simpa using Array.mem_of_getElem? ht
    have hall : ([3, 9, 22].all fun u => !Tryd.prog.wantsStandIn u) = true := by kernel_rfl
    exact (show Tryd.prog.wantsStandIn t = false by simpa using List.all_eq_true.1 hall t hm)⟩)
  (by kernel_rfl)
end tapeDrawsP
/-- for every number, text and ints: the numbers that are drawn are the document's, one behind the other, or the bytes do not do, and are not taken; no condition. -/
theorem tapeDraws_holds : Rows.TapeDrawsCardSaid := tapeDrawsP.card
end Go.Proofs.YtlacmkliofnjcaaDoor
