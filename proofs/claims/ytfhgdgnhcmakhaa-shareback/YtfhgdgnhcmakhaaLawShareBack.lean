/- ShareBack: for every number, list of naturals and number: in one of the three groups, of a list of 1 to 7, of whichever of the seven shares the polynomial comes back, if they are enough, and an error, if they are not; no condition. -/
import Derived.Test.YtfhgdgnhcmakhaaSrAwake
import Derived.Test.YtfhgdgnhcmakhaaGU
namespace Go.Proofs.Ytfhgdgnhcmakhaa
open Go.ChangeShapes Go.WideShapes Go.ChangeAt Go.RowKit
namespace shareBackP
set_option linter.unusedVariables false
set_option linter.unusedSectionVars false
/-- A bit of a number. -/
def bt (x : Int) (i : Nat) : Bool := decide (x / 2 ^ i % 2 = 1)
def ly1 (x : Int) : Nat := (x % 2).toNat
theorem and_ly1 (x : Int) : bits .and .i64 x 1 = ((ly1 x : Nat) : Int) := by
 show IntKind.i64.wrap ((BitVec.ofInt 64 x &&& BitVec.ofInt 64 1).toNat : Int) = _
 have h15 : (BitVec.ofInt 64 1).toNat = 2 ^ 1 - 1 := by decide
 rw [BitVec.toNat_and, h15, Nat.and_two_pow_sub_one_eq_mod, BitVec.toNat_ofInt]
 have e : (x % ((2 ^ 64 : Nat) : Int)).toNat % 2 ^ 1 = ly1 x := by
  unfold ly1
  omega
 rw [e, IntKind.wrap_i64]
 have : ly1 x < 2 := by unfold ly1; omega
 omega
theorem bt_is (x : Int) (i : Nat) : decide (((ly1 (x / 2 ^ i) : Nat) : Int) = 1) = bt x i := by
 unfold bt ly1
 exact decide_eq_decide.2 ⟨fun h => by omega, fun h => by omega⟩
theorem exec_shr_z {P : Program} {o : Oper} {ρ : Operand → Value} (t : TypeId) (x y : Operand) (u : TypeId) (ho : o.op = .binOp .shr t x y u) (n : Int) (s : Nat) (hx : ρ x = .int .i64 n) (hy : ρ y = .int .i64 s) (hs : s < 64) (w : World) :
  (execOp ρ o).run P w = .ok (.value (.int .i64 (n / 2 ^ s))) w := by
 unfold execOp
 simp only [ho, hx, hy]
 simp [go_sem]
/-- Those of the first i that are told, in their order. -/
def sqL (b : Nat → Bool) : Nat → List Nat
 | 0 => []
 | i + 1 => if b i then sqL b i ++ [i] else sqL b i
theorem sqL_len (b : Nat → Bool) : ∀ i, (sqL b i).length = cnB b i
 | 0 => rfl
 | i + 1 => by
  show (if b i then sqL b i ++ [i] else sqL b i).length = cnB b i + (if b i then 1 else 0)
  split <;> simp [sqL_len b i]
theorem sqL_pre (b : Nat → Bool) (j k : Nat) (hk : k < (sqL b j).length) : ∀ i, j ≤ i → (sqL b i).getD k 0 = (sqL b j).getD k 0 ∧ k < (sqL b i).length
 | 0, h => by
  obtain rfl : j = 0 := by omega
  exact ⟨rfl, hk⟩
 | i + 1, h => by
  by_cases e : j = i + 1
  ·subst e; exact ⟨rfl, hk⟩
  ·obtain ⟨h1, h2⟩ := sqL_pre b j k hk i (by omega)
   show (if b i then sqL b i ++ [i] else sqL b i).getD k 0 = _ ∧ k < (if b i then sqL b i ++ [i] else sqL b i).length
   split
   ·refine ⟨?_, by simp; omega⟩
    rw [← h1, List.getD_eq_getElem?_getD, List.getD_eq_getElem?_getD, List.getElem?_append_left h2]
   ·exact ⟨h1, h2⟩
theorem sqL_at (b : Nat → Bool) (i n : Nat) (hb : b i = true) (hi : i < n) : (sqL b n).getD (cnB b i) 0 = i := by
 have h : (sqL b (i + 1)).length = cnB b i + 1 := by
  rw [sqL_len]
  show cnB b i + (if b i then 1 else 0) = _
  rw [hb]; rfl
 rw [(sqL_pre b (i + 1) (cnB b i) (by omega) n (by omega)).1]
 show (if b i then sqL b i ++ [i] else sqL b i).getD _ 0 = i
 rw [hb, if_pos rfl, ← sqL_len, List.getD_eq_getElem?_getD]
 simp
theorem sqL_lt (b : Nat → Bool) : ∀ i k, k < (sqL b i).length → (sqL b i).getD k 0 < i
 | 0, k, h => by simp [sqL] at h
 | i + 1, k, h => by
  by_cases hb : b i = true
  ·have e : sqL b (i + 1) = sqL b i ++ [i] := by show (if b i then _ else _) = _; rw [hb, if_pos rfl]
   rw [e] at h ⊢
   by_cases h2 : k < (sqL b i).length
   ·rw [List.getD_eq_getElem?_getD, List.getElem?_append_left h2, ← List.getD_eq_getElem?_getD]
    have := sqL_lt b i k h2
    omega
   ·obtain rfl : k = (sqL b i).length := by simp at h; omega
    simp
  ·have e : sqL b (i + 1) = sqL b i := by show (if b i then _ else _) = _; rw [if_neg hb]
   rw [e] at h ⊢
   have := sqL_lt b i k h
   omega
theorem sqL_inc (b : Nat → Bool) : ∀ i k l, k < l → l < (sqL b i).length → (sqL b i).getD k 0 < (sqL b i).getD l 0
 | 0, k, l, _, h => by simp [sqL] at h
 | i + 1, k, l, hkl, h => by
  by_cases hb : b i = true
  ·have e : sqL b (i + 1) = sqL b i ++ [i] := by show (if b i then _ else _) = _; rw [hb, if_pos rfl]
   rw [e] at h ⊢
   have hk : k < (sqL b i).length := by simp at h; omega
   rw [List.getD_eq_getElem?_getD, List.getElem?_append_left hk, ← List.getD_eq_getElem?_getD]
   by_cases h2 : l < (sqL b i).length
   ·rw [List.getD_eq_getElem?_getD (l := sqL b i ++ [i]), List.getElem?_append_left h2, ← List.getD_eq_getElem?_getD]
    exact sqL_inc b i k l hkl h2
   ·obtain rfl : l = (sqL b i).length := by simp at h; omega
    have := sqL_lt b i k hk
    simp
    simpa using this
  ·have e : sqL b (i + 1) = sqL b i := by show (if b i then _ else _) = _; rw [if_neg hb]
   rw [e] at h ⊢
   exact sqL_inc b i k l hkl h
theorem pk_big (m : Nat) : 1000 < lN (pk m leL otL grL) (pk m 3 3 5 - 2) := by
 unfold pk
 split
 ·decide +kernel
 ·split <;> decide +kernel
theorem lit_sh1 (i : Int) (y k : Nat) (hk : k = 5) : Instr.fill (fun i => some (i * k, k)) ((Array.range (1 * k)).map ((Value.agg #[.int .i64 0, .int .u64 0, .int .u64 0, .int .u64 0, .int .u64 0]).cells[· % (Value.agg #[.int .i64 0, .int .u64 0, .int .u64 0, .int .u64 0, .int .u64 0]).cells.size]!)) [(0, .agg (shC i y))] = some (shC i y) := by
 subst hk
 unfold shC natC
 generalize lm y 0 = a
 generalize lm y 1 = b
 generalize lm y 2 = c
 generalize lm y 3 = d
 kernel_rfl
set_option maxRecDepth 100000 in
set_option maxHeartbeats 2000000 in
theorem core0 (a0 a2 : Int) (n c : Nat) (ab : Option Addr) (w : World) (h : n < 1 ∨ 7 < n) :
  Calls Try.prog 3 #[.int .i64 a0, .slice ab n c, .int .i64 a2] w fun e w' => e = .returned (.bool true) ∧ Below w.heap.size w w' := by
 have haw := awake13_any
 go_enter Try.func3, Try.ntmps3
 have sb := sbmk w
 (repeat ((fail_if_success with_reducible refine rg ?_); go_step))
 refine wp_region_pw ?_
 refine pw_value (by rfl) (.bool false) (fun _ => rfl) ?_
 simp only [Act.put, pu]
 refine pw_nil ?_
 by_cases h1 : n < 1
 ·(repeat ((fail_if_success with_reducible refine rg ?_); go_step))
  refine wp_region_pw ?_
  refine pw_mv (by rfl) rfl rfl ?_
  simp only [Act.put, pu]
  refine pw_value (by rfl) (.int .i64 n) (exec_len_s 22 _ rfl (ab) (n) (c) rfl sl_natsX) ?_
  simp only [Act.put, pu]
  refine pw_value (by rfl) (.bool true) (exec_lt_b _ _ _ _ rfl n 1 rfl rfl true (decide_eq_true (by omega))) ?_
  refine pw_mv (by rfl) rfl rfl ?_
  simp only [Act.put, pu]
  refine pw_skip (by rfl) ?_
  simp only [Act.put, pu]
  refine pw_skip (by rfl) ?_
  simp only [Act.put, pu]
  refine pw_skip (by rfl) ?_
  simp only [Act.put, pu]
  refine pw_pick (by rfl) true (v := .bool true) rfl rfl rfl ?_
  simp only [Act.put, pu]
  refine pw_nil ?_
  (repeat ((fail_if_success with_reducible refine rg ?_); go_step))
  refine wp_region_pw ?_
  refine pw_callB (by rfl) 5 _ _ rfl Try.func5 (by kernel_rfl) #[] rfl _ (haw _) ?_
  intro z2000 k
  simp only [Act.put, pu]
  replace sb := sb.trans (k.below w.heap.size sb.size (by simp <;> omega))
  clear k
  refine pw_as (by rfl) rfl rfl ?_
  simp only [Act.put, pu]
  refine pw_nil ?_
  go_wp2
  go_ret
  exact ⟨rfl, sb⟩
 ·(repeat ((fail_if_success with_reducible refine rg ?_); go_step))
  refine wp_region_pw ?_
  refine pw_mv (by rfl) rfl rfl ?_
  simp only [Act.put, pu]
  refine pw_value (by rfl) (.int .i64 n) (exec_len_s 22 _ rfl (ab) (n) (c) rfl sl_natsX) ?_
  simp only [Act.put, pu]
  refine pw_value (by rfl) (.bool false) (exec_lt_b _ _ _ _ rfl n 1 rfl rfl false (decide_eq_false (by omega))) ?_
  refine pw_mv (by rfl) rfl rfl ?_
  refine pw_mv (by rfl) rfl rfl ?_
  simp only [Act.put, pu]
  refine pw_value (by rfl) (.int .i64 n) (exec_len_s 22 _ rfl (ab) (n) (c) rfl sl_natsX) ?_
  simp only [Act.put, pu]
  refine pw_value (by rfl) (.bool true) (exec_gt_i _ _ _ _ rfl n 7 rfl rfl true (decide_eq_true (by omega))) ?_
  simp only [Act.put, pu]
  refine pw_pick (by rfl) false (v := .bool true) rfl rfl rfl ?_
  simp only [Act.put, pu]
  refine pw_nil ?_
  (repeat ((fail_if_success with_reducible refine rg ?_); go_step))
  refine wp_region_pw ?_
  refine pw_callB (by rfl) 5 _ _ rfl Try.func5 (by kernel_rfl) #[] rfl _ (haw _) ?_
  intro z2000 k
  simp only [Act.put, pu]
  replace sb := sb.trans (k.below w.heap.size sb.size (by simp <;> omega))
  clear k
  refine pw_as (by rfl) rfl rfl ?_
  simp only [Act.put, pu]
  refine pw_nil ?_
  go_wp2
  go_ret
  exact ⟨rfl, sb⟩
set_option maxRecDepth 100000 in
set_option maxHeartbeats 2000000 in
theorem core1 (a0 a2 : Int) (m0 mm GG PP QQ n0 n1 n2 G0 G1 G2 : Nat) (L0 L1 L2 : Array Value) (n c M : Nat) (ab : Option Addr) (S YY : Nat → Nat) (TT : List (Fin QQ)) (w : World) [NeZero QQ] (hm0 : bits .and .i64 a0 255 = (m0 : Int)) (hmm : m0 % 3 = mm) (hn : n ≤ 7) (hn1 : 1 ≤ n)
  (hS : ∀ i, i < 7 → bt a2 i = true → S (cnB (bt a2) i) = i) (hM : cnB (bt a2) 7 = M) (hTl : TT.length ≤ n)
  (hde : ∀ g gr gf w', Below w.heap.size w w' → GrpAt w' g gr gf PP QQ GG → Calls Try.prog 10 #[.pointer (some ⟨g, 0, none⟩), .slice ab n c, .int .i64 7] w' fun e w2 => ∃ gL, e = .returned (.tuple #[.slice (some ⟨gL, 0, none⟩) 7 7, .int .i64 0]) ∧ w'.heap.size ≤ gL ∧ Row w2 gL (esC 5 7 (fun k => shC ((k + 1 : Nat) : Int) (YY k))) 40 ∧ Below w'.heap.size w' w2)
  (hfew : M < n → ∀ g gr gf w' ap cp gp cur, GrpAt w' g gr gf PP QQ GG → ElsAt 5 w' ap M (fun k => shC ((S k + 1 : Nat) : Int) (YY (S k))) gp 0 cur 40 → Calls Try.prog 11 #[.pointer (some ⟨g, 0, none⟩), .int .i64 ((n - 1 : Nat) : Int), .slice ap M cp] w' fun e w2 => e = .returned (.tuple #[.slice none 0 0, .int .i64 3]) ∧ Below w'.heap.size w' w2)
  (hyes : n ≤ M → ∀ g gr gf w' ap cp gp cur, M ≤ cp → GrpAt w' g gr gf PP QQ GG → ElsAt 5 w' ap M (fun k => shC ((S k + 1 : Nat) : Int) (YY (S k))) gp 0 cur 40 → Calls Try.prog 11 #[.pointer (some ⟨g, 0, none⟩), .int .i64 ((n - 1 : Nat) : Int), .slice ap M cp] w' fun e w2 => ∃ vf, e = .returned (.tuple #[vf, .int .i64 0]) ∧ PlAt w2 vf TT ∧ Below w'.heap.size w' w2)
  (hde2 : ∀ g gr gf w' vf, GrpAt w' g gr gf PP QQ GG → PlAt w' vf TT → Calls Try.prog 10 #[.pointer (some ⟨g, 0, none⟩), vf, .int .i64 7] w' fun e w2 => ∃ gL, e = .returned (.tuple #[.slice (some ⟨gL, 0, none⟩) 7 7, .int .i64 0]) ∧ w'.heap.size ≤ gL ∧ Row w2 gL (esC 5 7 (fun k => shC ((k + 1 : Nat) : Int) (YY k))) 40 ∧ Below w'.heap.size w' w2)
  (hA0 : ∀ w', Calls Try.prog 7 #[] w' fun e w2 => ∃ g, e = .returned (.agg (paC (some ⟨g, 0, none⟩) n0 n0 G0)) ∧ w'.heap.size ≤ g ∧ Row w2 g L0 66 ∧ Below w'.heap.size w' w2)
  (hA1 : ∀ w', Calls Try.prog 8 #[] w' fun e w2 => ∃ g, e = .returned (.agg (paC (some ⟨g, 0, none⟩) n1 n1 G1)) ∧ w'.heap.size ≤ g ∧ Row w2 g L1 66 ∧ Below w'.heap.size w' w2)
  (hA2 : ∀ w', Calls Try.prog 9 #[] w' fun e w2 => ∃ g, e = .returned (.agg (paC (some ⟨g, 0, none⟩) n2 n2 G2)) ∧ w'.heap.size ≤ g ∧ Row w2 g L2 66 ∧ Below w'.heap.size w' w2)
  (hnw : ∀ w' x, Row w' x (pk mm L0 L1 L2) 66 → Calls Try.prog 6 #[.agg (paC (some ⟨x, 0, none⟩) (pk mm n0 n1 n2) (pk mm n0 n1 n2) (pk mm G0 G1 G2))] w' fun e w2 => ∃ g gr gf, e = .returned (.tuple #[.pointer (some ⟨g, 0, none⟩), .int .i64 0]) ∧ GrpAt w2 g gr gf PP QQ GG ∧ Below w'.heap.size w' w2) :
  Calls Try.prog 3 #[.int .i64 a0, .slice ab n c, .int .i64 a2] w fun e w' => e = .returned (.bool true) ∧ Below w.heap.size w w' := by
 have haw := awake13_any
 obtain ⟨ip, hip, hzp, hszp⟩ := info_pa'
 have hp1 : ¬ 3 * ip.size > 2 ^ 24 := by rw [hszp]; decide
 have hp2 : ¬ 3 * ip.size = 0 := by rw [hszp]; decide
 have hlp := fun x y z n m l X Y Z => lit_pas x y z n m l X Y Z ip.size hszp
 have hMM : Hid (m0 % 3 = mm) := hmm
 have hm3 : mm < 3 := by rw [← hmm]; exact Nat.mod_lt _ (by decide)
 obtain ⟨ie, hie, hz, hsz, hby⟩ := info_shb
 have hs1 : ¬ 1 * ie.size > 2 ^ 24 := by rw [hsz]; decide
 have hs2 : ¬ 1 * ie.size = 0 := by rw [hsz]; decide
 obtain ⟨CC, hCC⟩ : ∃ CC : Nat → Array Value, ∀ k, CC k = shC ((S k + 1 : Nat) : Int) (YY (S k)) := ⟨_, fun _ => rfl⟩
 have HC5 : Hid (∀ k, (CC k).size = 5) := fun k => by rw [hCC]; rfl
 have HCo : Hid (∀ k, (CC k).all (·.oneCell') = true) := fun k => by rw [hCC]; exact sh_one _ _
 have HCC : Hid (∀ k, CC k = shC ((S k + 1 : Nat) : Int) (YY (S k))) := hCC
 have HLi : Hid (∀ i, i < 7 → bt a2 i = true → Instr.fill (fun i => some (i * ie.size, ie.size)) ((Array.range (1 * ie.size)).map ((Value.agg #[.int .i64 0, .int .u64 0, .int .u64 0, .int .u64 0, .int .u64 0]).cells[· % (Value.agg #[.int .i64 0, .int .u64 0, .int .u64 0, .int .u64 0, .int .u64 0]).cells.size]!)) [(0, .agg (shC ((i + 1 : Nat) : Int) (YY i)))] = some (CC (cnB (bt a2) i))) := fun i hi hb => by
  rw [hCC, hS i hi hb]
  exact lit_sh1 _ _ _ hsz
 have HSZ : Hid (∀ k : Nat, (shC ((k + 1 : Nat) : Int) (YY k)).size = 5) := fun k => rfl
 have hsa := fun w' g1 g2 (r1 : Row w' g1 (esC 5 7 (fun k => shC ((k + 1 : Nat) : Int) (YY k))) 40) (r2 : Row w' g2 (esC 5 7 (fun k => shC ((k + 1 : Nat) : Int) (YY k))) 40) => rsameS 7 7 7 (some ⟨g1, 0, none⟩) (some ⟨g2, 0, none⟩) (fun k => ((k + 1 : Nat) : Int)) YY g1 0 g2 0 _ _ _ _ w' (by decide) (els_row (fun _ => rfl) r1) (els_row (fun _ => rfl) r2)
 clear hmm hCC hS hszp
 go_enter Try.func3, Try.ntmps3
 have sb := sbmk w
 (repeat ((fail_if_success with_reducible refine rg ?_); go_step))
 refine wp_region_pw ?_
 refine pw_value (by rfl) (.bool false) (fun _ => rfl) ?_
 simp only [Act.put, pu]
 refine pw_nil ?_
 (repeat ((fail_if_success with_reducible refine rg ?_); go_step))
 refine wp_region_pw ?_
 refine pw_mv (by rfl) rfl rfl ?_
 simp only [Act.put, pu]
 refine pw_value (by rfl) (.int .i64 n) (exec_len_s 22 _ rfl (ab) (n) (c) rfl sl_natsX) ?_
 simp only [Act.put, pu]
 refine pw_value (by rfl) (.bool false) (exec_lt_b _ _ _ _ rfl n 1 rfl rfl false (decide_eq_false (by omega))) ?_
 refine pw_mv (by rfl) rfl rfl ?_
 refine pw_mv (by rfl) rfl rfl ?_
 simp only [Act.put, pu]
 refine pw_value (by rfl) (.int .i64 n) (exec_len_s 22 _ rfl (ab) (n) (c) rfl sl_natsX) ?_
 simp only [Act.put, pu]
 refine pw_value (by rfl) (.bool false) (exec_gt_i _ _ _ _ rfl n 7 rfl rfl false (decide_eq_false (by omega))) ?_
 simp only [Act.put, pu]
 refine pw_pick (by rfl) false (v := .bool false) rfl rfl rfl ?_
 simp only [Act.put, pu]
 refine pw_nil ?_
 (repeat ((fail_if_success with_reducible refine rg ?_); go_step))
 refine wp_region_pw ?_
 refine pw_callE (by rfl) 7 _ _ rfl Try.func7 (by kernel_rfl) #[] rfl (hA0 _) ?_
 rintro _ z3000 ⟨gU, rfl, nU, rU, hb⟩
 refine ⟨_, rfl, ?_⟩
 simp only [Act.put, pu]
 have bU := Nat.le_trans sb.size nU
 clear nU
 have k := Kept.ofBelow hb
 clear hb
 replace sb := sb.trans (k.below w.heap.size sb.size (by simp <;> omega))
 clear k
 refine pw_callE (by rfl) 8 _ _ rfl Try.func8 (by kernel_rfl) #[] rfl (hA1 _) ?_
 rintro _ z3001 ⟨gV, rfl, nV, rV, hb⟩
 refine ⟨_, rfl, ?_⟩
 simp only [Act.put, pu]
 have dUxV := Nat.lt_of_lt_of_le rU.lt nV
 have bV := Nat.le_trans sb.size nV
 clear nV
 have k := Kept.ofBelow hb
 clear hb
 replace rU := k.row rU (by simp <;> omega)
 replace sb := sb.trans (k.below w.heap.size sb.size (by simp <;> omega))
 clear k
 refine pw_callE (by rfl) 9 _ _ rfl Try.func9 (by kernel_rfl) #[] rfl (hA2 _) ?_
 rintro _ z3002 ⟨gW, rfl, nW, rW, hb⟩
 refine ⟨_, rfl, ?_⟩
 simp only [Act.put, pu]
 have dUxW := Nat.lt_of_lt_of_le rU.lt nW
 have dVxW := Nat.lt_of_lt_of_le rV.lt nW
 have bW := Nat.le_trans sb.size nW
 clear nW
 have k := Kept.ofBelow hb
 clear hb
 replace rU := k.row rU (by simp <;> omega)
 replace rV := k.row rV (by simp <;> omega)
 replace sb := sb.trans (k.below w.heap.size sb.size (by simp <;> omega))
 clear k
 refine pw_litr (by rfl) 35 33 3 _ rfl (pasC (some ⟨gU, 0, none⟩) (some ⟨gV, 0, none⟩) (some ⟨gW, 0, none⟩) n0 n1 n2 G0 G1 G2) ip _ Try.underlying35 hip hzp hp1 hp2 [(0, .agg (paC (some ⟨gU, 0, none⟩) n0 n0 G0)), (1, .agg (paC (some ⟨gV, 0, none⟩) n1 n1 G1)), (2, .agg (paC (some ⟨gW, 0, none⟩) n2 n2 G2))] rfl (hlp _ _ _ _ _ _ _ _ _) ?_
 intro gT z3003 n0 rT k
 simp only [Act.put, pu]
 have dUxT := Nat.lt_of_lt_of_le rU.lt n0
 have dVxT := Nat.lt_of_lt_of_le rV.lt n0
 have dWxT := Nat.lt_of_lt_of_le rW.lt n0
 have bT := Nat.le_trans sb.size n0
 clear n0
 replace rU := k.row rU (by simp <;> omega)
 replace rV := k.row rV (by simp <;> omega)
 replace rW := k.row rW (by simp <;> omega)
 replace sb := sb.trans (k.below w.heap.size sb.size (by simp <;> omega))
 clear k
 refine pw_mv (by rfl) rfl rfl ?_
 simp only [Act.put, pu]
 refine pw_value (by rfl) (.int .i64 (m0 : Nat)) (fun w' => (exec_bits_i .and _ _ _ _ (.inl rfl) rfl a0 255 rfl rfl w').trans (by rw [hm0])) ?_
 simp only [Act.put, pu]
 refine pw_value (by rfl) (.int .i64 (mm : Nat)) (fun w' => (exec_rem_i _ _ _ _ rfl m0 3 rfl rfl (by decide) w').trans (by rw [hMM.out])) ?_
 simp only [Act.put, pu]
 refine pw_value (by rfl) (.pointer (some ⟨gT, 0 + mm * 5, none⟩)) (exec_index_s 35 _ _ rfl gT 0 3 3 rfl mm rfl hm3 _ Try.underlying35 5 Try.sizeOf33) ?_
 simp only [Act.put, pu]
 refine pw_loadm (by rfl) 33 _ rfl _ (0 + mm * 5) rfl rT.r (paC (some ⟨pk mm gU gV gW, 0, none⟩) (pk mm n0 n1 n2) (pk mm n0 n1 n2) (pk mm G0 G1 G2)) (pas_part gU gV gW n0 n1 n2 G0 G1 G2 mm hm3) _ Try.underlying33 rfl size_pa ?_
 simp only [Act.put, pu]
 refine pw_callE (by rfl) 6 _ _ rfl Try.func6 (by kernel_rfl) #[.agg (paC (some ⟨pk mm gU gV gW, 0, none⟩) (pk mm n0 n1 n2) (pk mm n0 n1 n2) (pk mm G0 G1 G2))] rfl (hnw _ _ (pk_row mm rU rV rW)) ?_
 rintro _ z3009 ⟨g, gr, gf, rfl, ⟨rG, rR, rF⟩, hb⟩
 refine ⟨_, rfl, ?_⟩
 simp only [Act.put, pu]
 have k := Kept.ofBelow hb
 clear hb
 replace rU := k.row rU (by simp <;> omega)
 replace rV := k.row rV (by simp <;> omega)
 replace rW := k.row rW (by simp <;> omega)
 replace rT := k.row rT (by simp <;> omega)
 replace sb := sb.trans (k.below w.heap.size sb.size (by simp <;> omega))
 clear k
 refine pw_mv (by rfl) rfl rfl ?_
 refine pw_ext (by rfl) rfl rfl rfl ?_
 refine pw_ext (by rfl) rfl rfl rfl ?_
 refine pw_as (by rfl) rfl rfl ?_
 refine pw_as (by rfl) rfl rfl ?_
 simp only [Act.put, pu]
 refine pw_nil ?_
 clear rU rV rW rT hA0 hA1 hA2 hnw hlp hip hzp hp1 hp2 bU bV bW bT
 (repeat ((fail_if_success with_reducible refine rg ?_); go_step))
 refine wp_region_pw ?_
 refine pw_mv (by rfl) rfl rfl ?_
 refine pw_mv (by rfl) rfl rfl ?_
 simp only [Act.put, pu]
 refine pw_callE (by rfl) 10 _ _ rfl Try.func10 (by kernel_rfl) #[.pointer (some ⟨g, 0, none⟩), .slice ab n c, .int .i64 7] rfl (hde g gr gf _ sb (⟨rG, rR, rF⟩ : GrpAt _ g gr gf PP QQ GG)) ?_
 rintro _ z4002 ⟨gL, rfl, nL, rL, hb⟩
 refine ⟨_, rfl, ?_⟩
 simp only [Act.put, pu]
 have dGxL := Nat.lt_of_lt_of_le rG.lt nL
 have dRxL := Nat.lt_of_lt_of_le rR.lt nL
 have dFxL := Nat.lt_of_lt_of_le rF.lt nL
 have bL := Nat.le_trans sb.size nL
 clear nL
 have k := Kept.ofBelow hb
 clear hb
 replace rG := k.row rG (by simp <;> omega)
 replace rR := k.row rR (by simp <;> omega)
 replace rF := k.row rF (by simp <;> omega)
 replace sb := sb.trans (k.below w.heap.size sb.size (by simp <;> omega))
 clear k
 refine pw_mv (by rfl) rfl rfl ?_
 refine pw_ext (by rfl) rfl rfl rfl ?_
 refine pw_ext (by rfl) rfl rfl rfl ?_
 refine pw_as (by rfl) rfl rfl ?_
 refine pw_as (by rfl) rfl rfl ?_
 simp only [Act.put, pu]
 refine pw_nil ?_
 clear hde
 (repeat ((fail_if_success with_reducible refine rg ?_); go_step))
 refine wp_region_pw ?_
 refine pw_mv (by rfl) rfl rfl ?_
 simp only [Act.put, pu]
 refine pw_value (by rfl) (.bool false) (exec_neq_k .i64 _ _ _ _ rfl 0 0 rfl rfl false rfl) ?_
 refine pw_mv (by rfl) rfl rfl ?_
 refine pw_mv (by rfl) rfl rfl ?_
 simp only [Act.put, pu]
 refine pw_value (by rfl) (.bool false) (exec_neq_k .i64 _ _ _ _ rfl 0 0 rfl rfl false rfl) ?_
 simp only [Act.put, pu]
 refine pw_pick (by rfl) false (v := .bool false) rfl rfl rfl ?_
 refine pw_mv (by rfl) rfl rfl ?_
 refine pw_mv (by rfl) rfl rfl ?_
 simp only [Act.put, pu]
 refine pw_value (by rfl) (.int .i64 7) (exec_len_s 36 _ rfl (some ⟨gL, 0, none⟩) (7) (7) rfl sl_shs) ?_
 simp only [Act.put, pu]
 refine pw_value (by rfl) (.bool false) (exec_neq_k .i64 _ _ _ _ rfl 7 7 rfl rfl false rfl) ?_
 simp only [Act.put, pu]
 refine pw_pick (by rfl) false (v := .bool false) rfl rfl rfl ?_
 simp only [Act.put, pu]
 refine pw_nil ?_
 (repeat ((fail_if_success with_reducible refine rg ?_); go_step))
 refine wp_region_pw ?_
 refine pw_value (by rfl) (.slice none 0 0) ((fun _ => rfl)) ?_
 simp only [Act.put, pu]
 refine pw_nil ?_
 (repeat ((fail_if_success with_reducible refine rg ?_); go_step))
 refine wp_region_pw ?_
 refine pw_value (by rfl) (.int .i64 0) (fun _ => rfl) ?_
 simp only [Act.put, pu]
 refine pw_nil ?_
 go_wp2_with fail
 go_loopg [11, 12] 7 (fun y s11 s12 wr => ∃ i : Nat, i + y = 7 ∧ s12 = .int .i64 i ∧ OwnE 5 40 wr w.heap.size s11 (cnB (bt a2) i) CC ∧ s11.ownBlock ≠ some g ∧ s11.ownBlock ≠ some gr ∧ s11.ownBlock ≠ some gf ∧ s11.ownBlock ≠ some gL ∧ GrpAt wr g gr gf PP QQ GG ∧ Row wr gL (esC 5 7 (fun k => shC ((k + 1 : Nat) : Int) (YY k))) 40 ∧ Below w.heap.size w wr)
 case atStart => exact ⟨0, by omega, rfl, ownE_nil _ _ _ _, nofun, nofun, nofun, nofun, ⟨rG, rR, rF⟩, rL, sb⟩
 case round =>
  clear rG rR rF rL sb
  obtain ⟨i, hi, rfl, hP, ehPxG, ehPxR, ehPxF, ehPxL, ⟨rG, rR, rF⟩, rL, sb⟩ := hrel
  cases gk with
  | zero =>
   obtain rfl : i = 7 := by omega
   clear hi
   rw [hM] at hP
   obtain ⟨ap, cp, gp, cur, rfl, hcp, hpp⟩ := ownE_els HC5.out hP
   have hpe := hpp.congr (fun k _ => HCC.out k)
   clear hP hpp ehPxG ehPxR ehPxF ehPxL
   (repeat ((fail_if_success with_reducible refine rg ?_); go_step))
   refine wp_region_pw ?_
   refine pw_mv (by rfl) rfl rfl ?_
   simp only [Act.put, pu]
   refine pw_value (by rfl) (.bool false) (exec_lt_b _ _ _ _ rfl 7 7 rfl rfl false (decide_eq_false (Int.lt_irrefl _))) ?_
   refine pw_mv (by rfl) rfl rfl ?_
   simp only [Act.put, pu]
   refine pw_skip (by rfl) ?_
   simp only [Act.put, pu]
   refine pw_skip (by rfl) ?_
   simp only [Act.put, pu]
   refine pw_skip (by rfl) ?_
   simp only [Act.put, pu]
   refine pw_skip (by rfl) ?_
   simp only [Act.put, pu]
   refine pw_pick (by rfl) false (v := .bool false) rfl rfl rfl ?_
   simp only [Act.put, pu]
   refine pw_nil ?_
   by_cases hmn : M < n
   ·have hre := hfew hmn
    clear hyes hfew hde2 hsa
    (repeat ((fail_if_success with_reducible refine rg ?_); go_step))
    refine wp_region_pw ?_
    refine pw_mv (by rfl) rfl rfl ?_
    refine pw_mv (by rfl) rfl rfl ?_
    simp only [Act.put, pu]
    refine pw_value (by rfl) (.int .i64 n) (exec_len_s 22 _ rfl (ab) (n) (c) rfl sl_natsX) ?_
    simp only [Act.put, pu]
    refine pw_value (by rfl) (.int .i64 ((n - 1 : Nat) : Int)) ((fun w' => (exec_sub_in _ _ _ _ rfl n 1 rfl rfl (by omega) (by omega) w'))) ?_
    refine pw_mv (by rfl) rfl rfl ?_
    simp only [Act.put, pu]
    refine pw_callB (by rfl) 11 _ _ rfl Try.func11 (by kernel_rfl) #[.pointer (some ⟨g, 0, none⟩), .int .i64 ((n - 1 : Nat) : Int), .slice ap M cp] rfl _ (hre g gr gf _ ap cp gp cur (⟨rG, rR, rF⟩ : GrpAt _ g gr gf PP QQ GG) hpe) ?_
    intro z13005 k
    simp only [Act.put, pu]
    replace rG := k.row rG (by simp <;> omega)
    replace rR := k.row rR (by simp <;> omega)
    replace rF := k.row rF (by simp <;> omega)
    replace hpe := hpe.below k.nil
    replace sb := sb.trans (k.below w.heap.size sb.size (by simp <;> omega))
    clear k
    refine pw_mv (by rfl) rfl rfl ?_
    refine pw_ext (by rfl) rfl rfl rfl ?_
    refine pw_ext (by rfl) rfl rfl rfl ?_
    refine pw_as (by rfl) rfl rfl ?_
    refine pw_as (by rfl) rfl rfl ?_
    simp only [Act.put, pu]
    refine pw_nil ?_
    clear hpe
    (repeat ((fail_if_success with_reducible refine rg ?_); go_step))
    refine wp_region_pw ?_
    refine pw_mv (by rfl) rfl rfl ?_
    simp only [Act.put, pu]
    refine pw_value (by rfl) (.int .i64 M) (exec_len_s 36 _ rfl (ap) (M) (cp) rfl sl_shs) ?_
    refine pw_mv (by rfl) rfl rfl ?_
    simp only [Act.put, pu]
    refine pw_value (by rfl) (.int .i64 n) (exec_len_s 22 _ rfl (ab) (n) (c) rfl sl_natsX) ?_
    simp only [Act.put, pu]
    refine pw_value (by rfl) (.bool true) (exec_lt_b _ _ _ _ rfl M n rfl rfl true (decide_eq_true (by omega))) ?_
    simp only [Act.put, pu]
    refine pw_nil ?_
    (repeat ((fail_if_success with_reducible refine rg ?_); go_step))
    refine wp_region_pw ?_
    refine pw_mv (by rfl) rfl rfl ?_
    simp only [Act.put, pu]
    refine pw_value (by rfl) (.int .i64 0) (exec_len_s 22 _ rfl (none) (0) (0) rfl sl_natsX) ?_
    simp only [Act.put, pu]
    refine pw_value (by rfl) (.bool true) (exec_eql_k .i64 _ _ _ _ rfl 0 0 rfl rfl true rfl) ?_
    refine pw_mv (by rfl) rfl rfl ?_
    refine pw_mv (by rfl) rfl rfl ?_
    simp only [Act.put, pu]
    refine pw_value (by rfl) (.bool true) (exec_eql_k .i64 _ _ _ _ rfl 3 3 rfl rfl true rfl) ?_
    simp only [Act.put, pu]
    refine pw_pick (by rfl) true (v := .bool true) rfl rfl rfl ?_
    refine pw_mv (by rfl) rfl rfl ?_
    simp only [Act.put, pu]
    refine pw_callB (by rfl) 5 _ _ rfl Try.func5 (by kernel_rfl) #[] rfl _ (haw _) ?_
    intro z15008 k
    simp only [Act.put, pu]
    replace sb := sb.trans (k.below w.heap.size sb.size (by simp <;> omega))
    clear k
    refine pw_pick (by rfl) true (v := .bool true) rfl rfl rfl ?_
    refine pw_as (by rfl) rfl rfl ?_
    simp only [Act.put, pu]
    refine pw_nil ?_
    go_wp2
    go_ret
    exact ⟨rfl, sb⟩
   ·have hre := hyes (by omega)
    clear hyes hfew
    (repeat ((fail_if_success with_reducible refine rg ?_); go_step))
    refine wp_region_pw ?_
    refine pw_mv (by rfl) rfl rfl ?_
    refine pw_mv (by rfl) rfl rfl ?_
    simp only [Act.put, pu]
    refine pw_value (by rfl) (.int .i64 n) (exec_len_s 22 _ rfl (ab) (n) (c) rfl sl_natsX) ?_
    simp only [Act.put, pu]
    refine pw_value (by rfl) (.int .i64 ((n - 1 : Nat) : Int)) ((fun w' => (exec_sub_in _ _ _ _ rfl n 1 rfl rfl (by omega) (by omega) w'))) ?_
    refine pw_mv (by rfl) rfl rfl ?_
    simp only [Act.put, pu]
    refine pw_callE (by rfl) 11 _ _ rfl Try.func11 (by kernel_rfl) #[.pointer (some ⟨g, 0, none⟩), .int .i64 ((n - 1 : Nat) : Int), .slice ap M cp] rfl (hre g gr gf _ ap cp gp cur hcp (⟨rG, rR, rF⟩ : GrpAt _ g gr gf PP QQ GG) hpe) ?_
    rintro _ z13005 ⟨vf, rfl, hf, hb⟩
    refine ⟨_, rfl, ?_⟩
    simp only [Act.put, pu]
    have k := Kept.ofBelow hb
    clear hb
    replace rG := k.row rG (by simp <;> omega)
    replace rR := k.row rR (by simp <;> omega)
    replace rF := k.row rF (by simp <;> omega)
    replace rL := k.row rL (by simp <;> omega)
    replace hpe := hpe.below k.nil
    replace sb := sb.trans (k.below w.heap.size sb.size (by simp <;> omega))
    clear k
    refine pw_mv (by rfl) rfl rfl ?_
    refine pw_ext (by rfl) rfl rfl rfl ?_
    refine pw_ext (by rfl) rfl rfl rfl ?_
    refine pw_as (by rfl) rfl rfl ?_
    refine pw_as (by rfl) rfl rfl ?_
    simp only [Act.put, pu]
    refine pw_nil ?_
    clear hpe hre
    obtain ⟨TL, hTL⟩ : ∃ TL, TT.length = TL := ⟨_, rfl⟩
    rw [hTL] at hTl
    obtain ⟨av, cv, rfl⟩ : ∃ av cv, vf = .slice av TL cv := by
     obtain ⟨av, cv, _, _, _, _, e, _⟩ := hf
     rw [hTL] at e
     exact ⟨av, cv, e⟩
    clear hTL
    (repeat ((fail_if_success with_reducible refine rg ?_); go_step))
    refine wp_region_pw ?_
    refine pw_mv (by rfl) rfl rfl ?_
    simp only [Act.put, pu]
    refine pw_value (by rfl) (.int .i64 M) (exec_len_s 36 _ rfl (ap) (M) (cp) rfl sl_shs) ?_
    refine pw_mv (by rfl) rfl rfl ?_
    simp only [Act.put, pu]
    refine pw_value (by rfl) (.int .i64 n) (exec_len_s 22 _ rfl (ab) (n) (c) rfl sl_natsX) ?_
    simp only [Act.put, pu]
    refine pw_value (by rfl) (.bool false) (exec_lt_b _ _ _ _ rfl M n rfl rfl false (decide_eq_false (by omega))) ?_
    simp only [Act.put, pu]
    refine pw_nil ?_
    (repeat ((fail_if_success with_reducible refine rg ?_); go_step))
    refine wp_region_pw ?_
    refine pw_mv (by rfl) rfl rfl ?_
    refine pw_mv (by rfl) rfl rfl ?_
    simp only [Act.put, pu]
    refine pw_callE (by rfl) 10 _ _ rfl Try.func10 (by kernel_rfl) #[.pointer (some ⟨g, 0, none⟩), .slice av TL cv, .int .i64 7] rfl (hde2 g gr gf _ _ (⟨rG, rR, rF⟩ : GrpAt _ g gr gf PP QQ GG) hf) ?_
    rintro _ z16002 ⟨gK, rfl, nK, rK, hb⟩
    refine ⟨_, rfl, ?_⟩
    simp only [Act.put, pu]
    have dGxK := Nat.lt_of_lt_of_le rG.lt nK
    have dRxK := Nat.lt_of_lt_of_le rR.lt nK
    have dFxK := Nat.lt_of_lt_of_le rF.lt nK
    have dLxK := Nat.lt_of_lt_of_le rL.lt nK
    have bK := Nat.le_trans sb.size nK
    clear nK
    have k := Kept.ofBelow hb
    clear hb
    replace rG := k.row rG (by simp <;> omega)
    replace rR := k.row rR (by simp <;> omega)
    replace rF := k.row rF (by simp <;> omega)
    replace rL := k.row rL (by simp <;> omega)
    replace hf := hf.below k.nil
    replace sb := sb.trans (k.below w.heap.size sb.size (by simp <;> omega))
    clear k
    refine pw_mv (by rfl) rfl rfl ?_
    refine pw_ext (by rfl) rfl rfl rfl ?_
    refine pw_ext (by rfl) rfl rfl rfl ?_
    refine pw_as (by rfl) rfl rfl ?_
    refine pw_as (by rfl) rfl rfl ?_
    simp only [Act.put, pu]
    refine pw_nil ?_
    clear hde2 hf
    (repeat ((fail_if_success with_reducible refine rg ?_); go_step))
    refine wp_region_pw ?_
    refine pw_mv (by rfl) rfl rfl ?_
    simp only [Act.put, pu]
    refine pw_value (by rfl) (.bool true) (exec_eql_k .i64 _ _ _ _ rfl 0 0 rfl rfl true rfl) ?_
    refine pw_mv (by rfl) rfl rfl ?_
    refine pw_mv (by rfl) rfl rfl ?_
    simp only [Act.put, pu]
    refine pw_value (by rfl) (.bool true) (exec_eql_k .i64 _ _ _ _ rfl 0 0 rfl rfl true rfl) ?_
    simp only [Act.put, pu]
    refine pw_pick (by rfl) true (v := .bool true) rfl rfl rfl ?_
    refine pw_mv (by rfl) rfl rfl ?_
    refine pw_mv (by rfl) rfl rfl ?_
    refine pw_mv (by rfl) rfl rfl ?_
    simp only [Act.put, pu]
    refine pw_callB (by rfl) 12 _ _ rfl Try.func12 (by kernel_rfl) #[.slice (some ⟨gK, 0, none⟩) 7 7, .slice (some ⟨gL, 0, none⟩) 7 7] rfl _ (hsa _ gK gL rK rL) ?_
    intro z17009 k
    simp only [Act.put, pu]
    replace rL := k.row rL (by simp <;> omega)
    replace rK := k.row rK (by simp <;> omega)
    replace sb := sb.trans (k.below w.heap.size sb.size (by simp <;> omega))
    clear k
    refine pw_pick (by rfl) true (v := .bool true) rfl rfl rfl ?_
    refine pw_mv (by rfl) rfl rfl ?_
    refine pw_mv (by rfl) rfl rfl ?_
    simp only [Act.put, pu]
    refine pw_value (by rfl) (.int .i64 TL) (exec_len_s 22 _ rfl (av) (TL) (cv) rfl sl_natsX) ?_
    refine pw_mv (by rfl) rfl rfl ?_
    simp only [Act.put, pu]
    refine pw_value (by rfl) (.int .i64 n) (exec_len_s 22 _ rfl (ab) (n) (c) rfl sl_natsX) ?_
    simp only [Act.put, pu]
    refine pw_value (by rfl) (.bool true) (exec_leq_i _ _ _ _ rfl TL n rfl rfl true (decide_eq_true (by omega))) ?_
    simp only [Act.put, pu]
    refine pw_pick (by rfl) true (v := .bool true) rfl rfl rfl ?_
    refine pw_mv (by rfl) rfl rfl ?_
    simp only [Act.put, pu]
    refine pw_callB (by rfl) 5 _ _ rfl Try.func5 (by kernel_rfl) #[] rfl _ (haw _) ?_
    intro z17019 k
    simp only [Act.put, pu]
    replace rL := k.row rL (by simp <;> omega)
    replace rK := k.row rK (by simp <;> omega)
    replace sb := sb.trans (k.below w.heap.size sb.size (by simp <;> omega))
    clear k
    refine pw_pick (by rfl) true (v := .bool true) rfl rfl rfl ?_
    refine pw_as (by rfl) rfl rfl ?_
    simp only [Act.put, pu]
    refine pw_nil ?_
    go_wp2
    go_ret
    exact ⟨rfl, sb⟩
  | succ y =>
   have hlt : i < 7 := by omega
   have hbi := bt_is a2 i
   clear hfew hyes hde2 hsa haw
   (repeat ((fail_if_success with_reducible refine rg ?_); go_step))
   refine wp_region_pw ?_
   refine pw_mv (by rfl) rfl rfl ?_
   simp only [Act.put, pu]
   refine pw_value (by rfl) (.bool true) (exec_lt_b _ _ _ _ rfl i 7 rfl rfl true (decide_eq_true (by omega))) ?_
   refine pw_mv (by rfl) rfl rfl ?_
   refine pw_mv (by rfl) rfl rfl ?_
   refine pw_mv (by rfl) rfl rfl ?_
   simp only [Act.put, pu]
   refine pw_value (by rfl) (.int .i64 7) (exec_len_s 36 _ rfl (some ⟨gL, 0, none⟩) (7) (7) rfl sl_shs) ?_
   simp only [Act.put, pu]
   refine pw_value (by rfl) (.bool true) (exec_lt_b _ _ _ _ rfl i 7 rfl rfl true (decide_eq_true (by omega))) ?_
   simp only [Act.put, pu]
   refine pw_pick (by rfl) true (v := .bool true) rfl rfl rfl ?_
   simp only [Act.put, pu]
   refine pw_nil ?_
   (repeat ((fail_if_success with_reducible refine rg ?_); go_step))
   refine wp_region_pw ?_
   refine pw_mv (by rfl) rfl rfl ?_
   refine pw_mv (by rfl) rfl rfl ?_
   simp only [Act.put, pu]
   refine pw_value (by rfl) (.int .i64 (a2 / 2 ^ i)) (exec_shr_z _ _ _ _ rfl a2 i rfl rfl (by omega)) ?_
   simp only [Act.put, pu]
   refine pw_value (by rfl) (.int .i64 (ly1 (a2 / 2 ^ i) : Nat)) (fun w' => (exec_bits_i .and _ _ _ _ (.inl rfl) rfl (a2 / 2 ^ i) 1 rfl rfl w').trans (by rw [and_ly1])) ?_
   simp only [Act.put, pu]
   refine pw_value (by rfl) (.bool (bt a2 i)) (exec_eql_k .i64 _ _ _ _ rfl (ly1 (a2 / 2 ^ i) : Nat) 1 rfl rfl _ hbi) ?_
   simp only [Act.put, pu]
   refine pw_nil ?_
   clear hbi
   cases hb : bt a2 i with
   | true =>
    have hli := HLi.out i hlt hb
    have hcn : cnB (bt a2) i ≤ 1000000 := Nat.le_trans (cnB_le _ _) (by omega)
    have hnx : cnB (bt a2) (i + 1) = cnB (bt a2) i + 1 := by
     show cnB (bt a2) i + (if bt a2 i then 1 else 0) = _
     rw [hb]; rfl
    (repeat ((fail_if_success with_reducible refine rg ?_); go_step))
    refine wp_region_pw ?_
    refine pw_mv (by rfl) rfl rfl ?_
    refine pw_mv (by rfl) rfl rfl ?_
    refine pw_mv (by rfl) rfl rfl ?_
    simp only [Act.put, pu]
    refine pw_value (by rfl) (.pointer (some ⟨gL, 0 + i * 5, none⟩)) ((exec_index_s 36 _ _ rfl gL 0 (7) (7) rfl (i) rfl (hlt) _ Try.underlying36 5 size_sh5)) ?_
    simp only [Act.put, pu]
    refine pw_loadm (by rfl) 40 _ rfl _ (0 + i * 5) rfl rL.r (shC ((i + 1 : Nat) : Int) (YY i)) (esC_part HSZ.out i hlt (0 + i * 5) (by omega)) _ Try.underlying40 rfl size_sh ?_
    simp only [Act.put, pu]
    refine pw_litr (by rfl) 36 40 1 _ rfl (CC (cnB (bt a2) i)) ie _ Try.underlying36 hie hz hs1 hs2 [(0, .agg (shC ((i + 1 : Nat) : Int) (YY i)))] rfl hli ?_
    intro gA z12005 n0 rA k
    simp only [Act.put, pu]
    have dGxA := Nat.lt_of_lt_of_le rG.lt n0
    have dRxA := Nat.lt_of_lt_of_le rR.lt n0
    have dFxA := Nat.lt_of_lt_of_le rF.lt n0
    have dLxA := Nat.lt_of_lt_of_le rL.lt n0
    have ehPxA := hP.new n0
    have bA := Nat.le_trans sb.size n0
    clear n0
    replace rG := k.row rG (by simp <;> omega)
    replace rR := k.row rR (by simp <;> omega)
    replace rF := k.row rF (by simp <;> omega)
    replace rL := k.row rL (by simp <;> omega)
    replace hP := hP.on k (own_ne0 _)
    replace sb := sb.trans (k.below w.heap.size sb.size (by simp <;> omega))
    clear k
    refine pw_appE (by rfl) _ _ (36) rfl (w.heap.size) 40 ie _ 5 40 Try.underlying36 hie hz hsz hby rfl (by decide) (by decide) (_) (cnB (bt a2) i) (CC) (HC5.out) rfl hP gA _ rfl rA (HCo.out _) (hcn) sb.size ?_
    have h0 := hP
    clear hP
    intro v1 z12006 hP k hp
    simp only [Act.put, pu]
    have crG := rG.lt
    replace rG := k.row rG (by first | exact own_nin ehPxG | exact own_nin (h0.low (by omega)))
    have crR := rR.lt
    replace rR := k.row rR (by first | exact own_nin ehPxR | exact own_nin (h0.low (by omega)))
    have crF := rF.lt
    replace rF := k.row rF (by first | exact own_nin ehPxF | exact own_nin (h0.low (by omega)))
    have crL := rL.lt
    replace rL := k.row rL (by first | exact own_nin ehPxL | exact own_nin (h0.low (by omega)))
    (try replace ehPxG := own_apart hp crG ehPxG)
    clear crG
    (try replace ehPxR := own_apart hp crR ehPxR)
    clear crR
    (try replace ehPxF := own_apart hp crF ehPxF)
    clear crF
    (try replace ehPxL := own_apart hp crL ehPxL)
    clear crL
    clear hp
    replace sb := sb.trans (k.below w.heap.size sb.size h0.base)
    clear h0
    clear k
    refine pw_as (by rfl) rfl rfl ?_
    simp only [Act.put, pu]
    refine pw_nil ?_
    rw [← hnx] at hP
    (repeat ((fail_if_success with_reducible refine rg ?_); go_step))
    refine wp_region_pw ?_
    refine pw_mv (by rfl) rfl rfl ?_
    simp only [Act.put, pu]
    refine pw_value (by rfl) (.int .i64 ((i + 1 : Nat) : Int)) (exec_add_in _ _ _ _ rfl i 1 rfl rfl (by omega)) ?_
    refine pw_as (by rfl) rfl rfl ?_
    simp only [Act.put, pu]
    refine pw_nil ?_
    go_wp2
    go_roundg y
    case measure => omega
    case rel => exact ⟨i + 1, by omega, rfl, hP, ehPxG, ehPxR, ehPxF, ehPxL, ⟨rG, rR, rF⟩, rL, sb⟩
   | false =>
    have hnx : cnB (bt a2) (i + 1) = cnB (bt a2) i := by
     show cnB (bt a2) i + (if bt a2 i then 1 else 0) = _
     rw [hb]; rfl
    rw [← hnx] at hP
    (repeat ((fail_if_success with_reducible refine rg ?_); go_step))
    refine wp_region_pw ?_
    refine pw_mv (by rfl) rfl rfl ?_
    simp only [Act.put, pu]
    refine pw_value (by rfl) (.int .i64 ((i + 1 : Nat) : Int)) (exec_add_in _ _ _ _ rfl i 1 rfl rfl (by omega)) ?_
    refine pw_as (by rfl) rfl rfl ?_
    simp only [Act.put, pu]
    refine pw_nil ?_
    go_wp2
    go_roundg y
    case measure => omega
    case rel => exact ⟨i + 1, by omega, rfl, hP, ehPxG, ehPxR, ehPxF, ehPxL, ⟨rG, rR, rF⟩, rL, sb⟩
theorem walk (a0 : Int) (ab : Option Addr) (n c : Nat) (F : Nat → Nat) (gb ob : Nat) (bcs : Array Value) (tb : TypeId) (a2 : Int) (w : World) (_ : -9223372036854775808 ≤ a0 ∧ a0 ≤ 9223372036854775807) (hna : NatsAt w ab n F gb ob bcs tb) (_ : -9223372036854775808 ≤ a2 ∧ a2 ≤ 9223372036854775807) :
  Calls Try.prog 3 #[.int .i64 a0, .slice ab n c, .int .i64 a2] w fun e w' => e = .returned (.bool true) ∧ Below w.heap.size w w' := by
 by_cases h : n < 1 ∨ 7 < n
 ·exact core0 a0 a2 n c ab w h
 obtain ⟨his, hlt, hG, h2, h63, hL⟩ := pk_gr (ly8 a0 % 3)
 have pQ := (grN_primes his).2
 have hQ := hlt (pk (ly8 a0 % 3) 3 3 5 - 2) (by omega)
 have hbig := pk_big (ly8 a0 % 3)
 have q : FdQ (lN (pk (ly8 a0 % 3) leL otL grL) (pk (ly8 a0 % 3) 3 3 5 - 2)) := ⟨⟨by omega, isP_odd pQ (by omega), pQ.1⟩, pQ⟩
 haveI : NeZero (lN (pk (ly8 a0 % 3) leL otL grL) (pk (ly8 a0 % 3) 3 3 5 - 2)) := ⟨by omega⟩
 have hnw := fun w' x r => gnew_yes (pk (ly8 a0 % 3) 3 3 5) (pk (ly8 a0 % 3) 3 3 5) (some ⟨x, 0, none⟩) (pk (ly8 a0 % 3) leG otG grG) (lN (pk (ly8 a0 % 3) leL otL grL)) _ x 0 _ _ w' h63 hG (lks_links (hL ▸ r) hlt) his
 generalize hQQ : lN (pk (ly8 a0 % 3) leL otL grL) (pk (ly8 a0 % 3) 3 3 5 - 2) = QQ at *
 obtain ⟨LL, hLL⟩ : ∃ LL : List (Fin QQ), fl n F = LL := ⟨_, rfl⟩
 have hll : LL.length = n := by rw [← hLL]; exact fl_length _ _
 obtain ⟨S, hS⟩ : ∃ S : Nat → Nat, ∀ k, S k = (sqL (bt a2) 7).getD k 0 := ⟨_, fun _ => rfl⟩
 obtain ⟨M, hM⟩ : ∃ M, cnB (bt a2) 7 = M := ⟨_, rfl⟩
 have hM7 : M ≤ 7 := by rw [← hM]; exact cnB_le _ _
 have hlM : (sqL (bt a2) 7).length = M := by rw [sqL_len, hM]
 have hS7 : ∀ k, k < M → S k < 7 := fun k hk => by rw [hS]; exact sqL_lt _ _ _ (by omega)
 have hSi : ∀ k l, k < l → l < M → S k < S l := fun k l hkl hl => by rw [hS, hS]; exact sqL_inc _ _ _ _ hkl (by omega)
 have hSn : ∀ i j, i < M → j < M → i ≠ j → S i ≠ S j := fun i j hi hj hne e => by
  rcases Nat.lt_or_gt_of_ne hne with h1 | h1
  ·have := hSi i j h1 hj; omega
  ·have := hSi j i h1 hi; omega
 have hap : apB 1 (fun k => ((S k + 1 : Nat) : Int)) M = true := (apB_iff _ _ _).2 ⟨fun k hk => ⟨by omega, by have := hS7 k hk; omega⟩, fun j k hjk hk e => by have := hSi j k hjk hk; omega⟩
 have hdd : ∀ i j, i < M → j < M → i ≠ j → (fi (S i + 1) : Fin QQ) ≠ fi (S j + 1) := fun i j hi hj hne e => by
  have h1 := hS7 i hi
  have h2 := hS7 j hj
  have := fi_inj e (by omega) (by omega)
  exact hSn i j hi hj hne (by omega)
 have hYl : ∀ k, (pev (fi (k + 1)) LL).val < 2 ^ 256 := fun k => Nat.lt_trans (pev (fi (k + 1)) LL).isLt q.m
 refine core1 a0 a2 (ly8 a0) (ly8 a0 % 3) (pk (ly8 a0 % 3) leG otG grG) _ QQ 3 3 5 leG otG grG _ _ _ n c M ab S (fun k => (pev (fi (k + 1)) LL).val) (ptrim LL) w (and_ly8 a0) rfl (by omega) (by omega) (fun i hi hb => by rw [hS]; exact sqL_at _ _ _ hb hi) hM (by have := ptrim_le LL; omega)
  (fun g gr gf w' hb hg => ?_) (fun hmn g gr gf w' ap cp gp cur hg hp => ?_) (fun hmn g gr gf w' ap cp gp cur hcp hg hp => ?_) (fun g gr gf w' vf hg hf => ?_) rleast_any rother_any rgreat_any hnw
 ·have := deal_any (.slice ab n c) LL 7 (by decide) (by decide) q hg (hLL ▸ (hna.below hb).pl (by omega))
  exact this
 ·exact rec_few (n - 1) M cp ap (fun k => ((S k + 1 : Nat) : Int)) (fun k => (pev (fi (S k + 1)) LL).val) gp 0 cur _ (by omega) (by omega) hp hg hap (by omega)
 ·have hT : tTh ivF (fun i => (fi (S i + 1) : Fin QQ)) (fun i => (fi (pev (fi (S i + 1)) LL).val : Fin QQ)) (n - 1 + 1) = ptrim LL := by
   rw [show n - 1 + 1 = n by omega, tTh_is q.pr ivF (ivF_is q) _ _ n (fun i j hi hj => hdd i j (by omega) (by omega))]
   exact (pthr_unique q.pr ivF (ivF_is q) (fun i => (fi (S i + 1) : Fin QQ)) (fun i => (fi (pev (fi (S i + 1)) LL).val : Fin QQ)) n (fun i j hi hj => hdd i j (by omega) (by omega)) LL (by omega) (fun j hj => (fi_of _).symm)).symm
  have := rec_yes (n - 1) M cp ap (fun k => S k + 1) (fun k => (pev (fi (S k + 1)) LL).val) gp 0 cur _ (by omega) (by omega) hcp (by omega) q (fun k hk => by have := hS7 k hk; show S k + 1 < 1000; omega) (fun k hk => hYl _) hdd hp hg hap (by
   rw [hT]
   rw [Bool.eq_false_iff]
   intro hh
   obtain ⟨k, _, hk⟩ := (anB_iff _ _).1 hh
   rw [pev_ptrim] at hk
   simp at hk)
  rw [hT] at this
  exact this
 ·have := deal_any vf (ptrim LL) 7 (by decide) (by decide) q hg (hf.arg (by have := ptrim_le LL; omega))
  simp only [pev_ptrim] at this
  exact this
set_option maxRecDepth 100000 in
theorem lifted (os : Os) (started : os.Started) (H : Type) (enc : TypeId × Value → H) :
  ReturnsInHanded {} Try.checked os 3 .any (Rows.shareBackSpec.pre6 enc Try.prog Try.f3 Rows.shareBackRow.domain false) (Rows.shareBackSpec.post enc Try.prog Try.f3 false true false false) := by
 refine returnsInHanded_of_change (C := Try.checked) own started (by kernel_rfl) Try.func3
  (ChangeSpec.witness6 (enc := enc) (C := Try.checked) false ⟨#[], #[.int .i64 0, .slice none 0 0, .int .i64 0], []⟩ 8 (by kernel_rfl) (by kernel_rfl) (by kernel_rfl) (by kernel_rfl)) ?_
 intro W base args ds gs before hval0 hW hcnd _
 have hval : ∀ (j : Nat) t v, Try.f3.params[j]? = some t → args[j]? = some v → Value.okWide Try.prog W .any base t v := hval0
 have hW' := hW
 obtain ⟨p, q, hA0, hV, rfl, hfz, hnd⟩ := hW
 have hA : DataW.TrodAll enc Try.prog W 0 (fun _ => true) true Try.f3.params.toList args.toList ds p := hA0
 rw [Try.params3] at hA hval
 obtain ⟨v0, vs0, d0, ds0, p0, q0, hargs, rfl, rfl, h0, r0⟩ := trodAll_cons hA
 obtain ⟨v1, vs1, d1, ds1, p1, q1, rfl, rfl, rfl, h1, r1⟩ := trodAll_cons r0
 obtain ⟨v2, vs2, d2, ds2, p2, q2, rfl, rfl, rfl, h2, r2⟩ := trodAll_cons r1
 obtain ⟨rfl, rfl, rfl⟩ := trodAll_nil r2
 obtain rfl : args = #[v0, v1, v2] := by cases args; simp_all
 obtain ⟨rfl, rfl⟩ := trodVars_none hV
 have k0 := h0
 have lt0 := lt_of_trod h0
 obtain ⟨a0, rfl, rfl, rfl, w0⟩ := open_int Try.underlying3 (hval 0 3 v0 rfl rfl) h0
 have k1 := h1
 have lt1 := lt_of_trod h1
 obtain ⟨ab1, n1, c1, F1, gb1, ob1, bcs1, tb1, rfl, _, _, hn1⟩ := open_nats (hval 1 22 v1 rfl rfl) h1
 have k2 := h2
 have lt2 := lt_of_trod h2
 obtain ⟨a2, rfl, rfl, rfl, w2⟩ := open_int Try.underlying3 (hval 2 3 v2 rfl rfl) h2
 clear hA0 hval0
 refine (walk a0 ab1 n1 c1 F1 gb1 ob1 bcs1 tb1 a2 W (bounds_i64 w0) hn1 (bounds_i64 w2)).mono fun e W' ⟨he, bel⟩ => ?_
 subst he
 exact ⟨_, rfl, _, _, _, [], _, [], hW', trodAll_mk1 (shut_bool Try.underlying4 _), (trodAll_cons_mk (Below.trod laidOut (by kernel_rfl) (of_decide_eq_true (by kernel_rfl)) k0 bel lt0) (trodAll_cons_mk (Below.trod laidOut (by kernel_rfl) (of_decide_eq_true (by kernel_rfl)) k1 bel lt1) (trodAll_cons_mk (Below.trod laidOut (by kernel_rfl) (of_decide_eq_true (by kernel_rfl)) k2 bel lt2) trodAll_mk0))), rfl, bel.frame _, fun h => by cases h⟩
theorem over : Rows.shareBackRow.holds Try.pinned (OpenSpec.ofChange Rows.shareBackSpec) :=
 OpenClaim.holds_of_wide 3 Try.f3 rfl rfl rfl rfl rfl rfl rfl ⟨rfl, rfl, rfl, rfl, rfl⟩ rfl rfl rfl rfl rfl (by kernel_rfl) Try.func3 (by kernel_rfl)
  (of_decide_eq_true (by kernel_rfl)) (by unfold Func.isWrapper; first | (rw [if_pos (by decide +kernel)]; kernel_rfl) | (rw [if_neg (by decide +kernel)]; exact ⟨rfl, rfl⟩))
  (fun os started H enc _ => lifted os started H enc)
end shareBackP
/-- for every number, list of naturals and number: in one of the three groups, of a list of 1 to 7, of whichever of the seven shares the polynomial comes back, if they are enough, and an error, if they are not; no condition. -/
theorem shareBack_holds : Rows.ShareBackSaid := shareBackP.over
end Go.Proofs.Ytfhgdgnhcmakhaa
