/- The law FrameLong of layer 19 holds for every input: bodies of up to 2^13 bytes are sealed, put and taken, longer ones refused. No condition (the constants are tied to the program's text). -/
import Derived.Test.YtdanmnhknmepiaaDoorFrOpen
import Derived.Test.YtdanmnhknmepiaaDoorFrAwake
namespace Go.Proofs.YtdanmnhknmepiaaDoor.frameLongP
open Go.ChangeShapes Go.WideShapes Go.ChangeAt Go.RowKit
open Go.ChangeMaps (open_string shut_string)
set_option linter.unusedVariables false
def by3 (x : Int) : Nat := (x % 8).toNat
theorem by3_lt (x : Int) : by3 x < 8 := by unfold by3; omega
theorem i64_and7 (x : Int) : bits .and .i64 x 7 = ((by3 x : Nat) : Int) := by
 show IntKind.i64.wrap ((BitVec.ofInt 64 x &&& BitVec.ofInt 64 7).toNat : Int) = _
 have h7 : (BitVec.ofInt 64 7).toNat = 2 ^ 3 - 1 := by decide
 rw [BitVec.toNat_and, h7, Nat.and_two_pow_sub_one_eq_mod, BitVec.toNat_ofInt]
 have e : (x % ((2 ^ 64 : Nat) : Int)).toNat % 2 ^ 3 = by3 x := by
  unfold by3
  omega
 rw [e]
 exact wrap_i64 _ (by have := by3_lt x; omega)
theorem x_and7 {P : Program} {o : Oper} {ρ : Operand → Value} (t : TypeId) (x y : Operand) (u : TypeId) (ho : o.op = .binOp .and t x y u) (n : Int) (hx : ρ x = .int .i64 n) (hy : ρ y = .int .i64 7) (w : World) :
  (execOp ρ o).run P w = .ok (.value (.int .i64 ((by3 n : Nat) : Int))) w := by
 unfold execOp
 simp only [ho, hx, hy]
 simp [go_sem]
 exact i64_and7 n
section
variable {ops : Array Oper} {Q : Exit → Act → World → Prop} {rest : List Oper} {o : Oper} {a : Act} {w : World}
theorem pw_makeB (hw : Region.wanted o (yielded ops a.tmps) = true) (x y : Operand) (ho : o.op = .makeSlice 35 x y) (m : Nat) (hx : a.eval x = .int .i64 m) (hy : a.eval y = .int .i64 m) (hm : m ≤ 16777216)
  (h : ∀ g w', w.heap.size ≤ g → Row w' g (rC .u8 m fun _ => 0) 5 → Kept [] w w' → PW Tryd.prog ops Q rest (a.put o.dst (.slice (some ⟨g, 0, none⟩) m m)) w') : PW Tryd.prog ops Q (o :: rest) a w := by
 obtain ⟨i, h1, h2, h3, h4⟩ := sinfo_b8
 refine pw_make hw 35 5 x y ho i (.int .u8 0) Tryd.underlying35 h1 h2 m hx hy (by rw [h3]; omega) (by rw [h4]; omega) (by omega) (fun g w' hg hr hk => h g w' hg ?_ hk)
 rw [h3, Nat.mul_one, show (Value.int IntKind.u8 0).cells = #[.int .u8 0] from rfl, made_b8] at hr
 exact hr
end
theorem cells_zs (n : Nat) : ∀ j, j < (List.replicate n (0 : UInt8)).length → (rC .u8 n fun _ => 0)[0 + j]? = some (.int .u8 (bf (List.replicate n (0 : UInt8)) j : Nat)) := by
 intro j hj
 rw [List.length_replicate] at hj
 rw [Nat.zero_add, rC_get _ _ _ _ hj]
 unfold bf
 rw [List.getD_eq_getElem?_getD, List.getElem?_replicate, if_pos hj]
 rfl
set_option maxRecDepth 100000 in
set_option maxHeartbeats 2000000 in
theorem big (x : Int) (n : Nat) (Z : List UInt8) (w : World) (kT : KT w) (hx : 8188 + by3 x = n) (hZ : List.replicate n 0 = Z) (hl : Z.length = n) (h : 8192 < n) :
  Calls Tryd.prog 6 #[.int .i64 x] w fun e w' => e = .returned (.bool true) ∧ Below w.heap.size w w' := by
 have hb3 := by3_lt x
 have hcz : ∀ j, j < Z.length → (rC .u8 n fun _ => 0)[0 + j]? = some (.int .u8 (bf Z j : Nat)) := by rw [← hZ]; exact cells_zs n
 clear hZ
 have hn : ((8188 + by3 x : Nat) : Int) = (n : Int) := by rw [hx]
 have hn1 : n ≤ 8195 := by omega
 go_enter Tryd.func6, Tryd.ntmps6
 (repeat ((fail_if_success with_reducible refine rg ?_); go_step))
 refine wp_region_pw ?_
 refine pw_value (by rfl) (.bool false) (fun _ => rfl) ?_
 simp only [Act.put, pu]
 refine pw_nil ?_
 have sb := Below.refl w.heap.size w
 (repeat ((fail_if_success with_reducible refine rg ?_); go_step))
 refine wp_region_pw ?_
 refine pw_mv (by rfl) rfl rfl ?_
 simp only [Act.put, pu]
 refine pw_value (by rfl) (.int .i64 (by3 x : Nat)) (x_and7 _ _ _ _ rfl x rfl rfl) ?_
 simp only [Act.put, pu]
 refine pw_value (by rfl) (.int .i64 (n : Nat)) (fun w' => (xi_add _ _ _ _ rfl 8188 (by3 x) rfl rfl (by omega) w').trans (by rw [hn])) ?_
 simp only [Act.put, pu]
 refine pw_as (by rfl) rfl rfl ?_
 simp only [Act.put, pu]
 refine pw_nil ?_
 clear hx hn
 (repeat ((fail_if_success with_reducible refine rg ?_); go_step))
 refine wp_region_pw ?_
 refine pw_mv (by rfl) rfl rfl ?_
 simp only [Act.put, pu]
 refine pw_makeB (by rfl) _ _ rfl n rfl rfl (by omega) ?_
 intro g19 z2001 n0 r19 k
 simp only [Act.put, pu]
 have b19 := Nat.le_trans sb.size n0
 clear n0
 replace sb := sb.trans (k.below w.heap.size sb.size (by simp <;> omega))
 clear k
 refine pw_run (by rfl) (.string ⟨Z.toArray⟩) _ (x_str _ rfl g19 0 n n Z rfl hl _ r19.r hcz) ?_
 simp only [Act.put, pu]
 refine pw_as (by rfl) rfl rfl ?_
 simp only [Act.put, pu]
 refine pw_nil ?_
 (repeat ((fail_if_success with_reducible refine rg ?_); go_step))
 refine wp_region_pw ?_
 refine pw_mv (by rfl) rfl rfl ?_
 simp only [Act.put, pu]
 refine pw_callB (by rfl) 8 _ _ rfl Tryd.func8 (by kernel_rfl) #[.string ⟨#[115]⟩, .int .i64 3, .int .i64 4, .string ⟨Z.toArray⟩] rfl _ (seal_long [115] Z 3 4 _ rfl (by omega)) ?_
 intro z3001 k
 simp only [Act.put, pu]
 replace sb := sb.trans (k.below w.heap.size sb.size (by simp <;> omega))
 clear k
 refine pw_mv (by rfl) rfl rfl ?_
 simp only [Act.put, pu]
 refine pw_ext (by rfl) rfl rfl rfl ?_
 simp only [Act.put, pu]
 refine pw_ext (by rfl) rfl rfl rfl ?_
 simp only [Act.put, pu]
 refine pw_new (by rfl) 25 rfl _ zero_fr ?_
 intro g5 z3005 n0 r5 k
 simp only [Act.put, pu]
 have b5 := Nat.le_trans sb.size n0
 clear n0
 replace sb := sb.trans (k.below w.heap.size sb.size (by simp <;> omega))
 clear k
 refine pw_put (by rfl) 25 _ _ rfl _ rfl r5 (frC 0 0 [] []) rfl (by exact size_fr) (by rfl) (fr_one _ _ _ _) ?_
 clear r5
 intro z3006 r5 k
 simp only [Act.put]
 replace sb := sb.trans (k.below w.heap.size sb.size (by simp <;> omega))
 clear k
 refine pw_as (by rfl) rfl rfl ?_
 simp only [Act.put, pu]
 refine pw_nil ?_
 (repeat ((fail_if_success with_reducible refine rg ?_); go_step))
 refine wp_region_pw ?_
 refine pw_mv (by rfl) rfl rfl ?_
 simp only [Act.put, pu]
 refine pw_value (by rfl) (.bool true) (x_gt _ _ _ _ rfl (n : Nat) 8192 rfl rfl true (decide_eq_true (by omega))) ?_
 simp only [Act.put, pu]
 refine pw_nil ?_
 (repeat ((fail_if_success with_reducible refine rg ?_); go_step))
 refine wp_region_pw ?_
 refine pw_mv (by rfl) rfl rfl ?_
 simp only [Act.put, pu]
 refine pw_makeB (by rfl) _ _ rfl 32 rfl rfl (by decide) ?_
 intro g30 z5001 n0 r30 k
 simp only [Act.put, pu]
 have d5x30 := Nat.lt_of_lt_of_le r5.lt n0
 have b30 := Nat.le_trans sb.size n0
 clear n0
 replace r5 := k.row r5 (by simp <;> omega)
 replace sb := sb.trans (k.below w.heap.size sb.size (by simp <;> omega))
 clear k
 refine pw_run (by rfl) (.string ⟨(List.replicate 32 (0 : UInt8)).toArray⟩) _ (x_str _ rfl g30 0 32 32 (List.replicate 32 (0 : UInt8)) rfl List.length_replicate _ r30.r (cells_zs 32)) ?_
 simp only [Act.put, pu]
 refine pw_value (by rfl) (.agg (frC 3 4 Z (List.replicate 32 0))) (exec_buildv _ [(0, _), (1, _), (2, _), (3, _)] rfl [(0, .int .i64 3), (1, .int .i64 4), (2, .string ⟨Z.toArray⟩), (3, .string ⟨(List.replicate 32 0).toArray⟩)] rfl _ (built_fr _ _ _ _)) ?_
 simp only [Act.put, pu]
 refine pw_callB (by rfl) 12 _ _ rfl Tryd.func12 (by kernel_rfl) #[.agg (frC 3 4 Z (List.replicate 32 0))] rfl _ (fby_long Z (List.replicate 32 0) 3 4 _ rfl List.length_replicate (by omega)) ?_
 intro z5004 k
 simp only [Act.put, pu]
 replace r5 := k.row r5 (by simp <;> omega)
 replace r30 := k.row r30 (by simp <;> omega)
 replace sb := sb.trans (k.below w.heap.size sb.size (by simp <;> omega))
 clear k
 refine pw_mv (by rfl) rfl rfl ?_
 simp only [Act.put, pu]
 refine pw_ext (by rfl) rfl rfl rfl ?_
 simp only [Act.put, pu]
 refine pw_ext (by rfl) rfl rfl rfl ?_
 simp only [Act.put, pu]
 refine pw_as (by rfl) rfl rfl ?_
 simp only [Act.put, pu]
 refine pw_as (by rfl) rfl rfl ?_
 simp only [Act.put, pu]
 refine pw_nil ?_
 (repeat ((fail_if_success with_reducible refine rg ?_); go_step))
 refine wp_region_pw ?_
 refine pw_makeB (by rfl) _ _ rfl 32 rfl rfl (by decide) ?_
 intro g37 z6000 n0 r37 k
 simp only [Act.put, pu]
 have d5x37 := Nat.lt_of_lt_of_le r5.lt n0
 have b37 := Nat.le_trans sb.size n0
 clear n0
 replace r5 := k.row r5 (by simp <;> omega)
 replace sb := sb.trans (k.below w.heap.size sb.size (by simp <;> omega))
 clear k
 refine pw_run (by rfl) (.string ⟨(List.replicate 32 (0 : UInt8)).toArray⟩) _ (x_str _ rfl g37 0 32 32 (List.replicate 32 (0 : UInt8)) rfl List.length_replicate _ r37.r (cells_zs 32)) ?_
 simp only [Act.put, pu]
 refine pw_value (by rfl) (.string ⟨([3, 4] ++ (List.replicate 32 0) : List UInt8).toArray⟩) (x_cat _ _ _ _ rfl [3, 4] (List.replicate 32 0) rfl rfl (by decide)) ?_
 simp only [Act.put, pu]
 refine pw_mv (by rfl) rfl rfl ?_
 simp only [Act.put, pu]
 refine pw_value (by rfl) (.string ⟨([3, 4] ++ (List.replicate 32 0) ++ Z : List UInt8).toArray⟩) (x_cat _ _ _ _ rfl ([3, 4] ++ (List.replicate 32 0)) Z rfl rfl (by rw [show (([3, 4] ++ (List.replicate 32 0) : List UInt8)).length = 34 from rfl]; omega)) ?_
 simp only [Act.put, pu]
 refine pw_callB (by rfl) 14 _ _ rfl Tryd.func14 (by kernel_rfl) #[.string ⟨([3, 4] ++ (List.replicate 32 0) ++ Z : List UInt8).toArray⟩] rfl _ (ftk_long _ _ (by rw [List.length_append, show (([3, 4] ++ (List.replicate 32 0) : List UInt8)).length = 34 from rfl]; omega)) ?_
 intro z6005 k
 simp only [Act.put, pu]
 replace r5 := k.row r5 (by simp <;> omega)
 replace r37 := k.row r37 (by simp <;> omega)
 replace sb := sb.trans (k.below w.heap.size sb.size (by simp <;> omega))
 clear k
 refine pw_mv (by rfl) rfl rfl ?_
 simp only [Act.put, pu]
 refine pw_ext (by rfl) rfl rfl rfl ?_
 simp only [Act.put, pu]
 refine pw_ext (by rfl) rfl rfl rfl ?_
 simp only [Act.put, pu]
 refine pw_new (by rfl) 25 rfl _ zero_fr ?_
 intro g9 z6009 n0 r9 k
 simp only [Act.put, pu]
 have d5x9 := Nat.lt_of_lt_of_le r5.lt n0
 have d37x9 := Nat.lt_of_lt_of_le r37.lt n0
 have b9 := Nat.le_trans sb.size n0
 clear n0
 replace r5 := k.row r5 (by simp <;> omega)
 replace r37 := k.row r37 (by simp <;> omega)
 replace sb := sb.trans (k.below w.heap.size sb.size (by simp <;> omega))
 clear k
 refine pw_put (by rfl) 25 _ _ rfl _ rfl r9 (frC 0 0 [] []) rfl (by exact size_fr) (by rfl) (fr_one _ _ _ _) ?_
 clear r9
 intro z6010 r9 k
 simp only [Act.put]
 replace r5 := k.row r5 (by simp <;> omega)
 replace r37 := k.row r37 (by simp <;> omega)
 replace sb := sb.trans (k.below w.heap.size sb.size (by simp <;> omega))
 clear k
 refine pw_as (by rfl) rfl rfl ?_
 simp only [Act.put, pu]
 refine pw_nil ?_
 (repeat ((fail_if_success with_reducible refine rg ?_); go_step))
 refine wp_region_pw ?_
 refine pw_mv (by rfl) rfl rfl ?_
 simp only [Act.put, pu]
 refine pw_value (by rfl) (.bool true) (x_eqI _ _ _ _ rfl .i64 1 1 rfl rfl true (by decide)) ?_
 simp only [Act.put, pu]
 refine pw_mv (by rfl) rfl rfl ?_
 simp only [Act.put, pu]
 refine pw_loadm (by rfl) 25 _ rfl _ (0) rfl r5.r (frC 0 0 [] []) (part_allF _) _ Tryd.underlying25 rfl size_fr ?_
 simp only [Act.put, pu]
 refine pw_value (by rfl) (.agg (frC 0 0 [] [])) (exec_buildv _ [] rfl [] rfl _ built_fr0) ?_
 simp only [Act.put, pu]
 refine pw_value (by rfl) (.bool true) (exec_eql_fr _ _ _ rfl 0 0 0 0 [] [] [] [] rfl rfl true (by simp)) ?_
 simp only [Act.put, pu]
 refine pw_pick (by rfl) true (v := .bool true) rfl rfl rfl ?_
 simp only [Act.put, pu]
 refine pw_mv (by rfl) rfl rfl ?_
 simp only [Act.put, pu]
 refine pw_mv (by rfl) rfl rfl ?_
 simp only [Act.put, pu]
 refine pw_value (by rfl) (.bool true) (x_eqI _ _ _ _ rfl .i64 1 1 rfl rfl true (by decide)) ?_
 simp only [Act.put, pu]
 refine pw_pick (by rfl) true (v := .bool true) rfl rfl rfl ?_
 simp only [Act.put, pu]
 refine pw_mv (by rfl) rfl rfl ?_
 simp only [Act.put, pu]
 refine pw_mv (by rfl) rfl rfl ?_
 simp only [Act.put, pu]
 refine pw_value (by rfl) (.bool true) (x_eqI _ _ _ _ rfl .i64 4 4 rfl rfl true (by decide)) ?_
 simp only [Act.put, pu]
 refine pw_pick (by rfl) true (v := .bool true) rfl rfl rfl ?_
 simp only [Act.put, pu]
 refine pw_mv (by rfl) rfl rfl ?_
 simp only [Act.put, pu]
 refine pw_callB (by rfl) 7 _ _ rfl Tryd.func7 (by kernel_rfl) #[] rfl _ (awake19_any _ (kT.below sb)) ?_
 intro z7016 k
 simp only [Act.put, pu]
 replace r5 := k.row r5 (by simp <;> omega)
 replace sb := sb.trans (k.below w.heap.size sb.size (by simp <;> omega))
 clear k
 refine pw_pick (by rfl) true (v := .bool true) rfl rfl rfl ?_
 simp only [Act.put, pu]
 refine pw_as (by rfl) rfl rfl ?_
 simp only [Act.put, pu]
 refine pw_nil ?_
 go_wp2
 go_ret
 exact ⟨rfl, sb⟩
set_option maxRecDepth 100000 in
set_option maxHeartbeats 2000000 in
theorem small (x : Int) (n : Nat) (Z : List UInt8) (w : World) (kT : KT w) (hx : 8188 + by3 x = n) (hZ : List.replicate n 0 = Z) (hl : Z.length = n) (h : n ≤ 8192) (T S : List UInt8)
  (cS : ∀ w', KT w' → Calls Tryd.prog 8 #[.string ⟨#[115]⟩, .int .i64 3, .int .i64 4, .string ⟨Z.toArray⟩] w' fun e w2 => e = .returned (.tuple #[.agg (frC 3 4 Z T), .int .i64 0]) ∧ Below w'.heap.size w' w2)
  (cB : (∀ w', Calls Tryd.prog 12 #[.agg (frC 3 4 Z T)] w' fun e w2 => e = .returned (.tuple #[.string ⟨S.toArray⟩, .int .i64 0]) ∧ Below w'.heap.size w' w2))
  (cT : (∀ w', Calls Tryd.prog 14 #[.string ⟨S.toArray⟩] w' fun e w2 => e = .returned (.tuple #[.agg (frC 3 4 Z T), .int .i64 0]) ∧ Below w'.heap.size w' w2))
  (cO : ∀ w', KT w' → Calls Tryd.prog 10 #[.string ⟨#[115]⟩, .agg (frC 3 4 Z T)] w' fun e w2 => e = .returned (.bool true) ∧ Below w'.heap.size w' w2) :
  Calls Tryd.prog 6 #[.int .i64 x] w fun e w' => e = .returned (.bool true) ∧ Below w.heap.size w w' := by
 have hb3 := by3_lt x
 have hcz : ∀ j, j < Z.length → (rC .u8 n fun _ => 0)[0 + j]? = some (.int .u8 (bf Z j : Nat)) := by rw [← hZ]; exact cells_zs n
 clear hZ
 have hn : ((8188 + by3 x : Nat) : Int) = (n : Int) := by rw [hx]
 have hn1 : n ≤ 8195 := by omega
 go_enter Tryd.func6, Tryd.ntmps6
 (repeat ((fail_if_success with_reducible refine rg ?_); go_step))
 refine wp_region_pw ?_
 refine pw_value (by rfl) (.bool false) (fun _ => rfl) ?_
 simp only [Act.put, pu]
 refine pw_nil ?_
 have sb := Below.refl w.heap.size w
 (repeat ((fail_if_success with_reducible refine rg ?_); go_step))
 refine wp_region_pw ?_
 refine pw_mv (by rfl) rfl rfl ?_
 simp only [Act.put, pu]
 refine pw_value (by rfl) (.int .i64 (by3 x : Nat)) (x_and7 _ _ _ _ rfl x rfl rfl) ?_
 simp only [Act.put, pu]
 refine pw_value (by rfl) (.int .i64 (n : Nat)) (fun w' => (xi_add _ _ _ _ rfl 8188 (by3 x) rfl rfl (by omega) w').trans (by rw [hn])) ?_
 simp only [Act.put, pu]
 refine pw_as (by rfl) rfl rfl ?_
 simp only [Act.put, pu]
 refine pw_nil ?_
 clear hx hn
 (repeat ((fail_if_success with_reducible refine rg ?_); go_step))
 refine wp_region_pw ?_
 refine pw_mv (by rfl) rfl rfl ?_
 simp only [Act.put, pu]
 refine pw_makeB (by rfl) _ _ rfl n rfl rfl (by omega) ?_
 intro g19 z2001 n0 r19 k
 simp only [Act.put, pu]
 have b19 := Nat.le_trans sb.size n0
 clear n0
 replace sb := sb.trans (k.below w.heap.size sb.size (by simp <;> omega))
 clear k
 refine pw_run (by rfl) (.string ⟨Z.toArray⟩) _ (x_str _ rfl g19 0 n n Z rfl hl _ r19.r hcz) ?_
 simp only [Act.put, pu]
 refine pw_as (by rfl) rfl rfl ?_
 simp only [Act.put, pu]
 refine pw_nil ?_
 (repeat ((fail_if_success with_reducible refine rg ?_); go_step))
 refine wp_region_pw ?_
 refine pw_mv (by rfl) rfl rfl ?_
 simp only [Act.put, pu]
 refine pw_callB (by rfl) 8 _ _ rfl Tryd.func8 (by kernel_rfl) #[.string ⟨#[115]⟩, .int .i64 3, .int .i64 4, .string ⟨Z.toArray⟩] rfl _ (cS _ (kT.below sb)) ?_
 intro z3001 k
 simp only [Act.put, pu]
 replace sb := sb.trans (k.below w.heap.size sb.size (by simp <;> omega))
 clear k
 refine pw_mv (by rfl) rfl rfl ?_
 simp only [Act.put, pu]
 refine pw_ext (by rfl) rfl rfl rfl ?_
 simp only [Act.put, pu]
 refine pw_ext (by rfl) rfl rfl rfl ?_
 simp only [Act.put, pu]
 refine pw_new (by rfl) 25 rfl _ zero_fr ?_
 intro g5 z3005 n0 r5 k
 simp only [Act.put, pu]
 have b5 := Nat.le_trans sb.size n0
 clear n0
 replace sb := sb.trans (k.below w.heap.size sb.size (by simp <;> omega))
 clear k
 refine pw_put (by rfl) 25 _ _ rfl _ rfl r5 (frC 3 4 Z T) rfl (by exact size_fr) (by rfl) (fr_one _ _ _ _) ?_
 clear r5
 intro z3006 r5 k
 simp only [Act.put]
 replace sb := sb.trans (k.below w.heap.size sb.size (by simp <;> omega))
 clear k
 refine pw_as (by rfl) rfl rfl ?_
 simp only [Act.put, pu]
 refine pw_nil ?_
 (repeat ((fail_if_success with_reducible refine rg ?_); go_step))
 refine wp_region_pw ?_
 refine pw_mv (by rfl) rfl rfl ?_
 simp only [Act.put, pu]
 refine pw_value (by rfl) (.bool false) (x_gt _ _ _ _ rfl (n : Nat) 8192 rfl rfl false (decide_eq_false (by omega))) ?_
 simp only [Act.put, pu]
 refine pw_nil ?_
 (repeat ((fail_if_success with_reducible refine rg ?_); go_step))
 refine wp_region_pw ?_
 refine pw_loadm (by rfl) 25 _ rfl _ (0) rfl r5.r (frC 3 4 Z T) (part_allF _) _ Tryd.underlying25 rfl size_fr ?_
 simp only [Act.put, pu]
 refine pw_callB (by rfl) 12 _ _ rfl Tryd.func12 (by kernel_rfl) #[.agg (frC 3 4 Z T)] rfl _ (cB _) ?_
 intro z8001 k
 simp only [Act.put, pu]
 replace r5 := k.row r5 (by simp <;> omega)
 replace sb := sb.trans (k.below w.heap.size sb.size (by simp <;> omega))
 clear k
 refine pw_mv (by rfl) rfl rfl ?_
 simp only [Act.put, pu]
 refine pw_ext (by rfl) rfl rfl rfl ?_
 simp only [Act.put, pu]
 refine pw_ext (by rfl) rfl rfl rfl ?_
 simp only [Act.put, pu]
 refine pw_as (by rfl) rfl rfl ?_
 simp only [Act.put, pu]
 refine pw_as (by rfl) rfl rfl ?_
 simp only [Act.put, pu]
 refine pw_nil ?_
 (repeat ((fail_if_success with_reducible refine rg ?_); go_step))
 refine wp_region_pw ?_
 refine pw_mv (by rfl) rfl rfl ?_
 simp only [Act.put, pu]
 refine pw_callB (by rfl) 14 _ _ rfl Tryd.func14 (by kernel_rfl) #[.string ⟨S.toArray⟩] rfl _ (cT _) ?_
 intro z9001 k
 simp only [Act.put, pu]
 replace r5 := k.row r5 (by simp <;> omega)
 replace sb := sb.trans (k.below w.heap.size sb.size (by simp <;> omega))
 clear k
 refine pw_mv (by rfl) rfl rfl ?_
 simp only [Act.put, pu]
 refine pw_ext (by rfl) rfl rfl rfl ?_
 simp only [Act.put, pu]
 refine pw_ext (by rfl) rfl rfl rfl ?_
 simp only [Act.put, pu]
 refine pw_new (by rfl) 25 rfl _ zero_fr ?_
 intro g13 z9005 n0 r13 k
 simp only [Act.put, pu]
 have d5x13 := Nat.lt_of_lt_of_le r5.lt n0
 have b13 := Nat.le_trans sb.size n0
 clear n0
 replace r5 := k.row r5 (by simp <;> omega)
 replace sb := sb.trans (k.below w.heap.size sb.size (by simp <;> omega))
 clear k
 refine pw_put (by rfl) 25 _ _ rfl _ rfl r13 (frC 3 4 Z T) rfl (by exact size_fr) (by rfl) (fr_one _ _ _ _) ?_
 clear r13
 intro z9006 r13 k
 simp only [Act.put]
 replace r5 := k.row r5 (by simp <;> omega)
 replace sb := sb.trans (k.below w.heap.size sb.size (by simp <;> omega))
 clear k
 refine pw_as (by rfl) rfl rfl ?_
 simp only [Act.put, pu]
 refine pw_nil ?_
 (repeat ((fail_if_success with_reducible refine rg ?_); go_step))
 refine wp_region_pw ?_
 refine pw_mv (by rfl) rfl rfl ?_
 simp only [Act.put, pu]
 refine pw_value (by rfl) (.bool true) (x_eqI _ _ _ _ rfl .i64 0 0 rfl rfl true (by decide)) ?_
 simp only [Act.put, pu]
 refine pw_mv (by rfl) rfl rfl ?_
 simp only [Act.put, pu]
 refine pw_mv (by rfl) rfl rfl ?_
 simp only [Act.put, pu]
 refine pw_value (by rfl) (.bool true) (x_eqI _ _ _ _ rfl .i64 0 0 rfl rfl true (by decide)) ?_
 simp only [Act.put, pu]
 refine pw_pick (by rfl) true (v := .bool true) rfl rfl rfl ?_
 simp only [Act.put, pu]
 refine pw_mv (by rfl) rfl rfl ?_
 simp only [Act.put, pu]
 refine pw_mv (by rfl) rfl rfl ?_
 simp only [Act.put, pu]
 refine pw_value (by rfl) (.bool true) (x_eqI _ _ _ _ rfl .i64 0 0 rfl rfl true (by decide)) ?_
 simp only [Act.put, pu]
 refine pw_pick (by rfl) true (v := .bool true) rfl rfl rfl ?_
 simp only [Act.put, pu]
 refine pw_mv (by rfl) rfl rfl ?_
 simp only [Act.put, pu]
 refine pw_loadm (by rfl) 25 _ rfl _ (0) rfl r13.r (frC 3 4 Z T) (part_allF _) _ Tryd.underlying25 rfl size_fr ?_
 simp only [Act.put, pu]
 refine pw_loadm (by rfl) 25 _ rfl _ (0) rfl r5.r (frC 3 4 Z T) (part_allF _) _ Tryd.underlying25 rfl size_fr ?_
 simp only [Act.put, pu]
 refine pw_value (by rfl) (.bool true) (exec_eql_fr _ _ _ rfl 3 4 3 4 Z T Z T rfl rfl true (by simp)) ?_
 simp only [Act.put, pu]
 refine pw_pick (by rfl) true (v := .bool true) rfl rfl rfl ?_
 simp only [Act.put, pu]
 refine pw_mv (by rfl) rfl rfl ?_
 simp only [Act.put, pu]
 refine pw_loadm (by rfl) 25 _ rfl _ (0) rfl r13.r (frC 3 4 Z T) (part_allF _) _ Tryd.underlying25 rfl size_fr ?_
 simp only [Act.put, pu]
 refine pw_callB (by rfl) 10 _ _ rfl Tryd.func10 (by kernel_rfl) #[.string ⟨#[115]⟩, .agg (frC 3 4 Z T)] rfl _ (cO _ (kT.below sb)) ?_
 intro z10017 k
 simp only [Act.put, pu]
 replace r5 := k.row r5 (by simp <;> omega)
 replace r13 := k.row r13 (by simp <;> omega)
 replace sb := sb.trans (k.below w.heap.size sb.size (by simp <;> omega))
 clear k
 refine pw_pick (by rfl) true (v := .bool true) rfl rfl rfl ?_
 simp only [Act.put, pu]
 refine pw_mv (by rfl) rfl rfl ?_
 simp only [Act.put, pu]
 refine pw_callB (by rfl) 7 _ _ rfl Tryd.func7 (by kernel_rfl) #[] rfl _ (awake19_any _ (kT.below sb)) ?_
 intro z10020 k
 simp only [Act.put, pu]
 replace r5 := k.row r5 (by simp <;> omega)
 replace r13 := k.row r13 (by simp <;> omega)
 replace sb := sb.trans (k.below w.heap.size sb.size (by simp <;> omega))
 clear k
 refine pw_pick (by rfl) true (v := .bool true) rfl rfl rfl ?_
 simp only [Act.put, pu]
 refine pw_as (by rfl) rfl rfl ?_
 simp only [Act.put, pu]
 refine pw_nil ?_
 go_wp2
 go_ret
 exact ⟨rfl, sb⟩
theorem walk (x : Int) (w : World) (kT : KT w) :
  Calls Tryd.prog 6 #[.int .i64 x] w fun e w' => e = .returned (.bool true) ∧ Below w.heap.size w w' := by
 have hl : (List.replicate (8188 + by3 x) (0 : UInt8)).length = 8188 + by3 x := List.length_replicate
 by_cases h : 8192 < 8188 + by3 x
 ·exact big x _ _ w kT rfl rfl hl h
 ·obtain ⟨Z, hZ⟩ : ∃ Z, List.replicate (8188 + by3 x) (0 : UInt8) = Z := ⟨_, rfl⟩
  rw [hZ] at hl
  have hb : Z.length ≤ 8192 := by omega
  exact small x _ Z w kT rfl hZ hl (by omega) (tagL [115] Z 3 4) (keyE 3 4 ++ tagL [115] Z 3 4 ++ Z) (fun w' k => seal_ok [115] Z 3 4 w' rfl hb (by decide) k) (fun w' => fby_ok _ _ 3 4 w' rfl (tagL_length _ _ _ _) hb) (fun w' => ftk_back _ _ 3 4 w' rfl (tagL_length _ _ _ _) hb) (fun w' k => opens_self [115] Z 3 4 w' rfl hb (by decide) k)
set_option maxRecDepth 100000 in
theorem lifted (os : Os) (started : os.Started) (H : Type) (enc : TypeId × Value → H) :
  ReturnsInHanded {} Tryd.checked os 6 .any (fun w args => (Rows.frameLongSpec.pre enc Tryd.prog Tryd.f6 [] false w args ∧ laidMetH Tryd.prog lk w) ∧ sizedMet enc Tryd.prog Tryd.f6 (OpenSpec.ofChange Rows.frameLongSpec) false w args)
   (Rows.frameLongSpec.post enc Tryd.prog Tryd.f6 false true false false) := by
 refine returnsInHanded_of_change_and (C := Tryd.checked) (X := fun w _ => laidMetH Tryd.prog lk w) (fun _ _ _ hh h => h.of_heap hh) own started (by kernel_rfl) Tryd.func6
  (ChangeSpec.witness_shaped (enc := enc) (C := Tryd.checked) (os := os) (X := fun w _ => laidMetH Tryd.prog lk w) false (World.doorLaid Tryd.prog 14 os) #[.int .i64 0] 8 rfl (World.shaped_of_RefB (by kernel_rfl) (by kernel_rfl)) (by kernel_rfl) (by kernel_rfl) (by kernel_rfl) (door_met os _)) ?_
 intro W base args ds gs before hval0 hW _ _ hL _
 have hval : ∀ (j : Nat) t v, Tryd.f6.params[j]? = some t → args[j]? = some v → Value.okWide Tryd.prog W .any base t v := hval0
 have hW' := hW
 obtain ⟨p, q, hA0, hV, rfl, hfz, hnd⟩ := hW
 have hA : DataW.TrodAll enc Tryd.prog W 0 (fun _ => true) true Tryd.f6.params.toList args.toList ds p := hA0
 rw [Tryd.params6] at hA hval
 obtain ⟨v0, vs0, d0, ds0, p0, q0, hargs, rfl, rfl, h0, r0⟩ := trodAll_cons hA
 obtain ⟨rfl, rfl, rfl⟩ := trodAll_nil r0
 obtain rfl : args = #[v0] := by cases args; simp_all
 obtain ⟨rfl, rfl⟩ := trodVars_none hV
 have k0 := h0
 have lt0 := lt_of_trod h0
 obtain ⟨a0, rfl, rfl, rfl, w0⟩ := open_int Tryd.underlying3 (hval 0 3 v0 rfl rfl) h0
 clear hA0 hval0
 refine (walk a0 W (kt_of_laid hL)).mono fun e W' ⟨he, bel⟩ => ?_
 subst he
 exact ⟨_, rfl, _, _, _, [], _, [], hW', trodAll_mk1 (shut_bool Tryd.underlying4 _), (trodAll_cons_mk (Below.trod laidOut (by kernel_rfl) (of_decide_eq_true (by kernel_rfl)) k0 bel lt0) trodAll_mk0), rfl, bel.frame _, fun h => by cases h⟩
theorem over : Rows.frameLongRow.holds Tryd.pinned (OpenSpec.ofChange Rows.frameLongSpec) :=
 OpenClaim.holds_of_wide 6 Tryd.f6 rfl rfl rfl rfl rfl rfl rfl ⟨rfl, rfl, rfl, rfl, rfl⟩ rfl rfl rfl rfl rfl (by kernel_rfl) Tryd.func6 (by kernel_rfl)
  (of_decide_eq_true (by kernel_rfl)) (by unfold Func.isWrapper; first | (rw [if_pos (by decide +kernel)]; kernel_rfl) | (rw [if_neg (by decide +kernel)]; exact ⟨rfl, rfl⟩))
  (fun os started H enc _ => lifted os started H enc)
theorem card : Claim7.holds Tryd.pinned (.plain (OpenSpec.ofChange Rows.frameLongSpec)) Rows.frameLongCard :=
 Claim7.holds_tied_plain_at .later [] [.data] true (true, "4aafef69a7dd7adb73bc07568f366d918c24b00c14405ec6e35df4f3ae694b45") false
  over (fun _ h => by cases h) (by kernel_rfl) (fun _ h => by cases h) frameLong_row_tie rfl ⟨rfl, rfl⟩ (by kernel_rfl) rfl
  (fun f fn hf hfn => by
   obtain rfl : f = 6 := Option.some.inj ((show Tryd.prog.funcNamed "sacristy/sacristylaw19.FrameLong" = some 6 by kernel_rfl).symm.trans hf) |>.symm
   obtain rfl : fn = Tryd.f6 := (Option.some.inj (Tryd.func6.symm.trans hfn)).symm
   exact ⟨by kernel_rfl, fun j t ht => by
    rw [Tryd.params6] at ht
    have hm : t ∈ [3] := by simpa using Array.mem_of_getElem? ht
    have hall : ([3].all fun u => !Tryd.prog.wantsStandIn u) = true := by kernel_rfl
    exact (show Tryd.prog.wantsStandIn t = false by simpa using List.all_eq_true.1 hall t hm)⟩)
  (by kernel_rfl)
end Go.Proofs.YtdanmnhknmepiaaDoor.frameLongP
namespace Go.Proofs.YtdanmnhknmepiaaDoor
theorem frameLong_holds : Rows.FrameLongCardSaid := frameLongP.card
end Go.Proofs.YtdanmnhknmepiaaDoor
