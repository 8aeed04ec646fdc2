/- What must come, whatever the arguments are: the check of the laws of layer 19; bytes there and back. -/
import Derived.Test.YtdanmnhknmepiaaDoorFrRef
namespace Go.Proofs.YtdanmnhknmepiaaDoor
open Go.RowKit
set_option linter.unusedVariables false
theorem by8_self {x : Int} (h : 1 ≤ x ∧ x ≤ 255) : ((by8 x : Nat) : Int) = x := by unfold by8; omega
theorem bf_e0 (x y : Int) (l : List UInt8) : bf (keyE x y ++ l) 0 = by8 x := of8 x
theorem bf_e1 (x y : Int) (l : List UInt8) : bf (keyE x y ++ l) 1 = by8 y := of8 y
theorem fr_drop (x y : Int) (b t : List UInt8) (ht : t.length = 32) : (keyE x y ++ t ++ b).drop 34 = b := by
 rw [List.drop_append_of_le_length (by rw [List.length_append, ht]; show 34 ≤ 2 + 32; omega), List.drop_of_length_le (by rw [List.length_append, ht]; show 2 + 32 ≤ 34; omega), List.nil_append]
theorem fr_mid (x y : Int) (b t : List UInt8) (ht : t.length = 32) : ((keyE x y ++ t ++ b).take 34).drop 2 = t := by
 rw [List.take_append_of_le_length (by rw [List.length_append, ht]; show 34 ≤ 2 + 32; omega), List.take_of_length_le (by rw [List.length_append, ht]; show 2 + 32 ≤ 34; omega)]
 rfl
theorem fr_len (x y : Int) (b t : List UInt8) (ht : t.length = 32) : (keyE x y ++ t ++ b).length = 34 + b.length := by
 rw [List.length_append, List.length_append, ht]; show 2 + 32 + _ = _; omega
/-- What is told by a frame's bytes is the frame. -/
theorem ftk_back (b t : List UInt8) (x y : Int) (w : World) (h : enB x y = true) (ht : t.length = 32) (hb : b.length ≤ 8192) :
  Calls Tryd.prog 14 #[.string ⟨(keyE x y ++ t ++ b).toArray⟩] w fun e w' => e = .returned (.tuple #[.agg (frC x y b t), .int .i64 0]) ∧ Below w.heap.size w w' := by
 have hl := fr_len x y b t ht
 have hy := enB_yes h
 have e0 : ((bf (keyE x y ++ t ++ b) 0 : Nat) : Int) = x := by rw [List.append_assoc, bf_e0]; exact by8_self ⟨hy.1, hy.2.1⟩
 have e1 : ((bf (keyE x y ++ t ++ b) 1 : Nat) : Int) = y := by rw [List.append_assoc, bf_e1]; exact by8_self hy.2.2
 have hc := ftk_ok (keyE x y ++ t ++ b) w (by omega) (by omega) (by rw [e0, e1]; exact h)
 rw [e0, e1, fr_drop x y b t ht, fr_mid x y b t ht] at hc
 exact hc
/-- The bytes of what bytes tell are the bytes. -/
theorem fr_there (s : List UInt8) (h : 34 ≤ s.length) : keyE (bf s 0 : Nat) (bf s 1 : Nat) ++ (s.take 34).drop 2 ++ s.drop 34 = s := by
 have hE : keyE (bf s 0 : Nat) (bf s 1 : Nat) = s.take 2 := by
  match s, h with
  | a :: b :: r, _ =>
   have ha := a.toNat_lt
   have hb := b.toNat_lt
   show [UInt8.ofNat (by8 (a.toNat : Int)), UInt8.ofNat (by8 (b.toNat : Int))] = [a, b]
   rw [show by8 (a.toNat : Int) = a.toNat by unfold by8; omega, show by8 (b.toNat : Int) = b.toNat by unfold by8; omega, UInt8.ofNat_toNat, UInt8.ofNat_toNat]
 have e : s.take 2 = (s.take 34).take 2 := by rw [List.take_take]; rfl
 rw [hE, e, List.take_append_drop, List.take_append_drop]
set_option maxRecDepth 100000 in
set_option maxHeartbeats 2000000 in
theorem awake19_core (T S : List UInt8) (w : World) (hT : T.length = 32) (hl : S.length = 38) (kT : KT w)
  (cS : ∀ w', KT w' → Calls Tryd.prog 8 #[.string ⟨#[115]⟩, .int .i64 1, .int .i64 2, .string ⟨#[98, 111, 100, 121]⟩] w' fun e w2 => e = .returned (.tuple #[.agg (frC 1 2 [98, 111, 100, 121] T), .int .i64 0]) ∧ Below w'.heap.size w' w2)
  (cB : ∀ w', Calls Tryd.prog 12 #[.agg (frC 1 2 [98, 111, 100, 121] T)] w' fun e w2 => e = .returned (.tuple #[.string ⟨S.toArray⟩, .int .i64 0]) ∧ Below w'.heap.size w' w2)
  (cT : ∀ w', Calls Tryd.prog 14 #[.string ⟨S.toArray⟩] w' fun e w2 => e = .returned (.tuple #[.agg (frC 1 2 [98, 111, 100, 121] T), .int .i64 0]) ∧ Below w'.heap.size w' w2)
  (cO : ∀ w', KT w' → Calls Tryd.prog 10 #[.string ⟨#[115]⟩, .agg (frC 1 2 [98, 111, 100, 121] T)] w' fun e w2 => e = .returned (.bool true) ∧ Below w'.heap.size w' w2) :
  Calls Tryd.prog 7 #[] w fun e w' => e = .returned (.bool true) ∧ Below w.heap.size w w' := by
 go_enter Tryd.func7, Tryd.ntmps7
 (repeat ((fail_if_success with_reducible refine rg ?_); go_step))
 refine wp_region_pw ?_
 refine pw_value (by rfl) (.bool false) (fun _ => rfl) ?_
 simp only [Act.put, List.setIfInBounds_toArray, List.set_cons_zero]
 refine pw_nil ?_
 have sb := Below.refl w.heap.size w
 (repeat ((fail_if_success with_reducible refine rg ?_); go_step))
 refine wp_region_pw ?_
 refine pw_callB (by rfl) 8 _ _ rfl Tryd.func8 (by kernel_rfl) #[.string ⟨#[115]⟩, .int .i64 1, .int .i64 2, .string ⟨#[98, 111, 100, 121]⟩] rfl _ (cS _ (kT.below sb)) ?_
 intro z1000 k
 simp only [Act.put, pu]
 replace sb := sb.trans (k.below w.heap.size sb.size (by simp <;> omega))
 clear k
 refine pw_mv (by rfl) rfl rfl ?_
 simp only [Act.put, pu]
 refine pw_ext (by rfl) rfl rfl rfl ?_
 simp only [Act.put, pu]
 refine pw_ext (by rfl) rfl rfl rfl ?_
 simp only [Act.put, pu]
 refine pw_new (by rfl) 25 rfl _ zero_fr ?_
 intro g1 z1004 n0 r1 k
 simp only [Act.put, pu]
 have b1 := Nat.le_trans sb.size n0
 clear n0
 replace sb := sb.trans (k.below w.heap.size sb.size (by simp <;> omega))
 clear k
 refine pw_put (by rfl) 25 _ _ rfl _ rfl r1 (frC 1 2 [98, 111, 100, 121] T) rfl (by exact size_fr) (by rfl) (fr_one _ _ _ _) ?_
 clear r1
 intro z1005 r1 k
 simp only [Act.put]
 replace sb := sb.trans (k.below w.heap.size sb.size (by simp <;> omega))
 clear k
 refine pw_as (by rfl) rfl rfl ?_
 simp only [Act.put, pu]
 refine pw_nil ?_
 (repeat ((fail_if_success with_reducible refine rg ?_); go_step))
 refine wp_region_pw ?_
 refine pw_loadm (by rfl) 25 _ rfl _ (0) rfl r1.r (frC 1 2 [98, 111, 100, 121] T) (part_allF _) _ Tryd.underlying25 rfl size_fr ?_
 simp only [Act.put, pu]
 refine pw_callB (by rfl) 12 _ _ rfl Tryd.func12 (by kernel_rfl) #[.agg (frC 1 2 [98, 111, 100, 121] T)] rfl _ (cB _) ?_
 intro z2001 k
 simp only [Act.put, pu]
 replace r1 := k.row r1 (by simp <;> omega)
 replace sb := sb.trans (k.below w.heap.size sb.size (by simp <;> omega))
 clear k
 refine pw_mv (by rfl) rfl rfl ?_
 simp only [Act.put, pu]
 refine pw_ext (by rfl) rfl rfl rfl ?_
 simp only [Act.put, pu]
 refine pw_ext (by rfl) rfl rfl rfl ?_
 simp only [Act.put, pu]
 refine pw_as (by rfl) rfl rfl ?_
 simp only [Act.put, pu]
 refine pw_as (by rfl) rfl rfl ?_
 simp only [Act.put, pu]
 refine pw_nil ?_
 (repeat ((fail_if_success with_reducible refine rg ?_); go_step))
 refine wp_region_pw ?_
 refine pw_mv (by rfl) rfl rfl ?_
 simp only [Act.put, pu]
 refine pw_callB (by rfl) 14 _ _ rfl Tryd.func14 (by kernel_rfl) #[.string ⟨S.toArray⟩] rfl _ (cT _) ?_
 intro z3001 k
 simp only [Act.put, pu]
 replace r1 := k.row r1 (by simp <;> omega)
 replace sb := sb.trans (k.below w.heap.size sb.size (by simp <;> omega))
 clear k
 refine pw_mv (by rfl) rfl rfl ?_
 simp only [Act.put, pu]
 refine pw_ext (by rfl) rfl rfl rfl ?_
 simp only [Act.put, pu]
 refine pw_ext (by rfl) rfl rfl rfl ?_
 simp only [Act.put, pu]
 refine pw_new (by rfl) 25 rfl _ zero_fr ?_
 intro g5 z3005 n0 r5 k
 simp only [Act.put, pu]
 have d1x5 := Nat.lt_of_lt_of_le r1.lt n0
 have b5 := Nat.le_trans sb.size n0
 clear n0
 replace r1 := k.row r1 (by simp <;> omega)
 replace sb := sb.trans (k.below w.heap.size sb.size (by simp <;> omega))
 clear k
 refine pw_put (by rfl) 25 _ _ rfl _ rfl r5 (frC 1 2 [98, 111, 100, 121] T) rfl (by exact size_fr) (by rfl) (fr_one _ _ _ _) ?_
 clear r5
 intro z3006 r5 k
 simp only [Act.put]
 replace r1 := k.row r1 (by simp <;> omega)
 replace sb := sb.trans (k.below w.heap.size sb.size (by simp <;> omega))
 clear k
 refine pw_as (by rfl) rfl rfl ?_
 simp only [Act.put, pu]
 refine pw_nil ?_
 (repeat ((fail_if_success with_reducible refine rg ?_); go_step))
 refine wp_region_pw ?_
 refine pw_mv (by rfl) rfl rfl ?_
 simp only [Act.put, pu]
 refine pw_value (by rfl) (.bool true) (x_eqI _ _ _ _ rfl .i64 0 0 rfl rfl true (by decide)) ?_
 simp only [Act.put, pu]
 refine pw_mv (by rfl) rfl rfl ?_
 simp only [Act.put, pu]
 refine pw_value (by rfl) (.pointer (some ⟨g1, 0, none⟩)) (exec_field 25 _ 0 rfl g1 0 rfl _ Tryd.underlying25 _ rfl 0 Tryd.sizeOf3) ?_
 simp only [Act.put, pu]
 refine pw_loadk (by rfl) 3 _ rfl _ (0) rfl r1.r (.int .i64 1) rfl Tryd.isAgg3 ?_
 simp only [Act.put, pu]
 refine pw_value (by rfl) (.bool true) (x_eqI _ _ _ _ rfl .i64 1 1 rfl rfl true (by decide)) ?_
 simp only [Act.put, pu]
 refine pw_pick (by rfl) true (v := .bool true) rfl rfl rfl ?_
 simp only [Act.put, pu]
 refine pw_mv (by rfl) rfl rfl ?_
 simp only [Act.put, pu]
 refine pw_value (by rfl) (.pointer (some ⟨g1, 1, none⟩)) (exec_field 25 _ 1 rfl g1 0 rfl _ Tryd.underlying25 _ rfl 0 Tryd.sizeOf3) ?_
 simp only [Act.put, pu]
 refine pw_loadk (by rfl) 3 _ rfl _ (1) rfl r1.r (.int .i64 2) rfl Tryd.isAgg3 ?_
 simp only [Act.put, pu]
 refine pw_value (by rfl) (.bool true) (x_eqI _ _ _ _ rfl .i64 2 2 rfl rfl true (by decide)) ?_
 simp only [Act.put, pu]
 refine pw_pick (by rfl) true (v := .bool true) rfl rfl rfl ?_
 simp only [Act.put, pu]
 refine pw_mv (by rfl) rfl rfl ?_
 simp only [Act.put, pu]
 refine pw_value (by rfl) (.pointer (some ⟨g1, 2, none⟩)) (exec_field 25 _ 2 rfl g1 0 rfl _ Tryd.underlying25 _ rfl 0 Tryd.sizeOf9) ?_
 simp only [Act.put, pu]
 refine pw_loadk (by rfl) 9 _ rfl _ (2) rfl r1.r (.string ⟨#[98, 111, 100, 121]⟩) rfl Tryd.isAgg9 ?_
 simp only [Act.put, pu]
 refine pw_value (by rfl) (.bool true) (exec_eql_str _ _ _ _ rfl _ rfl rfl) ?_
 simp only [Act.put, pu]
 refine pw_pick (by rfl) true (v := .bool true) rfl rfl rfl ?_
 simp only [Act.put, pu]
 refine pw_mv (by rfl) rfl rfl ?_
 simp only [Act.put, pu]
 refine pw_value (by rfl) (.pointer (some ⟨g1, 3, none⟩)) (exec_field 25 _ 3 rfl g1 0 rfl _ Tryd.underlying25 _ rfl 0 Tryd.sizeOf9) ?_
 simp only [Act.put, pu]
 refine pw_loadk (by rfl) 9 _ rfl _ (3) rfl r1.r (.string ⟨T.toArray⟩) rfl Tryd.isAgg9 ?_
 simp only [Act.put, pu]
 refine pw_value (by rfl) (.int .i64 (T.length : Nat)) (y_lenS _ _ rfl T rfl Tryd.underlying9) ?_
 simp only [Act.put, pu]
 refine pw_value (by rfl) (.bool true) (x_eqI _ _ _ _ rfl .i64 (T.length : Nat) 32 rfl rfl true (decide_eq_true (by omega))) ?_
 simp only [Act.put, pu]
 refine pw_pick (by rfl) true (v := .bool true) rfl rfl rfl ?_
 simp only [Act.put, pu]
 refine pw_mv (by rfl) rfl rfl ?_
 simp only [Act.put, pu]
 refine pw_loadm (by rfl) 25 _ rfl _ (0) rfl r1.r (frC 1 2 [98, 111, 100, 121] T) (part_allF _) _ Tryd.underlying25 rfl size_fr ?_
 simp only [Act.put, pu]
 refine pw_callB (by rfl) 10 _ _ rfl Tryd.func10 (by kernel_rfl) #[.string ⟨#[115]⟩, .agg (frC 1 2 [98, 111, 100, 121] T)] rfl _ (cO _ (kT.below sb)) ?_
 intro z4025 k
 simp only [Act.put, pu]
 replace r1 := k.row r1 (by simp <;> omega)
 replace r5 := k.row r5 (by simp <;> omega)
 replace sb := sb.trans (k.below w.heap.size sb.size (by simp <;> omega))
 clear k
 refine pw_pick (by rfl) true (v := .bool true) rfl rfl rfl ?_
 simp only [Act.put, pu]
 refine pw_mv (by rfl) rfl rfl ?_
 simp only [Act.put, pu]
 refine pw_mv (by rfl) rfl rfl ?_
 simp only [Act.put, pu]
 refine pw_value (by rfl) (.bool true) (x_eqI _ _ _ _ rfl .i64 0 0 rfl rfl true (by decide)) ?_
 simp only [Act.put, pu]
 refine pw_pick (by rfl) true (v := .bool true) rfl rfl rfl ?_
 simp only [Act.put, pu]
 refine pw_mv (by rfl) rfl rfl ?_
 simp only [Act.put, pu]
 refine pw_mv (by rfl) rfl rfl ?_
 simp only [Act.put, pu]
 refine pw_value (by rfl) (.int .i64 (S.length : Nat)) (y_lenS _ _ rfl S rfl Tryd.underlying9) ?_
 simp only [Act.put, pu]
 refine pw_value (by rfl) (.bool true) (x_eqI _ _ _ _ rfl .i64 (S.length : Nat) 38 rfl rfl true (decide_eq_true (by omega))) ?_
 simp only [Act.put, pu]
 refine pw_pick (by rfl) true (v := .bool true) rfl rfl rfl ?_
 simp only [Act.put, pu]
 refine pw_mv (by rfl) rfl rfl ?_
 simp only [Act.put, pu]
 refine pw_mv (by rfl) rfl rfl ?_
 simp only [Act.put, pu]
 refine pw_value (by rfl) (.bool true) (x_eqI _ _ _ _ rfl .i64 0 0 rfl rfl true (by decide)) ?_
 simp only [Act.put, pu]
 refine pw_pick (by rfl) true (v := .bool true) rfl rfl rfl ?_
 simp only [Act.put, pu]
 refine pw_mv (by rfl) rfl rfl ?_
 simp only [Act.put, pu]
 refine pw_loadm (by rfl) 25 _ rfl _ (0) rfl r5.r (frC 1 2 [98, 111, 100, 121] T) (part_allF _) _ Tryd.underlying25 rfl size_fr ?_
 simp only [Act.put, pu]
 refine pw_loadm (by rfl) 25 _ rfl _ (0) rfl r1.r (frC 1 2 [98, 111, 100, 121] T) (part_allF _) _ Tryd.underlying25 rfl size_fr ?_
 simp only [Act.put, pu]
 refine pw_value (by rfl) (.bool true) (exec_eql_fr _ _ _ rfl 1 2 1 2 [98, 111, 100, 121] T [98, 111, 100, 121] T rfl rfl true (by simp)) ?_
 simp only [Act.put, pu]
 refine pw_pick (by rfl) true (v := .bool true) rfl rfl rfl ?_
 simp only [Act.put, pu]
 refine pw_as (by rfl) rfl rfl ?_
 simp only [Act.put, List.setIfInBounds_toArray, List.set_cons_zero]
 refine pw_nil ?_
 go_wp2
 go_ret
 exact ⟨rfl, sb⟩
theorem opens_self (k b : List UInt8) (x y : Int) (w : World) (h : enB x y = true) (hb : b.length ≤ 8192) (hk : k.length < 576460752303423488) (kT : KT w) :
  Calls Tryd.prog 10 #[.string ⟨k.toArray⟩, .agg (frC x y b (tagL k b x y))] w fun e w' => e = .returned (.bool true) ∧ Below w.heap.size w w' :=
 (opens_ok k b (tagL k b x y) x y w h hb hk kT).mono fun e w' ⟨he, hb⟩ => ⟨he.trans (by rw [decide_eq_true rfl]), hb⟩
theorem awake19_any (w : World) (kT : KT w) : Calls Tryd.prog 7 #[] w fun e w' => e = .returned (.bool true) ∧ Below w.heap.size w w' := by
 have hL := tagL_length [115] [98, 111, 100, 121] 1 2
 refine awake19_core (tagL [115] [98, 111, 100, 121] 1 2) (keyE 1 2 ++ tagL [115] [98, 111, 100, 121] 1 2 ++ [98, 111, 100, 121]) w hL (fr_len _ _ _ _ hL) kT ?_ ?_ ?_ ?_
 ·exact fun w' k => seal_ok [115] [98, 111, 100, 121] 1 2 w' rfl (by decide) (by decide) k
 ·exact fun w' => fby_ok _ _ 1 2 w' rfl hL (by decide)
 ·exact fun w' => ftk_back _ _ 1 2 w' rfl hL (by decide)
 ·exact fun w' k => opens_self [115] [98, 111, 100, 121] 1 2 w' rfl (by decide) (by decide) k
end Go.Proofs.YtdanmnhknmepiaaDoor
