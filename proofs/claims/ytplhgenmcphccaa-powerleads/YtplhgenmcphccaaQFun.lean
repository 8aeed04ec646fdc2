/- power's In, Mul, Exp, Of, Inv, Multi: of a group that New has made, and of one that nobody made. -/
import Derived.Test.YtplhgenmcphccaaFA
import Derived.Test.YtplhgenmcphccaaQMath
import Derived.Test.YtplhgenmcphccaaGJ
namespace Go.Proofs.Ytplhgenmcphccaa
open Go.RowKit
set_option maxRecDepth 100000 in
set_option maxHeartbeats 2000000 in
theorem qraised_core (v r ab ae : Option Addr) (n m ca ce S : Nat) (z : Int) (w : World) (hq : ∀ w', Below w.heap.size w w' → Calls Try.prog 44 #[.pointer v] w' fun e w2 => e = .returned (.pointer r) ∧ Below w'.heap.size w' w2)
  (hpr : ∀ w', Below w.heap.size w w' → Calls Try.prog 63 #[.pointer r, .slice ab n ca, .slice ae m ce] w' fun e w2 => e = .returned (.tuple #[.agg (natC S), .int .i64 z]) ∧ Below w'.heap.size w' w2) :
  Calls Try.prog 49 #[.pointer v, .slice ae m ce, .slice ab n ca] w fun e w' => e = .returned (.tuple #[.agg (natC S), .int .i64 z]) ∧ Below w.heap.size w w' := by
 go_enter Try.func49, Try.ntmps49
 (repeat ((fail_if_success with_reducible refine rg ?_); go_step))
 refine wp_region_pw ?_
 refine pw_new (by rfl) 24 rfl _ zero_nat ?_
 intro g6 z0 n0 r6 k
 simp only [Act.put, pu]
 have b6 : w.heap.size ≤ g6 := n0
 clear n0
 have sb := k.below w.heap.size (Nat.le_refl _) (by simp)
 clear k
 refine pw_value (by rfl) (.int .i64 0) (fun _ => rfl) ?_
 simp only [Act.put, pu]
 refine pw_nil ?_
 (repeat ((fail_if_success with_reducible refine rg ?_); go_step))
 refine wp_region_pw ?_
 refine pw_mv (by rfl) rfl rfl ?_
 simp only [Act.put, pu]
 refine pw_callB (by rfl) 44 _ _ rfl Try.func44 (by kernel_rfl) #[.pointer v] rfl _ (hq _ sb) ?_
 intro z1001 k
 simp only [Act.put, pu]
 replace r6 := k.row r6 (by simp <;> omega)
 replace sb := sb.trans (k.below w.heap.size sb.size (by simp <;> omega))
 clear k
 refine pw_mv (by rfl) rfl rfl ?_
 simp only [Act.put, pu]
 refine pw_mv (by rfl) rfl rfl ?_
 simp only [Act.put, pu]
 refine pw_callB (by rfl) 63 _ _ rfl Try.func63 (by kernel_rfl) #[.pointer r, .slice ab n ca, .slice ae m ce] rfl _ (hpr _ sb) ?_
 intro z1004 k
 simp only [Act.put, pu]
 replace r6 := k.row r6 (by simp <;> omega)
 replace sb := sb.trans (k.below w.heap.size sb.size (by simp <;> omega))
 clear k
 refine pw_ext (by rfl) rfl rfl rfl ?_
 simp only [Act.put, pu]
 refine pw_ext (by rfl) rfl rfl rfl ?_
 simp only [Act.put, pu]
 refine pw_put (by rfl) 24 _ _ rfl _ rfl r6 (natC S) rfl (by exact size_nat) (by simp only [natC_size]) (natC_one _) ?_
 clear r6
 intro z1007 r6 k
 simp only [Act.put]
 replace sb := sb.trans (k.below w.heap.size sb.size (by simp <;> omega))
 clear k
 refine pw_as (by rfl) rfl rfl ?_
 simp only [Act.put, pu]
 refine pw_nil ?_
 go_wp2
 exact ret_row2 rfl _ rfl r6 4 _ Try.underlying24 (by exact size_nat) rfl _ rfl ⟨rfl, sb⟩
set_option maxRecDepth 100000 in
set_option maxHeartbeats 2000000 in
theorem qmulti_core (v r ab ae : Option Addr) (n m ca ce S : Nat) (z : Int) (w : World) (hq : ∀ w', Below w.heap.size w w' → Calls Try.prog 44 #[.pointer v] w' fun e w2 => e = .returned (.pointer r) ∧ Below w'.heap.size w' w2)
  (hpr : ∀ w', Below w.heap.size w w' → Calls Try.prog 63 #[.pointer r, .slice ab n ca, .slice ae m ce] w' fun e w2 => e = .returned (.tuple #[.agg (natC S), .int .i64 z]) ∧ Below w'.heap.size w' w2) :
  Calls Try.prog 23 #[.pointer v, .slice ab n ca, .slice ae m ce] w fun e w' => e = .returned (.tuple #[.agg (natC S), .int .i64 z]) ∧ Below w.heap.size w w' := by
 have hra := fun w' (hb : Below w.heap.size w w') => qraised_core v r ab ae n m ca ce S z w' (fun w2 h2 => hq w2 (below_on hb (Nat.le_refl _) h2)) fun w2 h2 => hpr w2 (below_on hb (Nat.le_refl _) h2)
 clear hq hpr
 go_enter Try.func23, Try.ntmps23
 (repeat ((fail_if_success with_reducible refine rg ?_); go_step))
 refine wp_region_pw ?_
 refine pw_new (by rfl) 24 rfl _ zero_nat ?_
 intro g6 z0 n0 r6 k
 simp only [Act.put, pu]
 have b6 : w.heap.size ≤ g6 := n0
 clear n0
 have sb := k.below w.heap.size (Nat.le_refl _) (by simp)
 clear k
 refine pw_value (by rfl) (.int .i64 0) (fun _ => rfl) ?_
 simp only [Act.put, pu]
 refine pw_nil ?_
 (repeat ((fail_if_success with_reducible refine rg ?_); go_step))
 refine wp_region_pw ?_
 refine pw_mv (by rfl) rfl rfl ?_
 simp only [Act.put, pu]
 refine pw_mv (by rfl) rfl rfl ?_
 simp only [Act.put, pu]
 refine pw_mv (by rfl) rfl rfl ?_
 simp only [Act.put, pu]
 refine pw_callB (by rfl) 49 _ _ rfl Try.func49 (by kernel_rfl) #[.pointer v, .slice ae m ce, .slice ab n ca] rfl _ (hra _ sb) ?_
 intro z1003 k
 simp only [Act.put, pu]
 replace r6 := k.row r6 (by simp <;> omega)
 replace sb := sb.trans (k.below w.heap.size sb.size (by simp <;> omega))
 clear k
 refine pw_ext (by rfl) rfl rfl rfl ?_
 simp only [Act.put, pu]
 refine pw_ext (by rfl) rfl rfl rfl ?_
 simp only [Act.put, pu]
 refine pw_put (by rfl) 24 _ _ rfl _ rfl r6 (natC S) rfl (by exact size_nat) (by simp only [natC_size]) (natC_one _) ?_
 clear r6
 intro z1006 r6 k
 simp only [Act.put]
 replace sb := sb.trans (k.below w.heap.size sb.size (by simp <;> omega))
 clear k
 refine pw_as (by rfl) rfl rfl ?_
 simp only [Act.put, pu]
 refine pw_nil ?_
 go_wp2
 exact ret_row2 rfl _ rfl r6 4 _ Try.underlying24 (by exact size_nat) rfl _ rfl ⟨rfl, sb⟩
set_option maxRecDepth 100000 in
set_option maxHeartbeats 2000000 in
theorem qmul_core (v r : Option Addr) (A B S : Nat) (w : World) (hq : ∀ w', Below w.heap.size w w' → Calls Try.prog 44 #[.pointer v] w' fun e w2 => e = .returned (.pointer r) ∧ Below w'.heap.size w' w2)
  (hmu : ∀ w', Below w.heap.size w w' → Calls Try.prog 47 #[.pointer r, .agg (natC A), .agg (natC B)] w' fun e w2 => e = .returned (.agg (natC S)) ∧ Below w'.heap.size w' w2) :
  Calls Try.prog 16 #[.pointer v, .agg (natC A), .agg (natC B)] w fun e w' => e = .returned (.agg (natC S)) ∧ Below w.heap.size w w' := by
 go_enter Try.func16, Try.ntmps16
 (repeat ((fail_if_success with_reducible refine rg ?_); go_step))
 refine wp_region_pw ?_
 refine pw_boxr (by rfl) 24 _ rfl (_) rfl ?_
 intro g4 z0 n0 r4 k
 simp only [Act.put, pu]
 have b4 : w.heap.size ≤ g4 := n0
 clear n0
 have sb := k.below w.heap.size (Nat.le_refl _) (by simp)
 clear k
 refine pw_boxr (by rfl) 24 _ rfl (_) rfl ?_
 intro g5 z1 n0 r5 k
 simp only [Act.put, pu]
 have d4x5 := Nat.lt_of_lt_of_le r4.lt n0
 have b5 := Nat.le_trans sb.size n0
 clear n0
 replace r4 := k.row r4 (by simp <;> omega)
 replace sb := sb.trans (k.below w.heap.size sb.size (by simp <;> omega))
 clear k
 refine pw_new (by rfl) 24 rfl _ zero_nat ?_
 intro g6 z2 n0 r6 k
 simp only [Act.put, pu]
 have d4x6 := Nat.lt_of_lt_of_le r4.lt n0
 have d5x6 := Nat.lt_of_lt_of_le r5.lt n0
 have b6 := Nat.le_trans sb.size n0
 clear n0
 replace r4 := k.row r4 (by simp <;> omega)
 replace r5 := k.row r5 (by simp <;> omega)
 replace sb := sb.trans (k.below w.heap.size sb.size (by simp <;> omega))
 clear k
 refine pw_nil ?_
 (repeat ((fail_if_success with_reducible refine rg ?_); go_step))
 apply wp_region_mix (by kernel_rfl) [(g6, 24, natC 0)] [_, _, _, _, _, _] ⟨r6, trivial⟩ (by simp <;> omega)
 ·intro p
  refine mx_move rfl rfl ?_
  simp only [Act.put, pu]
  refine mx_callK 44 _ _ rfl Try.func44 (by kernel_rfl) #[.pointer v] rfl _ (fun w' hk => hq w' (sb.trans (hk.below w.heap.size sb.size (by simp <;> omega)))) ?_
  simp only [Act.put, pu]
  refine mx_load 24 _ rfl _ rfl r4 (by simp <;> omega) 4 _ Try.underlying24 size_nat ?_
  simp only [Act.put, pu]
  refine mx_load 24 _ rfl _ rfl r5 (by simp <;> omega) 4 _ Try.underlying24 size_nat ?_
  simp only [Act.put, pu]
  refine mx_callK 47 _ _ rfl Try.func47 (by kernel_rfl) #[.pointer r, .agg (natC A), .agg (natC B)] rfl _ (fun w' hk => hmu w' (sb.trans (hk.below w.heap.size sb.size (by simp <;> omega)))) ?_
  simp only [Act.put, pu]
  refine mx_put 0 24 _ _ rfl rfl rfl (natC S) rfl (by exact size_nat) (by simp only [natC_size]) (natC_one _) ?_
  simp only [Act.put]
  refine mx_end ?_
  intro w2 hkw hrw hnew hdis
  have zr6 : Row w2 (g6) (natC S) 24 := hrw 0 (24, natC S) rfl
  replace sb := sb.trans (hkw.below w.heap.size sb.size (by simp <;> omega))
  clear hkw hrw hnew hdis r6
  have r6 := zr6
  clear zr6
  go_wp2
  exact ret_row rfl _ rfl r6 4 _ Try.underlying24 (by exact size_nat) rfl ⟨rfl, sb⟩
 ·kernel_rfl
set_option maxRecDepth 100000 in
set_option maxHeartbeats 2000000 in
theorem qexp_core (v : Option Addr) (A E S : Nat) (z : Int) (w : World)
  (hra : ∀ w', Below w.heap.size w w' → ∀ x y, Row w' x (natC A) 24 → Row w' y (natC E) 24 → Calls Try.prog 49 #[.pointer v, .slice (some ⟨y, 0, none⟩) 1 1, .slice (some ⟨x, 0, none⟩) 1 1] w' fun e w2 => e = .returned (.tuple #[.agg (natC S), .int .i64 z]) ∧ Below w'.heap.size w' w2) :
  Calls Try.prog 18 #[.pointer v, .agg (natC A), .agg (natC E)] w fun e w' => e = .returned (.agg (natC S)) ∧ Below w.heap.size w w' := by
 obtain ⟨ie, hie, hz, hsz, _⟩ := info_nat'
 have hs1 : ¬ 1 * ie.size > 2 ^ 24 := by rw [hsz]; decide
 have hs2 : ¬ 1 * ie.size = 0 := by rw [hsz]; decide
 have hlA := lit_one A ie.size hsz
 have hlE := lit_one E ie.size hsz
 go_enter Try.func18, Try.ntmps18
 (repeat ((fail_if_success with_reducible refine rg ?_); go_step))
 refine wp_region_pw ?_
 refine pw_boxr (by rfl) 24 _ rfl (_) rfl ?_
 intro g4 z0 n0 r4 k
 simp only [Act.put, pu]
 have b4 : w.heap.size ≤ g4 := n0
 clear n0
 have sb := k.below w.heap.size (Nat.le_refl _) (by simp)
 clear k
 refine pw_boxr (by rfl) 24 _ rfl (_) rfl ?_
 intro g5 z1 n0 r5 k
 simp only [Act.put, pu]
 have d4x5 := Nat.lt_of_lt_of_le r4.lt n0
 have b5 := Nat.le_trans sb.size n0
 clear n0
 replace r4 := k.row r4 (by simp <;> omega)
 replace sb := sb.trans (k.below w.heap.size sb.size (by simp <;> omega))
 clear k
 refine pw_new (by rfl) 24 rfl _ zero_nat ?_
 intro g6 z2 n0 r6 k
 simp only [Act.put, pu]
 have d4x6 := Nat.lt_of_lt_of_le r4.lt n0
 have d5x6 := Nat.lt_of_lt_of_le r5.lt n0
 have b6 := Nat.le_trans sb.size n0
 clear n0
 replace r4 := k.row r4 (by simp <;> omega)
 replace r5 := k.row r5 (by simp <;> omega)
 replace sb := sb.trans (k.below w.heap.size sb.size (by simp <;> omega))
 clear k
 refine pw_nil ?_
 (repeat ((fail_if_success with_reducible refine rg ?_); go_step))
 refine wp_region_pw ?_
 refine pw_mv (by rfl) rfl rfl ?_
 simp only [Act.put, pu]
 refine pw_loadm (by rfl) 24 _ rfl _ 0 rfl r5.r _ (part_all _) _ Try.underlying24 rfl size_nat ?_
 simp only [Act.put, pu]
 refine pw_litr (by rfl) 49 24 1 _ rfl (natC E) ie _ Try.underlying49 hie hz hs1 hs2 [(0, .agg (natC E))] rfl hlE ?_
 intro gU z1002 n0 rU k
 simp only [Act.put, pu]
 have d4xU := Nat.lt_of_lt_of_le r4.lt n0
 have d5xU := Nat.lt_of_lt_of_le r5.lt n0
 have d6xU := Nat.lt_of_lt_of_le r6.lt n0
 have bU := Nat.le_trans sb.size n0
 clear n0
 replace r4 := k.row r4 (by simp <;> omega)
 replace r5 := k.row r5 (by simp <;> omega)
 replace r6 := k.row r6 (by simp <;> omega)
 replace sb := sb.trans (k.below w.heap.size sb.size (by simp <;> omega))
 clear k
 refine pw_loadm (by rfl) 24 _ rfl _ 0 rfl r4.r _ (part_all _) _ Try.underlying24 rfl size_nat ?_
 simp only [Act.put, pu]
 refine pw_litr (by rfl) 49 24 1 _ rfl (natC A) ie _ Try.underlying49 hie hz hs1 hs2 [(0, .agg (natC A))] rfl hlA ?_
 intro gV z1004 n0 rV k
 simp only [Act.put, pu]
 have d4xV := Nat.lt_of_lt_of_le r4.lt n0
 have d5xV := Nat.lt_of_lt_of_le r5.lt n0
 have d6xV := Nat.lt_of_lt_of_le r6.lt n0
 have dUxV := Nat.lt_of_lt_of_le rU.lt n0
 have bV := Nat.le_trans sb.size n0
 clear n0
 replace r4 := k.row r4 (by simp <;> omega)
 replace r5 := k.row r5 (by simp <;> omega)
 replace r6 := k.row r6 (by simp <;> omega)
 replace rU := k.row rU (by simp <;> omega)
 replace sb := sb.trans (k.below w.heap.size sb.size (by simp <;> omega))
 clear k
 refine pw_callB (by rfl) 49 _ _ rfl Try.func49 (by kernel_rfl) #[.pointer v, .slice (some ⟨gU, 0, none⟩) 1 1, .slice (some ⟨gV, 0, none⟩) 1 1] rfl _ (hra _ sb gV gU rV rU) ?_
 intro z1005 k
 simp only [Act.put, pu]
 replace r4 := k.row r4 (by simp <;> omega)
 replace r5 := k.row r5 (by simp <;> omega)
 replace r6 := k.row r6 (by simp <;> omega)
 replace rU := k.row rU (by simp <;> omega)
 replace rV := k.row rV (by simp <;> omega)
 replace sb := sb.trans (k.below w.heap.size sb.size (by simp <;> omega))
 clear k
 refine pw_mv (by rfl) rfl rfl ?_
 simp only [Act.put, pu]
 refine pw_ext (by rfl) rfl rfl rfl ?_
 simp only [Act.put, pu]
 refine pw_ext (by rfl) rfl rfl rfl ?_
 simp only [Act.put, pu]
 refine pw_new (by rfl) 24 rfl _ zero_nat ?_
 intro g7 z1009 n0 r7 k
 simp only [Act.put, pu]
 have d4x7 := Nat.lt_of_lt_of_le r4.lt n0
 have d5x7 := Nat.lt_of_lt_of_le r5.lt n0
 have d6x7 := Nat.lt_of_lt_of_le r6.lt n0
 have dUx7 := Nat.lt_of_lt_of_le rU.lt n0
 have dVx7 := Nat.lt_of_lt_of_le rV.lt n0
 have b7 := Nat.le_trans sb.size n0
 clear n0
 replace r4 := k.row r4 (by simp <;> omega)
 replace r5 := k.row r5 (by simp <;> omega)
 replace r6 := k.row r6 (by simp <;> omega)
 replace rU := k.row rU (by simp <;> omega)
 replace rV := k.row rV (by simp <;> omega)
 replace sb := sb.trans (k.below w.heap.size sb.size (by simp <;> omega))
 clear k
 refine pw_put (by rfl) 24 _ _ rfl _ rfl r7 (natC S) rfl (by exact size_nat) (by simp only [natC_size]) (natC_one _) ?_
 clear r7
 intro z1010 r7 k
 simp only [Act.put]
 replace r4 := k.row r4 (by simp <;> omega)
 replace r5 := k.row r5 (by simp <;> omega)
 replace r6 := k.row r6 (by simp <;> omega)
 replace rU := k.row rU (by simp <;> omega)
 replace rV := k.row rV (by simp <;> omega)
 replace sb := sb.trans (k.below w.heap.size sb.size (by simp <;> omega))
 clear k
 refine pw_as (by rfl) rfl rfl ?_
 simp only [Act.put, pu]
 refine pw_nil ?_
 (repeat ((fail_if_success with_reducible refine rg ?_); go_step))
 refine wp_region_pw ?_
 refine pw_loadm (by rfl) 24 _ rfl _ 0 rfl r7.r _ (part_all _) _ Try.underlying24 rfl size_nat ?_
 simp only [Act.put, pu]
 refine pw_put (by rfl) 24 _ _ rfl _ rfl r6 (natC S) rfl (by exact size_nat) (by simp only [natC_size]) (natC_one _) ?_
 clear r6
 intro z2001 r6 k
 simp only [Act.put]
 replace r7 := k.row r7 (by simp <;> omega)
 replace sb := sb.trans (k.below w.heap.size sb.size (by simp <;> omega))
 clear k
 refine pw_nil ?_
 go_wp2
 exact ret_row rfl _ rfl r6 4 _ Try.underlying24 (by exact size_nat) rfl ⟨rfl, sb⟩
set_option maxRecDepth 100000 in
set_option maxHeartbeats 2000000 in
theorem qof_core (v : Option Addr) (E GG S : Nat) (w : World) (hg : ∀ w', Below w.heap.size w w' → Calls Try.prog 51 #[.pointer v] w' fun e w2 => e = .returned (.agg (natC GG)) ∧ Below w'.heap.size w' w2)
  (hex : ∀ w', Below w.heap.size w w' → Calls Try.prog 18 #[.pointer v, .agg (natC GG), .agg (natC E)] w' fun e w2 => e = .returned (.agg (natC S)) ∧ Below w'.heap.size w' w2) :
  Calls Try.prog 20 #[.pointer v, .agg (natC E)] w fun e w' => e = .returned (.agg (natC S)) ∧ Below w.heap.size w w' := by
 go_enter Try.func20, Try.ntmps20
 (repeat ((fail_if_success with_reducible refine rg ?_); go_step))
 refine wp_region_pw ?_
 refine pw_boxr (by rfl) 24 _ rfl (_) rfl ?_
 intro g3 z0 n0 r3 k
 simp only [Act.put, pu]
 have b3 : w.heap.size ≤ g3 := n0
 clear n0
 have sb := k.below w.heap.size (Nat.le_refl _) (by simp)
 clear k
 refine pw_new (by rfl) 24 rfl _ zero_nat ?_
 intro g4 z1 n0 r4 k
 simp only [Act.put, pu]
 have d3x4 := Nat.lt_of_lt_of_le r3.lt n0
 have b4 := Nat.le_trans sb.size n0
 clear n0
 replace r3 := k.row r3 (by simp <;> omega)
 replace sb := sb.trans (k.below w.heap.size sb.size (by simp <;> omega))
 clear k
 refine pw_nil ?_
 (repeat ((fail_if_success with_reducible refine rg ?_); go_step))
 apply wp_region_mix (by kernel_rfl) [(g4, 24, natC 0)] [_, _, _, _, _, _] ⟨r4, trivial⟩ (by simp <;> omega)
 ·intro p
  refine mx_move rfl rfl ?_
  simp only [Act.put, pu]
  refine mx_move rfl rfl ?_
  simp only [Act.put, pu]
  refine mx_callK 51 _ _ rfl Try.func51 (by kernel_rfl) #[.pointer v] rfl _ (fun w' hk => hg w' (sb.trans (hk.below w.heap.size sb.size (by simp <;> omega)))) ?_
  simp only [Act.put, pu]
  refine mx_load 24 _ rfl _ rfl r3 (by simp <;> omega) 4 _ Try.underlying24 size_nat ?_
  simp only [Act.put, pu]
  refine mx_callK 18 _ _ rfl Try.func18 (by kernel_rfl) #[.pointer v, .agg (natC GG), .agg (natC E)] rfl _ (fun w' hk => hex w' (sb.trans (hk.below w.heap.size sb.size (by simp <;> omega)))) ?_
  simp only [Act.put, pu]
  refine mx_put 0 24 _ _ rfl rfl rfl (natC S) rfl (by exact size_nat) (by simp only [natC_size]) (natC_one _) ?_
  simp only [Act.put]
  refine mx_end ?_
  intro w2 hkw hrw hnew hdis
  have zr4 : Row w2 (g4) (natC S) 24 := hrw 0 (24, natC S) rfl
  replace sb := sb.trans (hkw.below w.heap.size sb.size (by simp <;> omega))
  clear hkw hrw hnew hdis r4
  have r4 := zr4
  clear zr4
  go_wp2
  exact ret_row rfl _ rfl r4 4 _ Try.underlying24 (by exact size_nat) rfl ⟨rfl, sb⟩
 ·kernel_rfl
set_option maxRecDepth 100000 in
set_option maxHeartbeats 2000000 in
theorem qinv_core (v : Option Addr) (A QQ L S : Nat) (z : Int) (w : World) (hqq : ∀ w', Below w.heap.size w w' → Calls Try.prog 46 #[.pointer v] w' fun e w2 => e = .returned (.agg (natC QQ)) ∧ Below w'.heap.size w' w2)
  (hsu : ∀ w', Calls Try.prog 52 #[.agg (natC QQ), .agg (natC 1)] w' fun e w2 => e = .returned (.tuple #[.agg (natC L), .int .i64 z]) ∧ Below w'.heap.size w' w2)
  (hex : ∀ w', Below w.heap.size w w' → Calls Try.prog 18 #[.pointer v, .agg (natC A), .agg (natC L)] w' fun e w2 => e = .returned (.agg (natC S)) ∧ Below w'.heap.size w' w2) :
  Calls Try.prog 21 #[.pointer v, .agg (natC A)] w fun e w' => e = .returned (.agg (natC S)) ∧ Below w.heap.size w w' := by
 have h1 := fun w' => nof_any 1 w' (by decide)
 rw [show (1 : Int).toNat = 1 from rfl] at h1
 go_enter Try.func21, Try.ntmps21
 (repeat ((fail_if_success with_reducible refine rg ?_); go_step))
 refine wp_region_pw ?_
 refine pw_boxr (by rfl) 24 _ rfl (_) rfl ?_
 intro g3 z0 n0 r3 k
 simp only [Act.put, pu]
 have b3 : w.heap.size ≤ g3 := n0
 clear n0
 have sb := k.below w.heap.size (Nat.le_refl _) (by simp)
 clear k
 refine pw_new (by rfl) 24 rfl _ zero_nat ?_
 intro g4 z1 n0 r4 k
 simp only [Act.put, pu]
 have d3x4 := Nat.lt_of_lt_of_le r3.lt n0
 have b4 := Nat.le_trans sb.size n0
 clear n0
 replace r3 := k.row r3 (by simp <;> omega)
 replace sb := sb.trans (k.below w.heap.size sb.size (by simp <;> omega))
 clear k
 refine pw_nil ?_
 (repeat ((fail_if_success with_reducible refine rg ?_); go_step))
 refine wp_region_pw ?_
 refine pw_mv (by rfl) rfl rfl ?_
 simp only [Act.put, pu]
 refine pw_callB (by rfl) 46 _ _ rfl Try.func46 (by kernel_rfl) #[.pointer v] rfl _ (hqq _ sb) ?_
 intro z1001 k
 simp only [Act.put, pu]
 replace r3 := k.row r3 (by simp <;> omega)
 replace r4 := k.row r4 (by simp <;> omega)
 replace sb := sb.trans (k.below w.heap.size sb.size (by simp <;> omega))
 clear k
 refine pw_callB (by rfl) 36 _ _ rfl Try.func36 (by kernel_rfl) #[.int .i64 1] rfl _ (h1 _) ?_
 intro z1002 k
 simp only [Act.put, pu]
 replace r3 := k.row r3 (by simp <;> omega)
 replace r4 := k.row r4 (by simp <;> omega)
 replace sb := sb.trans (k.below w.heap.size sb.size (by simp <;> omega))
 clear k
 refine pw_callB (by rfl) 52 _ _ rfl Try.func52 (by kernel_rfl) #[.agg (natC QQ), .agg (natC 1)] rfl _ (hsu _) ?_
 intro z1003 k
 simp only [Act.put, pu]
 replace r3 := k.row r3 (by simp <;> omega)
 replace r4 := k.row r4 (by simp <;> omega)
 replace sb := sb.trans (k.below w.heap.size sb.size (by simp <;> omega))
 clear k
 refine pw_mv (by rfl) rfl rfl ?_
 simp only [Act.put, pu]
 refine pw_ext (by rfl) rfl rfl rfl ?_
 simp only [Act.put, pu]
 refine pw_ext (by rfl) rfl rfl rfl ?_
 simp only [Act.put, pu]
 refine pw_new (by rfl) 24 rfl _ zero_nat ?_
 intro g5 z1007 n0 r5 k
 simp only [Act.put, pu]
 have d3x5 := Nat.lt_of_lt_of_le r3.lt n0
 have d4x5 := Nat.lt_of_lt_of_le r4.lt n0
 have b5 := Nat.le_trans sb.size n0
 clear n0
 replace r3 := k.row r3 (by simp <;> omega)
 replace r4 := k.row r4 (by simp <;> omega)
 replace sb := sb.trans (k.below w.heap.size sb.size (by simp <;> omega))
 clear k
 refine pw_put (by rfl) 24 _ _ rfl _ rfl r5 (natC L) rfl (by exact size_nat) (by simp only [natC_size]) (natC_one _) ?_
 clear r5
 intro z1008 r5 k
 simp only [Act.put]
 replace r3 := k.row r3 (by simp <;> omega)
 replace r4 := k.row r4 (by simp <;> omega)
 replace sb := sb.trans (k.below w.heap.size sb.size (by simp <;> omega))
 clear k
 refine pw_as (by rfl) rfl rfl ?_
 simp only [Act.put, pu]
 refine pw_nil ?_
 (repeat ((fail_if_success with_reducible refine rg ?_); go_step))
 refine wp_region_pw ?_
 refine pw_mv (by rfl) rfl rfl ?_
 simp only [Act.put, pu]
 refine pw_loadm (by rfl) 24 _ rfl _ 0 rfl r3.r _ (part_all _) _ Try.underlying24 rfl size_nat ?_
 simp only [Act.put, pu]
 refine pw_loadm (by rfl) 24 _ rfl _ 0 rfl r5.r _ (part_all _) _ Try.underlying24 rfl size_nat ?_
 simp only [Act.put, pu]
 refine pw_callB (by rfl) 18 _ _ rfl Try.func18 (by kernel_rfl) #[.pointer v, .agg (natC A), .agg (natC L)] rfl _ (hex _ sb) ?_
 intro z2003 k
 simp only [Act.put, pu]
 replace r3 := k.row r3 (by simp <;> omega)
 replace r4 := k.row r4 (by simp <;> omega)
 replace r5 := k.row r5 (by simp <;> omega)
 replace sb := sb.trans (k.below w.heap.size sb.size (by simp <;> omega))
 clear k
 refine pw_put (by rfl) 24 _ _ rfl _ rfl r4 (natC S) rfl (by exact size_nat) (by simp only [natC_size]) (natC_one _) ?_
 clear r4
 intro z2004 r4 k
 simp only [Act.put]
 replace r3 := k.row r3 (by simp <;> omega)
 replace r5 := k.row r5 (by simp <;> omega)
 replace sb := sb.trans (k.below w.heap.size sb.size (by simp <;> omega))
 clear k
 refine pw_nil ?_
 go_wp2
 exact ret_row rfl _ rfl r4 4 _ Try.underlying24 (by exact size_nat) rfl ⟨rfl, sb⟩
set_option maxRecDepth 100000 in
set_option maxHeartbeats 2000000 in
theorem qin_out (v r : Option Addr) (A : Nat) (w : World) (hq : ∀ w', Below w.heap.size w w' → Calls Try.prog 44 #[.pointer v] w' fun e w2 => e = .returned (.pointer r) ∧ Below w'.heap.size w' w2)
  (hin : ∀ w', Below w.heap.size w w' → Calls Try.prog 45 #[.pointer r, .agg (natC A)] w' fun e w2 => e = .returned (.bool false) ∧ Below w'.heap.size w' w2) :
  Calls Try.prog 14 #[.pointer v, .agg (natC A)] w fun e w' => e = .returned (.bool false) ∧ Below w.heap.size w w' := by
 go_enter Try.func14, Try.ntmps14
 (repeat ((fail_if_success with_reducible refine rg ?_); go_step))
 refine wp_region_pw ?_
 refine pw_boxr (by rfl) 24 _ rfl (_) rfl ?_
 intro g3 z0 n0 r3 k
 simp only [Act.put, pu]
 have b3 : w.heap.size ≤ g3 := n0
 clear n0
 have sb := k.below w.heap.size (Nat.le_refl _) (by simp)
 clear k
 refine pw_value (by rfl) (.bool false) (fun _ => rfl) ?_
 simp only [Act.put, pu]
 refine pw_nil ?_
 (repeat ((fail_if_success with_reducible refine rg ?_); go_step))
 refine wp_region_qw (by kernel_rfl) (by kernel_rfl) ?_
 refine qw_move (by rfl) rfl rfl ?_
 simp only [Act.put, pu]
 refine qw_callK (by rfl) 44 _ _ rfl Try.func44 (by kernel_rfl) #[.pointer v] rfl _ (fun w' hb => hq w' (below_on sb (Nat.le_refl _) hb)) ?_
 simp only [Act.put, pu]
 refine qw_load (by rfl) 24 _ rfl _ rfl r3 4 _ Try.underlying24 size_nat ?_
 simp only [Act.put, pu]
 refine qw_callK (by rfl) 45 _ _ rfl Try.func45 (by kernel_rfl) #[.pointer r, .agg (natC A)] rfl _ (fun w' hb => hin w' (below_on sb (Nat.le_refl _) hb)) ?_
 simp only [Act.put, pu]
 refine qw_move (by rfl) rfl rfl ?_
 simp only [Act.put, pu]
 refine qw_skip (by rfl) ?_
 simp only [Act.put, pu]
 refine qw_skip (by rfl) ?_
 simp only [Act.put, pu]
 refine qw_skip (by rfl) ?_
 simp only [Act.put, pu]
 refine qw_skip (by rfl) ?_
 simp only [Act.put, pu]
 refine qw_skip (by rfl) ?_
 simp only [Act.put, pu]
 refine qw_skip (by rfl) ?_
 simp only [Act.put, pu]
 refine qw_skip (by rfl) ?_
 simp only [Act.put, pu]
 refine qw_pick false (v := .bool false) (by rfl) rfl rfl rfl ?_
 simp only [Act.put, pu]
 refine qw_asg (by rfl) rfl rfl ?_
 simp only [Act.put, pu]
 refine qw_nil ?_
 intro w3 hqb
 replace sb := below_on sb (Nat.le_refl _) hqb
 clear hqb
 go_wp2
 go_ret
 exact ⟨rfl, sb⟩
set_option maxRecDepth 100000 in
set_option maxHeartbeats 2000000 in
theorem qin_core (v r : Option Addr) (A QQ S : Nat) (B : Bool) (w : World) (hB : decide (S % 2 ^ 256 = 1 % 2 ^ 256) = B) (hq : ∀ w', Below w.heap.size w w' → Calls Try.prog 44 #[.pointer v] w' fun e w2 => e = .returned (.pointer r) ∧ Below w'.heap.size w' w2)
  (hin : ∀ w', Below w.heap.size w w' → Calls Try.prog 45 #[.pointer r, .agg (natC A)] w' fun e w2 => e = .returned (.bool true) ∧ Below w'.heap.size w' w2)
  (hqq : ∀ w', Below w.heap.size w w' → Calls Try.prog 46 #[.pointer v] w' fun e w2 => e = .returned (.agg (natC QQ)) ∧ Below w'.heap.size w' w2)
  (hex : ∀ w', Below w.heap.size w w' → Calls Try.prog 18 #[.pointer v, .agg (natC A), .agg (natC QQ)] w' fun e w2 => e = .returned (.agg (natC S)) ∧ Below w'.heap.size w' w2) :
  Calls Try.prog 14 #[.pointer v, .agg (natC A)] w fun e w' => e = .returned (.bool B) ∧ Below w.heap.size w w' := by
 have h1 := fun w' => nof_any 1 w' (by decide)
 rw [show (1 : Int).toNat = 1 from rfl] at h1
 go_enter Try.func14, Try.ntmps14
 (repeat ((fail_if_success with_reducible refine rg ?_); go_step))
 refine wp_region_pw ?_
 refine pw_boxr (by rfl) 24 _ rfl (_) rfl ?_
 intro g3 z0 n0 r3 k
 simp only [Act.put, pu]
 have b3 : w.heap.size ≤ g3 := n0
 clear n0
 have sb := k.below w.heap.size (Nat.le_refl _) (by simp)
 clear k
 refine pw_value (by rfl) (.bool false) (fun _ => rfl) ?_
 simp only [Act.put, pu]
 refine pw_nil ?_
 (repeat ((fail_if_success with_reducible refine rg ?_); go_step))
 refine wp_region_qw (by kernel_rfl) (by kernel_rfl) ?_
 refine qw_move (by rfl) rfl rfl ?_
 simp only [Act.put, pu]
 refine qw_callK (by rfl) 44 _ _ rfl Try.func44 (by kernel_rfl) #[.pointer v] rfl _ (fun w' hb => hq w' (below_on sb (Nat.le_refl _) hb)) ?_
 simp only [Act.put, pu]
 refine qw_load (by rfl) 24 _ rfl _ rfl r3 4 _ Try.underlying24 size_nat ?_
 simp only [Act.put, pu]
 refine qw_callK (by rfl) 45 _ _ rfl Try.func45 (by kernel_rfl) #[.pointer r, .agg (natC A)] rfl _ (fun w' hb => hin w' (below_on sb (Nat.le_refl _) hb)) ?_
 simp only [Act.put, pu]
 refine qw_move (by rfl) rfl rfl ?_
 simp only [Act.put, pu]
 refine qw_move (by rfl) rfl rfl ?_
 simp only [Act.put, pu]
 refine qw_load (by rfl) 24 _ rfl _ rfl r3 4 _ Try.underlying24 size_nat ?_
 simp only [Act.put, pu]
 refine qw_move (by rfl) rfl rfl ?_
 simp only [Act.put, pu]
 refine qw_callK (by rfl) 46 _ _ rfl Try.func46 (by kernel_rfl) #[.pointer v] rfl _ (fun w' hb => hqq w' (below_on sb (Nat.le_refl _) hb)) ?_
 simp only [Act.put, pu]
 refine qw_callK (by rfl) 18 _ _ rfl Try.func18 (by kernel_rfl) #[.pointer v, .agg (natC A), .agg (natC QQ)] rfl _ (fun w' hb => hex w' (below_on sb (Nat.le_refl _) hb)) ?_
 simp only [Act.put, pu]
 refine qw_call (by rfl) 36 _ _ rfl Try.func36 (by kernel_rfl) #[.int .i64 1] rfl _ h1 ?_
 simp only [Act.put, pu]
 refine qw_value (by rfl) (.bool B) (fun w' => (exec_eql_nat _ _ _ rfl S 1 rfl rfl w').trans (by rw [hB])) ?_
 simp only [Act.put, pu]
 refine qw_pick true (v := .bool B) (by rfl) rfl rfl rfl ?_
 simp only [Act.put, pu]
 refine qw_asg (by rfl) rfl rfl ?_
 simp only [Act.put, pu]
 refine qw_nil ?_
 intro w3 hqb
 replace sb := below_on sb (Nat.le_refl _) hqb
 clear hqb
 go_wp2
 go_ret
 exact ⟨rfl, sb⟩
theorem qMulti_ok (g gr gf P Q G n ca ce : Nat) (ab ae : Option Addr) (a' b' : Nat → Nat) (gb ob ge oe : Nat) (bcs ecs : Array Value) (tb te : TypeId) (w : World) (hn : n ≤ 64)
  (hna : NatsAt w ab n a' gb ob bcs tb) (hnb : NatsAt w ae n b' ge oe ecs te) (q : RgQ P) (h : GrpAt w g gr gf P Q G) :
  Calls Try.prog 23 #[.pointer (some ⟨g, 0, none⟩), .slice ab n ca, .slice ae n ce] w fun e w' => e = .returned (.tuple #[.agg (natC (prd (fun i => a' i ^ b' i) n % P)), .int .i64 0]) ∧ Below w.heap.size w w' :=
 qmulti_core _ _ ab ae n n ca ce _ 0 w (fun w' hb => grpRing_any _ _ _ _ _ _ w' (h.below hb).kn) fun w' hb => prod_ok n P a' b' ab ae ca ce gb ob ge oe bcs ecs tb te gr w' ⟨hn, q.m, q.odd, q.two, hna.below hb, hnb.below hb⟩ (h.below hb).ring
theorem qMulti_differ (g gr gf P Q G n m ca ce : Nat) (ab ae : Option Addr) (w : World) (hnm : n ≠ m) (q : RgQ P) (h : GrpAt w g gr gf P Q G) :
  Calls Try.prog 23 #[.pointer (some ⟨g, 0, none⟩), .slice ab n ca, .slice ae m ce] w fun e w' => e = .returned (.tuple #[.agg (natC 0), .int .i64 1]) ∧ Below w.heap.size w w' :=
 qmulti_core _ _ ab ae n m ca ce _ 1 w (fun w' hb => grpRing_any _ _ _ _ _ _ w' (h.below hb).kn) fun w' hb => prod_len _ ab ae n m ca ce w' hnm fun w2 h2 => given_any P _ _ _ gr w2 (Nat.lt_of_lt_of_le (by decide) q.two) q.m ((h.below hb).below h2).ring
theorem qMulti_big (g gr gf P Q G n ca ce : Nat) (ab ae : Option Addr) (w : World) (hn : 64 < n) (q : RgQ P) (h : GrpAt w g gr gf P Q G) :
  Calls Try.prog 23 #[.pointer (some ⟨g, 0, none⟩), .slice ab n ca, .slice ae n ce] w fun e w' => e = .returned (.tuple #[.agg (natC 0), .int .i64 1]) ∧ Below w.heap.size w w' :=
 qmulti_core _ _ ab ae n n ca ce _ 1 w (fun w' hb => grpRing_any _ _ _ _ _ _ w' (h.below hb).kn) fun w' hb => prod_big _ ab ae n n ca ce w' rfl hn fun w2 h2 => given_any P _ _ _ gr w2 (Nat.lt_of_lt_of_le (by decide) q.two) q.m ((h.below hb).below h2).ring
theorem qMul_ok (A B g gr gf P Q G : Nat) (w : World) (hA : A < 2 ^ 256) (hB : B < 2 ^ 256) (q : RgQ P) (h : GrpAt w g gr gf P Q G) :
  Calls Try.prog 16 #[.pointer (some ⟨g, 0, none⟩), .agg (natC A), .agg (natC B)] w fun e w' => e = .returned (.agg (natC (A * B % P))) ∧ Below w.heap.size w w' :=
 qmul_core _ _ A B _ w (fun w' hb => grpRing_any _ _ _ _ _ _ w' (h.below hb).kn) fun w' hb => mul_ok A B P gr q w' hA hB (h.below hb).ring
theorem qExp_ok (A E g gr gf P Q G : Nat) (w : World) (hA : A < 2 ^ 256) (hE : E < 2 ^ 256) (q : RgQ P) (h : GrpAt w g gr gf P Q G) :
  Calls Try.prog 18 #[.pointer (some ⟨g, 0, none⟩), .agg (natC A), .agg (natC E)] w fun e w' => e = .returned (.agg (natC (A ^ E % P))) ∧ Below w.heap.size w w' := by
 refine qexp_core _ A E _ 0 w fun w' hb x y ra rb => qraised_core _ _ _ _ 1 1 1 1 _ 0 w' (fun w2 h2 => grpRing_any _ _ _ _ _ _ w2 ((h.below hb).below h2).kn) fun w2 h2 => ?_
 have := prod_ok 1 P (fun _ => A) (fun _ => E) (some ⟨x, 0, none⟩) (some ⟨y, 0, none⟩) 1 1 x 0 y 0 (natC A) (natC E) 24 24 gr w2 ⟨by decide, q.m, q.odd, q.two, nats_one (ra.belowAll h2) hA, nats_one (rb.belowAll h2) hE⟩ ((h.below hb).below h2).ring
 rw [show prd (fun _ => A ^ E) 1 = A ^ E from Nat.one_mul _] at this
 exact this
theorem qOf_ok (E g gr gf P Q G : Nat) (w : World) (hE : E < 2 ^ 256) (hG : G < 2 ^ 256) (q : RgQ P) (h : GrpAt w g gr gf P Q G) :
  Calls Try.prog 20 #[.pointer (some ⟨g, 0, none⟩), .agg (natC E)] w fun e w' => e = .returned (.agg (natC (G ^ E % P))) ∧ Below w.heap.size w w' :=
 qof_core _ E G _ w (fun w' hb => grpG_any _ _ _ _ _ _ w' (h.below hb).kn) fun w' hb => qExp_ok G E g gr gf P Q G w' hG hE q (h.below hb)
theorem less_mod (Q M : Nat) (h : 0 < Q) (hM : 0 < M) : (Q + (M - 1)) % M = (Q - 1) % M := by
 rw [show Q + (M - 1) = Q - 1 + M by omega, Nat.add_mod_right]
theorem less_one (Q : Nat) (h : 0 < Q) : natC (less Q 1) = natC (Q - 1) := by
 rw [← natC_full (less Q 1), ← natC_full (Q - 1)]
 exact congrArg natC (less_mod Q (2 ^ 256) h (Nat.two_pow_pos 256))
theorem qInv_ok (A g gr gf P Q G : Nat) (w : World) (hA : A < 2 ^ 256) (h0 : 0 < Q) (hQ : Q < 2 ^ 256) (q : RgQ P) (h : GrpAt w g gr gf P Q G) :
  Calls Try.prog 21 #[.pointer (some ⟨g, 0, none⟩), .agg (natC A)] w fun e w' => e = .returned (.agg (natC (A ^ (Q - 1) % P))) ∧ Below w.heap.size w w' := by
 refine qinv_core _ A Q (Q - 1) _ ((bN Q 1 256 : Nat) : Int) w (fun w' hb => grpQ_any _ _ _ _ _ _ w' (h.below hb).kn) (fun w' => ?_) fun w' hb => qExp_ok A (Q - 1) g gr gf P Q G w' hA (by omega) q (h.below hb)
 have := nsub_any Q 1 w' (by decide)
 rw [less_one Q h0] at this
 exact this
theorem one_of (x P : Nat) (hP : P < 2 ^ 256) (h2 : 2 ≤ P) : decide (x % P % 2 ^ 256 = 1 % 2 ^ 256) = decide (x % P = 1) := by
 rw [Nat.mod_eq_of_lt (Nat.lt_trans (Nat.mod_lt x (Nat.lt_of_lt_of_le (by decide) h2)) hP), show 1 % 2 ^ 256 = 1 from rfl]
/-- Is a natural a member of the subgroup? -/
def memN (P Q A : Nat) : Bool := decide (A < P) && decide (A ^ Q % P = 1)
theorem qIn_ok (A g gr gf P Q G : Nat) (w : World) (hA : A < 2 ^ 256) (hQ : Q < 2 ^ 256) (q : RgQ P) (h : GrpAt w g gr gf P Q G) :
  Calls Try.prog 14 #[.pointer (some ⟨g, 0, none⟩), .agg (natC A)] w fun e w' => e = .returned (.bool (memN P Q A)) ∧ Below w.heap.size w w' := by
 have hin := fun w' (hb : Below w.heap.size w w') => ringIn_any A P _ _ _ gr w' hA (Nat.lt_of_lt_of_le (by decide) q.two) q.m (h.below hb).ring
 rw [cmp_neg] at hin
 unfold memN
 by_cases hl : A < P
 ·rw [decide_eq_true hl, Bool.true_and]
  rw [decide_eq_true hl] at hin
  exact qin_core _ _ A Q (A ^ Q % P) _ w (one_of _ P q.m q.two) (fun w' hb => grpRing_any _ _ _ _ _ _ w' (h.below hb).kn) hin (fun w' hb => grpQ_any _ _ _ _ _ _ w' (h.below hb).kn) fun w' hb => qExp_ok A Q g gr gf P Q G w' hA hQ q (h.below hb)
 ·rw [decide_eq_false hl, Bool.false_and]
  rw [decide_eq_false hl] at hin
  exact qin_out _ _ A w (fun w' hb => grpRing_any _ _ _ _ _ _ w' (h.below hb).kn) hin
theorem qMulti_no (v ab ae : Option Addr) (n m ca ce : Nat) (w : World) (h : NoG w v) :
  Calls Try.prog 23 #[.pointer v, .slice ab n ca, .slice ae m ce] w fun e w' => e = .returned (.tuple #[.agg (natC 0), .int .i64 1]) ∧ Below w.heap.size w w' :=
 qmulti_core _ _ ab ae n m ca ce _ 1 w (fun w' hb => grpRing_any _ _ _ _ _ _ w' (h.below hb)) fun w' _ => prod_no none ab ae n m ca ce w' (.inl rfl)
theorem qMul_no (v : Option Addr) (A B : Nat) (w : World) (h : NoG w v) :
  Calls Try.prog 16 #[.pointer v, .agg (natC A), .agg (natC B)] w fun e w' => e = .returned (.agg (natC 0)) ∧ Below w.heap.size w w' :=
 qmul_core _ _ A B _ w (fun w' hb => grpRing_any _ _ _ _ _ _ w' (h.below hb)) fun w' _ => mul_no none A B w' (.inl rfl)
theorem qExp_no (v : Option Addr) (A E : Nat) (w : World) (h : NoG w v) :
  Calls Try.prog 18 #[.pointer v, .agg (natC A), .agg (natC E)] w fun e w' => e = .returned (.agg (natC 0)) ∧ Below w.heap.size w w' :=
 qexp_core _ A E _ 1 w fun w' hb _ _ _ _ => qraised_core _ _ _ _ 1 1 1 1 _ 1 w' (fun w2 h2 => grpRing_any _ _ _ _ _ _ w2 ((h.below hb).below h2)) fun w2 _ => prod_no none _ _ 1 1 1 1 w2 (.inl rfl)
theorem qOf_no (v : Option Addr) (E : Nat) (w : World) (h : NoG w v) :
  Calls Try.prog 20 #[.pointer v, .agg (natC E)] w fun e w' => e = .returned (.agg (natC 0)) ∧ Below w.heap.size w w' :=
 qof_core _ E 0 _ w (fun w' hb => grpG_any _ _ _ _ _ _ w' (h.below hb)) fun w' hb => qExp_no v 0 E w' (h.below hb)
theorem qInv_no (v : Option Addr) (A : Nat) (w : World) (h : NoG w v) :
  Calls Try.prog 21 #[.pointer v, .agg (natC A)] w fun e w' => e = .returned (.agg (natC 0)) ∧ Below w.heap.size w w' :=
 qinv_core _ A 0 (less 0 1) _ _ w (fun w' hb => grpQ_any _ _ _ _ _ _ w' (h.below hb)) (fun w' => nsub_any 0 1 w' (by decide)) fun w' hb => qExp_no v A _ w' (h.below hb)
theorem qIn_no (v : Option Addr) (A : Nat) (w : World) (h : NoG w v) :
  Calls Try.prog 14 #[.pointer v, .agg (natC A)] w fun e w' => e = .returned (.bool false) ∧ Below w.heap.size w w' :=
 qin_out _ _ A w (fun w' hb => grpRing_any _ _ _ _ _ _ w' (h.below hb)) fun w' _ => in_no none A w' (.inl rfl)
end Go.Proofs.Ytplhgenmcphccaa
