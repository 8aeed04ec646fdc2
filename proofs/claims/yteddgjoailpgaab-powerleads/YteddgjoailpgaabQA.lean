/- Plain mathematics of layer 9: powers of what is 1 to the Q. -/
import Derived.Test.YteddgjoailpgaabPM
import Derived.Test.YteddgjoailpgaabFA
import Derived.Test.YteddgjoailpgaabGT
import Derived.Test.YteddgjoailpgaabGJ
import Derived.Test.YteddgjoailpgaabMPow
namespace Go.Proofs.Yteddgjoailpgaab
theorem qp_add {P Q G : Nat} (h2 : 2 ≤ P) (h : G ^ Q % P = 1) (a b : Nat) : G ^ a % P * (G ^ b % P) % P = G ^ ((a + b) % Q) % P := by
 rw [← Nat.mul_mod, ← Nat.pow_add]
 exact pow_by h2 h _
theorem qp_mul {P Q G : Nat} (h2 : 2 ≤ P) (h : G ^ Q % P = 1) (a b : Nat) : (G ^ a % P) ^ b % P = G ^ (a * b % Q) % P := by
 rw [← Nat.pow_mod, ← Nat.pow_mul]
 exact pow_by h2 h _
theorem qp_two {P Q G : Nat} (h2 : 2 ≤ P) (h : G ^ Q % P = 1) (a b : Nat) : prd (fun i => two2 (G ^ a % P) (G ^ b % P) i ^ two2 b a i) 2 % P = G ^ ((a * b % Q + a * b % Q) % Q) % P := by
 show 1 * (G ^ a % P) ^ b * (G ^ b % P) ^ a % P = _
 rw [Nat.one_mul, Nat.mul_mod, qp_mul h2 h, qp_mul h2 h, qp_add h2 h, Nat.mul_comm b a]
theorem neg_mul (a Q : Nat) (hQ : 0 < Q) : a * (Q - 1) % Q = sbN 0 a Q := by
 unfold sbN
 rw [Nat.zero_mod, Nat.zero_add, Nat.mul_mod, Nat.mul_mod_mod]
 have hr := Nat.mod_lt a hQ
 generalize a % Q = r at *
 cases r with
 | zero => rw [Nat.zero_mul, Nat.zero_mod, Nat.sub_zero, Nat.mod_self]
 | succ r =>
  have e : (r + 1) * (Q - 1) = (Q - (r + 1)) + Q * r := by
   obtain ⟨k, rfl⟩ : ∃ k, Q = r + 1 + k := ⟨Q - (r + 1), by omega⟩
   rw [show r + 1 + k - 1 = r + k by omega, Nat.add_sub_cancel_left]
   simp only [Nat.add_mul, Nat.mul_add, Nat.one_mul]
   rw [Nat.mul_comm k r]
   omega
  rw [e, Nat.add_mul_mod_self_left]
theorem qp_inv {P Q G : Nat} (h2 : 2 ≤ P) (hQ : 0 < Q) (h : G ^ Q % P = 1) (a : Nat) : (G ^ a % P) ^ (Q - 1) % P = G ^ sbN 0 a Q % P := by
 rw [qp_mul h2 h, neg_mul a Q hQ]
theorem qp_one {P Q G : Nat} (h2 : 2 ≤ P) (hQ : 0 < Q) (h : G ^ Q % P = 1) (a : Nat) : G ^ a % P * (G ^ sbN 0 a Q % P) % P = 1 := by
 rw [qp_add h2 h]
 have e : (a + sbN 0 a Q) % Q = 0 := by
  unfold sbN
  rw [Nat.zero_mod, Nat.zero_add, Nat.add_mod_mod]
  have hr := Nat.mod_lt a hQ
  have e2 : a + (Q - a % Q) = Q * (a / Q + 1) := by
   rw [Nat.mul_add, Nat.mul_one]
   have := Nat.div_add_mod a Q
   omega
  rw [e2, Nat.mul_mod_right]
 rw [e, Nat.pow_zero, Nat.mod_eq_of_lt h2]
end Go.Proofs.Yteddgjoailpgaab
/- power's In, Mul, Exp, Of, Inv, Multi: of a group that New has made, and of one that nobody made. -/
namespace Go.Proofs.Yteddgjoailpgaab
open Go.RowKit
set_option maxRecDepth 100000 in
set_option maxHeartbeats 2000000 in
theorem qraised_core (v r ab ae : Option Addr) (n m ca ce S : Nat) (z : Int) (w : World) (hq : ∀ w', Below w.heap.size w w' → Calls Try.prog 32 #[.pointer v] w' fun e w2 => e = .returned (.pointer r) ∧ Below w'.heap.size w' w2)
  (hpr : ∀ w', Below w.heap.size w w' → Calls Try.prog 43 #[.pointer r, .slice ab n ca, .slice ae m ce] w' fun e w2 => e = .returned (.tuple #[.agg (natC S), .int .i64 z]) ∧ Below w'.heap.size w' w2) :
  Calls Try.prog 26 #[.pointer v, .slice ae m ce, .slice ab n ca] w fun e w' => e = .returned (.tuple #[.agg (natC S), .int .i64 z]) ∧ Below w.heap.size w w' := by
 go_enter Try.func26, Try.ntmps26
 (repeat ((fail_if_success with_reducible refine rg ?_); go_step))
 refine wp_region_pw ?_
 refine pw_new (by rfl) 24 rfl _ zero_nat ?_
 intro g6 z0 n0 r6 k
 simp only [Act.put, pu]
 have b6 : w.heap.size ≤ g6 := n0
 clear n0
 have sb := k.below w.heap.size (Nat.le_refl _) (by simp)
 clear k
 refine pw_value (by rfl) (.int .i64 0) (fun _ => rfl) ?_
 simp only [Act.put, pu]
 refine pw_nil ?_
 (repeat ((fail_if_success with_reducible refine rg ?_); go_step))
 refine wp_region_pw ?_
 refine pw_mv (by rfl) rfl rfl ?_
 simp only [Act.put, pu]
 refine pw_callB (by rfl) 32 _ _ rfl Try.func32 (by kernel_rfl) #[.pointer v] rfl _ (hq _ sb) ?_
 intro z1001 k
 simp only [Act.put, pu]
 replace r6 := k.row r6 (by simp <;> omega)
 replace sb := sb.trans (k.below w.heap.size sb.size (by simp <;> omega))
 clear k
 refine pw_mv (by rfl) rfl rfl ?_
 simp only [Act.put, pu]
 refine pw_mv (by rfl) rfl rfl ?_
 simp only [Act.put, pu]
 refine pw_callB (by rfl) 43 _ _ rfl Try.func43 (by kernel_rfl) #[.pointer r, .slice ab n ca, .slice ae m ce] rfl _ (hpr _ sb) ?_
 intro z1004 k
 simp only [Act.put, pu]
 replace r6 := k.row r6 (by simp <;> omega)
 replace sb := sb.trans (k.below w.heap.size sb.size (by simp <;> omega))
 clear k
 refine pw_ext (by rfl) rfl rfl rfl ?_
 simp only [Act.put, pu]
 refine pw_ext (by rfl) rfl rfl rfl ?_
 simp only [Act.put, pu]
 refine pw_put (by rfl) 24 _ _ rfl _ rfl r6 (natC S) rfl (by exact size_nat) (by simp only [natC_size]) (natC_one _) ?_
 clear r6
 intro z1007 r6 k
 simp only [Act.put]
 replace sb := sb.trans (k.below w.heap.size sb.size (by simp <;> omega))
 clear k
 refine pw_as (by rfl) rfl rfl ?_
 simp only [Act.put, pu]
 refine pw_nil ?_
 go_wp2
 exact ret_row2 rfl _ rfl r6 4 _ Try.underlying24 (by exact size_nat) rfl _ rfl ⟨rfl, sb⟩
set_option maxRecDepth 100000 in
set_option maxHeartbeats 2000000 in
theorem qmulti_core (v r ab ae : Option Addr) (n m ca ce S : Nat) (z : Int) (w : World) (hq : ∀ w', Below w.heap.size w w' → Calls Try.prog 32 #[.pointer v] w' fun e w2 => e = .returned (.pointer r) ∧ Below w'.heap.size w' w2)
  (hpr : ∀ w', Below w.heap.size w w' → Calls Try.prog 43 #[.pointer r, .slice ab n ca, .slice ae m ce] w' fun e w2 => e = .returned (.tuple #[.agg (natC S), .int .i64 z]) ∧ Below w'.heap.size w' w2) :
  Calls Try.prog 9 #[.pointer v, .slice ab n ca, .slice ae m ce] w fun e w' => e = .returned (.tuple #[.agg (natC S), .int .i64 z]) ∧ Below w.heap.size w w' := by
 have hra := fun w' (hb : Below w.heap.size w w') => qraised_core v r ab ae n m ca ce S z w' (fun w2 h2 => hq w2 (below_on hb (Nat.le_refl _) h2)) fun w2 h2 => hpr w2 (below_on hb (Nat.le_refl _) h2)
 clear hq hpr
 go_enter Try.func9, Try.ntmps9
 (repeat ((fail_if_success with_reducible refine rg ?_); go_step))
 refine wp_region_pw ?_
 refine pw_new (by rfl) 24 rfl _ zero_nat ?_
 intro g6 z0 n0 r6 k
 simp only [Act.put, pu]
 have b6 : w.heap.size ≤ g6 := n0
 clear n0
 have sb := k.below w.heap.size (Nat.le_refl _) (by simp)
 clear k
 refine pw_value (by rfl) (.int .i64 0) (fun _ => rfl) ?_
 simp only [Act.put, pu]
 refine pw_nil ?_
 (repeat ((fail_if_success with_reducible refine rg ?_); go_step))
 refine wp_region_pw ?_
 refine pw_mv (by rfl) rfl rfl ?_
 simp only [Act.put, pu]
 refine pw_mv (by rfl) rfl rfl ?_
 simp only [Act.put, pu]
 refine pw_mv (by rfl) rfl rfl ?_
 simp only [Act.put, pu]
 refine pw_callB (by rfl) 26 _ _ rfl Try.func26 (by kernel_rfl) #[.pointer v, .slice ae m ce, .slice ab n ca] rfl _ (hra _ sb) ?_
 intro z1003 k
 simp only [Act.put, pu]
 replace r6 := k.row r6 (by simp <;> omega)
 replace sb := sb.trans (k.below w.heap.size sb.size (by simp <;> omega))
 clear k
 refine pw_ext (by rfl) rfl rfl rfl ?_
 simp only [Act.put, pu]
 refine pw_ext (by rfl) rfl rfl rfl ?_
 simp only [Act.put, pu]
 refine pw_put (by rfl) 24 _ _ rfl _ rfl r6 (natC S) rfl (by exact size_nat) (by simp only [natC_size]) (natC_one _) ?_
 clear r6
 intro z1006 r6 k
 simp only [Act.put]
 replace sb := sb.trans (k.below w.heap.size sb.size (by simp <;> omega))
 clear k
 refine pw_as (by rfl) rfl rfl ?_
 simp only [Act.put, pu]
 refine pw_nil ?_
 go_wp2
 exact ret_row2 rfl _ rfl r6 4 _ Try.underlying24 (by exact size_nat) rfl _ rfl ⟨rfl, sb⟩
set_option maxRecDepth 100000 in
set_option maxHeartbeats 2000000 in
theorem qmul_core (v r : Option Addr) (A B S : Nat) (w : World) (hq : ∀ w', Below w.heap.size w w' → Calls Try.prog 32 #[.pointer v] w' fun e w2 => e = .returned (.pointer r) ∧ Below w'.heap.size w' w2)
  (hmu : ∀ w', Below w.heap.size w w' → Calls Try.prog 28 #[.pointer r, .agg (natC A), .agg (natC B)] w' fun e w2 => e = .returned (.agg (natC S)) ∧ Below w'.heap.size w' w2) :
  Calls Try.prog 13 #[.pointer v, .agg (natC A), .agg (natC B)] w fun e w' => e = .returned (.agg (natC S)) ∧ Below w.heap.size w w' := by
 go_enter Try.func13, Try.ntmps13
 (repeat ((fail_if_success with_reducible refine rg ?_); go_step))
 refine wp_region_pw ?_
 refine pw_boxr (by rfl) 24 _ rfl (_) rfl ?_
 intro g4 z0 n0 r4 k
 simp only [Act.put, pu]
 have b4 : w.heap.size ≤ g4 := n0
 clear n0
 have sb := k.below w.heap.size (Nat.le_refl _) (by simp)
 clear k
 refine pw_boxr (by rfl) 24 _ rfl (_) rfl ?_
 intro g5 z1 n0 r5 k
 simp only [Act.put, pu]
 have d4x5 := Nat.lt_of_lt_of_le r4.lt n0
 have b5 := Nat.le_trans sb.size n0
 clear n0
 replace r4 := k.row r4 (by simp <;> omega)
 replace sb := sb.trans (k.below w.heap.size sb.size (by simp <;> omega))
 clear k
 refine pw_new (by rfl) 24 rfl _ zero_nat ?_
 intro g6 z2 n0 r6 k
 simp only [Act.put, pu]
 have d4x6 := Nat.lt_of_lt_of_le r4.lt n0
 have d5x6 := Nat.lt_of_lt_of_le r5.lt n0
 have b6 := Nat.le_trans sb.size n0
 clear n0
 replace r4 := k.row r4 (by simp <;> omega)
 replace r5 := k.row r5 (by simp <;> omega)
 replace sb := sb.trans (k.below w.heap.size sb.size (by simp <;> omega))
 clear k
 refine pw_nil ?_
 (repeat ((fail_if_success with_reducible refine rg ?_); go_step))
 apply wp_region_mix (by kernel_rfl) [(g6, 24, natC 0)] [_, _, _, _, _, _] ⟨r6, trivial⟩ (by simp <;> omega)
 ·intro p
  refine mx_move rfl rfl ?_
  simp only [Act.put, pu]
  refine mx_callK 32 _ _ rfl Try.func32 (by kernel_rfl) #[.pointer v] rfl _ (fun w' hk => hq w' (sb.trans (hk.below w.heap.size sb.size (by simp <;> omega)))) ?_
  simp only [Act.put, pu]
  refine mx_load 24 _ rfl _ rfl r4 (by simp <;> omega) 4 _ Try.underlying24 size_nat ?_
  simp only [Act.put, pu]
  refine mx_load 24 _ rfl _ rfl r5 (by simp <;> omega) 4 _ Try.underlying24 size_nat ?_
  simp only [Act.put, pu]
  refine mx_callK 28 _ _ rfl Try.func28 (by kernel_rfl) #[.pointer r, .agg (natC A), .agg (natC B)] rfl _ (fun w' hk => hmu w' (sb.trans (hk.below w.heap.size sb.size (by simp <;> omega)))) ?_
  simp only [Act.put, pu]
  refine mx_put 0 24 _ _ rfl rfl rfl (natC S) rfl (by exact size_nat) (by simp only [natC_size]) (natC_one _) ?_
  simp only [Act.put]
  refine mx_end ?_
  intro w2 hkw hrw hnew hdis
  have zr6 : Row w2 (g6) (natC S) 24 := hrw 0 (24, natC S) rfl
  replace sb := sb.trans (hkw.below w.heap.size sb.size (by simp <;> omega))
  clear hkw hrw hnew hdis r6
  have r6 := zr6
  clear zr6
  go_wp2
  exact ret_row rfl _ rfl r6 4 _ Try.underlying24 (by exact size_nat) rfl ⟨rfl, sb⟩
 ·kernel_rfl
set_option maxRecDepth 100000 in
set_option maxHeartbeats 2000000 in
theorem qexp_core (v : Option Addr) (A E S : Nat) (z : Int) (w : World)
  (hra : ∀ w', Below w.heap.size w w' → ∀ x y, Row w' x (natC A) 24 → Row w' y (natC E) 24 → Calls Try.prog 26 #[.pointer v, .slice (some ⟨y, 0, none⟩) 1 1, .slice (some ⟨x, 0, none⟩) 1 1] w' fun e w2 => e = .returned (.tuple #[.agg (natC S), .int .i64 z]) ∧ Below w'.heap.size w' w2) :
  Calls Try.prog 14 #[.pointer v, .agg (natC A), .agg (natC E)] w fun e w' => e = .returned (.agg (natC S)) ∧ Below w.heap.size w w' := by
 obtain ⟨ie, hie, hz, hsz, _⟩ := info_nat'
 have hs1 : ¬ 1 * ie.size > 2 ^ 24 := by rw [hsz]; decide
 have hs2 : ¬ 1 * ie.size = 0 := by rw [hsz]; decide
 have hlA := lit_one A ie.size hsz
 have hlE := lit_one E ie.size hsz
 go_enter Try.func14, Try.ntmps14
 (repeat ((fail_if_success with_reducible refine rg ?_); go_step))
 refine wp_region_pw ?_
 refine pw_boxr (by rfl) 24 _ rfl (_) rfl ?_
 intro g4 z0 n0 r4 k
 simp only [Act.put, pu]
 have b4 : w.heap.size ≤ g4 := n0
 clear n0
 have sb := k.below w.heap.size (Nat.le_refl _) (by simp)
 clear k
 refine pw_boxr (by rfl) 24 _ rfl (_) rfl ?_
 intro g5 z1 n0 r5 k
 simp only [Act.put, pu]
 have d4x5 := Nat.lt_of_lt_of_le r4.lt n0
 have b5 := Nat.le_trans sb.size n0
 clear n0
 replace r4 := k.row r4 (by simp <;> omega)
 replace sb := sb.trans (k.below w.heap.size sb.size (by simp <;> omega))
 clear k
 refine pw_new (by rfl) 24 rfl _ zero_nat ?_
 intro g6 z2 n0 r6 k
 simp only [Act.put, pu]
 have d4x6 := Nat.lt_of_lt_of_le r4.lt n0
 have d5x6 := Nat.lt_of_lt_of_le r5.lt n0
 have b6 := Nat.le_trans sb.size n0
 clear n0
 replace r4 := k.row r4 (by simp <;> omega)
 replace r5 := k.row r5 (by simp <;> omega)
 replace sb := sb.trans (k.below w.heap.size sb.size (by simp <;> omega))
 clear k
 refine pw_nil ?_
 (repeat ((fail_if_success with_reducible refine rg ?_); go_step))
 refine wp_region_pw ?_
 refine pw_mv (by rfl) rfl rfl ?_
 simp only [Act.put, pu]
 refine pw_loadm (by rfl) 24 _ rfl _ 0 rfl r5.r _ (part_all _) _ Try.underlying24 rfl size_nat ?_
 simp only [Act.put, pu]
 refine pw_litr (by rfl) 37 24 1 _ rfl (natC E) ie _ Try.underlying37 hie hz hs1 hs2 [(0, .agg (natC E))] rfl hlE ?_
 intro gU z1002 n0 rU k
 simp only [Act.put, pu]
 have d4xU := Nat.lt_of_lt_of_le r4.lt n0
 have d5xU := Nat.lt_of_lt_of_le r5.lt n0
 have d6xU := Nat.lt_of_lt_of_le r6.lt n0
 have bU := Nat.le_trans sb.size n0
 clear n0
 replace r4 := k.row r4 (by simp <;> omega)
 replace r5 := k.row r5 (by simp <;> omega)
 replace r6 := k.row r6 (by simp <;> omega)
 replace sb := sb.trans (k.below w.heap.size sb.size (by simp <;> omega))
 clear k
 refine pw_loadm (by rfl) 24 _ rfl _ 0 rfl r4.r _ (part_all _) _ Try.underlying24 rfl size_nat ?_
 simp only [Act.put, pu]
 refine pw_litr (by rfl) 37 24 1 _ rfl (natC A) ie _ Try.underlying37 hie hz hs1 hs2 [(0, .agg (natC A))] rfl hlA ?_
 intro gV z1004 n0 rV k
 simp only [Act.put, pu]
 have d4xV := Nat.lt_of_lt_of_le r4.lt n0
 have d5xV := Nat.lt_of_lt_of_le r5.lt n0
 have d6xV := Nat.lt_of_lt_of_le r6.lt n0
 have dUxV := Nat.lt_of_lt_of_le rU.lt n0
 have bV := Nat.le_trans sb.size n0
 clear n0
 replace r4 := k.row r4 (by simp <;> omega)
 replace r5 := k.row r5 (by simp <;> omega)
 replace r6 := k.row r6 (by simp <;> omega)
 replace rU := k.row rU (by simp <;> omega)
 replace sb := sb.trans (k.below w.heap.size sb.size (by simp <;> omega))
 clear k
 refine pw_callB (by rfl) 26 _ _ rfl Try.func26 (by kernel_rfl) #[.pointer v, .slice (some ⟨gU, 0, none⟩) 1 1, .slice (some ⟨gV, 0, none⟩) 1 1] rfl _ (hra _ sb gV gU rV rU) ?_
 intro z1005 k
 simp only [Act.put, pu]
 replace r4 := k.row r4 (by simp <;> omega)
 replace r5 := k.row r5 (by simp <;> omega)
 replace r6 := k.row r6 (by simp <;> omega)
 replace rU := k.row rU (by simp <;> omega)
 replace rV := k.row rV (by simp <;> omega)
 replace sb := sb.trans (k.below w.heap.size sb.size (by simp <;> omega))
 clear k
 refine pw_mv (by rfl) rfl rfl ?_
 simp only [Act.put, pu]
 refine pw_ext (by rfl) rfl rfl rfl ?_
 simp only [Act.put, pu]
 refine pw_ext (by rfl) rfl rfl rfl ?_
 simp only [Act.put, pu]
 refine pw_new (by rfl) 24 rfl _ zero_nat ?_
 intro g7 z1009 n0 r7 k
 simp only [Act.put, pu]
 have d4x7 := Nat.lt_of_lt_of_le r4.lt n0
 have d5x7 := Nat.lt_of_lt_of_le r5.lt n0
 have d6x7 := Nat.lt_of_lt_of_le r6.lt n0
 have dUx7 := Nat.lt_of_lt_of_le rU.lt n0
 have dVx7 := Nat.lt_of_lt_of_le rV.lt n0
 have b7 := Nat.le_trans sb.size n0
 clear n0
 replace r4 := k.row r4 (by simp <;> omega)
 replace r5 := k.row r5 (by simp <;> omega)
 replace r6 := k.row r6 (by simp <;> omega)
 replace rU := k.row rU (by simp <;> omega)
 replace rV := k.row rV (by simp <;> omega)
 replace sb := sb.trans (k.below w.heap.size sb.size (by simp <;> omega))
 clear k
 refine pw_put (by rfl) 24 _ _ rfl _ rfl r7 (natC S) rfl (by exact size_nat) (by simp only [natC_size]) (natC_one _) ?_
 clear r7
 intro z1010 r7 k
 simp only [Act.put]
 replace r4 := k.row r4 (by simp <;> omega)
 replace r5 := k.row r5 (by simp <;> omega)
 replace r6 := k.row r6 (by simp <;> omega)
 replace rU := k.row rU (by simp <;> omega)
 replace rV := k.row rV (by simp <;> omega)
 replace sb := sb.trans (k.below w.heap.size sb.size (by simp <;> omega))
 clear k
 refine pw_as (by rfl) rfl rfl ?_
 simp only [Act.put, pu]
 refine pw_nil ?_
 (repeat ((fail_if_success with_reducible refine rg ?_); go_step))
 refine wp_region_pw ?_
 refine pw_loadm (by rfl) 24 _ rfl _ 0 rfl r7.r _ (part_all _) _ Try.underlying24 rfl size_nat ?_
 simp only [Act.put, pu]
 refine pw_put (by rfl) 24 _ _ rfl _ rfl r6 (natC S) rfl (by exact size_nat) (by simp only [natC_size]) (natC_one _) ?_
 clear r6
 intro z2001 r6 k
 simp only [Act.put]
 replace r7 := k.row r7 (by simp <;> omega)
 replace sb := sb.trans (k.below w.heap.size sb.size (by simp <;> omega))
 clear k
 refine pw_nil ?_
 go_wp2
 exact ret_row rfl _ rfl r6 4 _ Try.underlying24 (by exact size_nat) rfl ⟨rfl, sb⟩
set_option maxRecDepth 100000 in
set_option maxHeartbeats 2000000 in
theorem qof_core (v : Option Addr) (E GG S : Nat) (w : World) (hg : ∀ w', Below w.heap.size w w' → Calls Try.prog 25 #[.pointer v] w' fun e w2 => e = .returned (.agg (natC GG)) ∧ Below w'.heap.size w' w2)
  (hex : ∀ w', Below w.heap.size w w' → Calls Try.prog 14 #[.pointer v, .agg (natC GG), .agg (natC E)] w' fun e w2 => e = .returned (.agg (natC S)) ∧ Below w'.heap.size w' w2) :
  Calls Try.prog 8 #[.pointer v, .agg (natC E)] w fun e w' => e = .returned (.agg (natC S)) ∧ Below w.heap.size w w' := by
 go_enter Try.func8, Try.ntmps8
 (repeat ((fail_if_success with_reducible refine rg ?_); go_step))
 refine wp_region_pw ?_
 refine pw_boxr (by rfl) 24 _ rfl (_) rfl ?_
 intro g3 z0 n0 r3 k
 simp only [Act.put, pu]
 have b3 : w.heap.size ≤ g3 := n0
 clear n0
 have sb := k.below w.heap.size (Nat.le_refl _) (by simp)
 clear k
 refine pw_new (by rfl) 24 rfl _ zero_nat ?_
 intro g4 z1 n0 r4 k
 simp only [Act.put, pu]
 have d3x4 := Nat.lt_of_lt_of_le r3.lt n0
 have b4 := Nat.le_trans sb.size n0
 clear n0
 replace r3 := k.row r3 (by simp <;> omega)
 replace sb := sb.trans (k.below w.heap.size sb.size (by simp <;> omega))
 clear k
 refine pw_nil ?_
 (repeat ((fail_if_success with_reducible refine rg ?_); go_step))
 apply wp_region_mix (by kernel_rfl) [(g4, 24, natC 0)] [_, _, _, _, _, _] ⟨r4, trivial⟩ (by simp <;> omega)
 ·intro p
  refine mx_move rfl rfl ?_
  simp only [Act.put, pu]
  refine mx_move rfl rfl ?_
  simp only [Act.put, pu]
  refine mx_callK 25 _ _ rfl Try.func25 (by kernel_rfl) #[.pointer v] rfl _ (fun w' hk => hg w' (sb.trans (hk.below w.heap.size sb.size (by simp <;> omega)))) ?_
  simp only [Act.put, pu]
  refine mx_load 24 _ rfl _ rfl r3 (by simp <;> omega) 4 _ Try.underlying24 size_nat ?_
  simp only [Act.put, pu]
  refine mx_callK 14 _ _ rfl Try.func14 (by kernel_rfl) #[.pointer v, .agg (natC GG), .agg (natC E)] rfl _ (fun w' hk => hex w' (sb.trans (hk.below w.heap.size sb.size (by simp <;> omega)))) ?_
  simp only [Act.put, pu]
  refine mx_put 0 24 _ _ rfl rfl rfl (natC S) rfl (by exact size_nat) (by simp only [natC_size]) (natC_one _) ?_
  simp only [Act.put]
  refine mx_end ?_
  intro w2 hkw hrw hnew hdis
  have zr4 : Row w2 (g4) (natC S) 24 := hrw 0 (24, natC S) rfl
  replace sb := sb.trans (hkw.below w.heap.size sb.size (by simp <;> omega))
  clear hkw hrw hnew hdis r4
  have r4 := zr4
  clear zr4
  go_wp2
  exact ret_row rfl _ rfl r4 4 _ Try.underlying24 (by exact size_nat) rfl ⟨rfl, sb⟩
 ·kernel_rfl
set_option maxRecDepth 100000 in
set_option maxHeartbeats 2000000 in
theorem qinv_core (v : Option Addr) (A QQ L S : Nat) (z : Int) (w : World) (hqq : ∀ w', Below w.heap.size w w' → Calls Try.prog 30 #[.pointer v] w' fun e w2 => e = .returned (.agg (natC QQ)) ∧ Below w'.heap.size w' w2)
  (hsu : ∀ w', Calls Try.prog 34 #[.agg (natC QQ), .agg (natC 1)] w' fun e w2 => e = .returned (.tuple #[.agg (natC L), .int .i64 z]) ∧ Below w'.heap.size w' w2)
  (hex : ∀ w', Below w.heap.size w w' → Calls Try.prog 14 #[.pointer v, .agg (natC A), .agg (natC L)] w' fun e w2 => e = .returned (.agg (natC S)) ∧ Below w'.heap.size w' w2) :
  Calls Try.prog 16 #[.pointer v, .agg (natC A)] w fun e w' => e = .returned (.agg (natC S)) ∧ Below w.heap.size w w' := by
 have h1 := fun w' => nof_any 1 w' (by decide)
 rw [show (1 : Int).toNat = 1 from rfl] at h1
 go_enter Try.func16, Try.ntmps16
 (repeat ((fail_if_success with_reducible refine rg ?_); go_step))
 refine wp_region_pw ?_
 refine pw_boxr (by rfl) 24 _ rfl (_) rfl ?_
 intro g3 z0 n0 r3 k
 simp only [Act.put, pu]
 have b3 : w.heap.size ≤ g3 := n0
 clear n0
 have sb := k.below w.heap.size (Nat.le_refl _) (by simp)
 clear k
 refine pw_new (by rfl) 24 rfl _ zero_nat ?_
 intro g4 z1 n0 r4 k
 simp only [Act.put, pu]
 have d3x4 := Nat.lt_of_lt_of_le r3.lt n0
 have b4 := Nat.le_trans sb.size n0
 clear n0
 replace r3 := k.row r3 (by simp <;> omega)
 replace sb := sb.trans (k.below w.heap.size sb.size (by simp <;> omega))
 clear k
 refine pw_nil ?_
 (repeat ((fail_if_success with_reducible refine rg ?_); go_step))
 refine wp_region_pw ?_
 refine pw_mv (by rfl) rfl rfl ?_
 simp only [Act.put, pu]
 refine pw_callB (by rfl) 30 _ _ rfl Try.func30 (by kernel_rfl) #[.pointer v] rfl _ (hqq _ sb) ?_
 intro z1001 k
 simp only [Act.put, pu]
 replace r3 := k.row r3 (by simp <;> omega)
 replace r4 := k.row r4 (by simp <;> omega)
 replace sb := sb.trans (k.below w.heap.size sb.size (by simp <;> omega))
 clear k
 refine pw_callB (by rfl) 24 _ _ rfl Try.func24 (by kernel_rfl) #[.int .i64 1] rfl _ (h1 _) ?_
 intro z1002 k
 simp only [Act.put, pu]
 replace r3 := k.row r3 (by simp <;> omega)
 replace r4 := k.row r4 (by simp <;> omega)
 replace sb := sb.trans (k.below w.heap.size sb.size (by simp <;> omega))
 clear k
 refine pw_callB (by rfl) 34 _ _ rfl Try.func34 (by kernel_rfl) #[.agg (natC QQ), .agg (natC 1)] rfl _ (hsu _) ?_
 intro z1003 k
 simp only [Act.put, pu]
 replace r3 := k.row r3 (by simp <;> omega)
 replace r4 := k.row r4 (by simp <;> omega)
 replace sb := sb.trans (k.below w.heap.size sb.size (by simp <;> omega))
 clear k
 refine pw_mv (by rfl) rfl rfl ?_
 simp only [Act.put, pu]
 refine pw_ext (by rfl) rfl rfl rfl ?_
 simp only [Act.put, pu]
 refine pw_ext (by rfl) rfl rfl rfl ?_
 simp only [Act.put, pu]
 refine pw_new (by rfl) 24 rfl _ zero_nat ?_
 intro g5 z1007 n0 r5 k
 simp only [Act.put, pu]
 have d3x5 := Nat.lt_of_lt_of_le r3.lt n0
 have d4x5 := Nat.lt_of_lt_of_le r4.lt n0
 have b5 := Nat.le_trans sb.size n0
 clear n0
 replace r3 := k.row r3 (by simp <;> omega)
 replace r4 := k.row r4 (by simp <;> omega)
 replace sb := sb.trans (k.below w.heap.size sb.size (by simp <;> omega))
 clear k
 refine pw_put (by rfl) 24 _ _ rfl _ rfl r5 (natC L) rfl (by exact size_nat) (by simp only [natC_size]) (natC_one _) ?_
 clear r5
 intro z1008 r5 k
 simp only [Act.put]
 replace r3 := k.row r3 (by simp <;> omega)
 replace r4 := k.row r4 (by simp <;> omega)
 replace sb := sb.trans (k.below w.heap.size sb.size (by simp <;> omega))
 clear k
 refine pw_as (by rfl) rfl rfl ?_
 simp only [Act.put, pu]
 refine pw_nil ?_
 (repeat ((fail_if_success with_reducible refine rg ?_); go_step))
 refine wp_region_pw ?_
 refine pw_mv (by rfl) rfl rfl ?_
 simp only [Act.put, pu]
 refine pw_loadm (by rfl) 24 _ rfl _ 0 rfl r3.r _ (part_all _) _ Try.underlying24 rfl size_nat ?_
 simp only [Act.put, pu]
 refine pw_loadm (by rfl) 24 _ rfl _ 0 rfl r5.r _ (part_all _) _ Try.underlying24 rfl size_nat ?_
 simp only [Act.put, pu]
 refine pw_callB (by rfl) 14 _ _ rfl Try.func14 (by kernel_rfl) #[.pointer v, .agg (natC A), .agg (natC L)] rfl _ (hex _ sb) ?_
 intro z2003 k
 simp only [Act.put, pu]
 replace r3 := k.row r3 (by simp <;> omega)
 replace r4 := k.row r4 (by simp <;> omega)
 replace r5 := k.row r5 (by simp <;> omega)
 replace sb := sb.trans (k.below w.heap.size sb.size (by simp <;> omega))
 clear k
 refine pw_put (by rfl) 24 _ _ rfl _ rfl r4 (natC S) rfl (by exact size_nat) (by simp only [natC_size]) (natC_one _) ?_
 clear r4
 intro z2004 r4 k
 simp only [Act.put]
 replace r3 := k.row r3 (by simp <;> omega)
 replace r5 := k.row r5 (by simp <;> omega)
 replace sb := sb.trans (k.below w.heap.size sb.size (by simp <;> omega))
 clear k
 refine pw_nil ?_
 go_wp2
 exact ret_row rfl _ rfl r4 4 _ Try.underlying24 (by exact size_nat) rfl ⟨rfl, sb⟩
set_option maxRecDepth 100000 in
set_option maxHeartbeats 2000000 in
theorem qin_out (v r : Option Addr) (A : Nat) (w : World) (hq : ∀ w', Below w.heap.size w w' → Calls Try.prog 32 #[.pointer v] w' fun e w2 => e = .returned (.pointer r) ∧ Below w'.heap.size w' w2)
  (hin : ∀ w', Below w.heap.size w w' → Calls Try.prog 33 #[.pointer r, .agg (natC A)] w' fun e w2 => e = .returned (.bool false) ∧ Below w'.heap.size w' w2) :
  Calls Try.prog 15 #[.pointer v, .agg (natC A)] w fun e w' => e = .returned (.bool false) ∧ Below w.heap.size w w' := by
 go_enter Try.func15, Try.ntmps15
 (repeat ((fail_if_success with_reducible refine rg ?_); go_step))
 refine wp_region_pw ?_
 refine pw_boxr (by rfl) 24 _ rfl (_) rfl ?_
 intro g3 z0 n0 r3 k
 simp only [Act.put, pu]
 have b3 : w.heap.size ≤ g3 := n0
 clear n0
 have sb := k.below w.heap.size (Nat.le_refl _) (by simp)
 clear k
 refine pw_value (by rfl) (.bool false) (fun _ => rfl) ?_
 simp only [Act.put, pu]
 refine pw_nil ?_
 (repeat ((fail_if_success with_reducible refine rg ?_); go_step))
 refine wp_region_qw (by kernel_rfl) (by kernel_rfl) ?_
 refine qw_move (by rfl) rfl rfl ?_
 simp only [Act.put, pu]
 refine qw_callK (by rfl) 32 _ _ rfl Try.func32 (by kernel_rfl) #[.pointer v] rfl _ (fun w' hb => hq w' (below_on sb (Nat.le_refl _) hb)) ?_
 simp only [Act.put, pu]
 refine qw_load (by rfl) 24 _ rfl _ rfl r3 4 _ Try.underlying24 size_nat ?_
 simp only [Act.put, pu]
 refine qw_callK (by rfl) 33 _ _ rfl Try.func33 (by kernel_rfl) #[.pointer r, .agg (natC A)] rfl _ (fun w' hb => hin w' (below_on sb (Nat.le_refl _) hb)) ?_
 simp only [Act.put, pu]
 refine qw_move (by rfl) rfl rfl ?_
 simp only [Act.put, pu]
 refine qw_skip (by rfl) ?_
 simp only [Act.put, pu]
 refine qw_skip (by rfl) ?_
 simp only [Act.put, pu]
 refine qw_skip (by rfl) ?_
 simp only [Act.put, pu]
 refine qw_skip (by rfl) ?_
 simp only [Act.put, pu]
 refine qw_skip (by rfl) ?_
 simp only [Act.put, pu]
 refine qw_skip (by rfl) ?_
 simp only [Act.put, pu]
 refine qw_skip (by rfl) ?_
 simp only [Act.put, pu]
 refine qw_pick false (v := .bool false) (by rfl) rfl rfl rfl ?_
 simp only [Act.put, pu]
 refine qw_asg (by rfl) rfl rfl ?_
 simp only [Act.put, pu]
 refine qw_nil ?_
 intro w3 hqb
 replace sb := below_on sb (Nat.le_refl _) hqb
 clear hqb
 go_wp2
 go_ret
 exact ⟨rfl, sb⟩
set_option maxRecDepth 100000 in
set_option maxHeartbeats 2000000 in
theorem qin_core (v r : Option Addr) (A QQ S : Nat) (B : Bool) (w : World) (hB : decide (S % 2 ^ 256 = 1 % 2 ^ 256) = B) (hq : ∀ w', Below w.heap.size w w' → Calls Try.prog 32 #[.pointer v] w' fun e w2 => e = .returned (.pointer r) ∧ Below w'.heap.size w' w2)
  (hin : ∀ w', Below w.heap.size w w' → Calls Try.prog 33 #[.pointer r, .agg (natC A)] w' fun e w2 => e = .returned (.bool true) ∧ Below w'.heap.size w' w2)
  (hqq : ∀ w', Below w.heap.size w w' → Calls Try.prog 30 #[.pointer v] w' fun e w2 => e = .returned (.agg (natC QQ)) ∧ Below w'.heap.size w' w2)
  (hex : ∀ w', Below w.heap.size w w' → Calls Try.prog 14 #[.pointer v, .agg (natC A), .agg (natC QQ)] w' fun e w2 => e = .returned (.agg (natC S)) ∧ Below w'.heap.size w' w2) :
  Calls Try.prog 15 #[.pointer v, .agg (natC A)] w fun e w' => e = .returned (.bool B) ∧ Below w.heap.size w w' := by
 have h1 := fun w' => nof_any 1 w' (by decide)
 rw [show (1 : Int).toNat = 1 from rfl] at h1
 go_enter Try.func15, Try.ntmps15
 (repeat ((fail_if_success with_reducible refine rg ?_); go_step))
 refine wp_region_pw ?_
 refine pw_boxr (by rfl) 24 _ rfl (_) rfl ?_
 intro g3 z0 n0 r3 k
 simp only [Act.put, pu]
 have b3 : w.heap.size ≤ g3 := n0
 clear n0
 have sb := k.below w.heap.size (Nat.le_refl _) (by simp)
 clear k
 refine pw_value (by rfl) (.bool false) (fun _ => rfl) ?_
 simp only [Act.put, pu]
 refine pw_nil ?_
 (repeat ((fail_if_success with_reducible refine rg ?_); go_step))
 refine wp_region_qw (by kernel_rfl) (by kernel_rfl) ?_
 refine qw_move (by rfl) rfl rfl ?_
 simp only [Act.put, pu]
 refine qw_callK (by rfl) 32 _ _ rfl Try.func32 (by kernel_rfl) #[.pointer v] rfl _ (fun w' hb => hq w' (below_on sb (Nat.le_refl _) hb)) ?_
 simp only [Act.put, pu]
 refine qw_load (by rfl) 24 _ rfl _ rfl r3 4 _ Try.underlying24 size_nat ?_
 simp only [Act.put, pu]
 refine qw_callK (by rfl) 33 _ _ rfl Try.func33 (by kernel_rfl) #[.pointer r, .agg (natC A)] rfl _ (fun w' hb => hin w' (below_on sb (Nat.le_refl _) hb)) ?_
 simp only [Act.put, pu]
 refine qw_move (by rfl) rfl rfl ?_
 simp only [Act.put, pu]
 refine qw_move (by rfl) rfl rfl ?_
 simp only [Act.put, pu]
 refine qw_load (by rfl) 24 _ rfl _ rfl r3 4 _ Try.underlying24 size_nat ?_
 simp only [Act.put, pu]
 refine qw_move (by rfl) rfl rfl ?_
 simp only [Act.put, pu]
 refine qw_callK (by rfl) 30 _ _ rfl Try.func30 (by kernel_rfl) #[.pointer v] rfl _ (fun w' hb => hqq w' (below_on sb (Nat.le_refl _) hb)) ?_
 simp only [Act.put, pu]
 refine qw_callK (by rfl) 14 _ _ rfl Try.func14 (by kernel_rfl) #[.pointer v, .agg (natC A), .agg (natC QQ)] rfl _ (fun w' hb => hex w' (below_on sb (Nat.le_refl _) hb)) ?_
 simp only [Act.put, pu]
 refine qw_call (by rfl) 24 _ _ rfl Try.func24 (by kernel_rfl) #[.int .i64 1] rfl _ h1 ?_
 simp only [Act.put, pu]
 refine qw_value (by rfl) (.bool B) (fun w' => (exec_eql_nat _ _ _ rfl S 1 rfl rfl w').trans (by rw [hB])) ?_
 simp only [Act.put, pu]
 refine qw_pick true (v := .bool B) (by rfl) rfl rfl rfl ?_
 simp only [Act.put, pu]
 refine qw_asg (by rfl) rfl rfl ?_
 simp only [Act.put, pu]
 refine qw_nil ?_
 intro w3 hqb
 replace sb := below_on sb (Nat.le_refl _) hqb
 clear hqb
 go_wp2
 go_ret
 exact ⟨rfl, sb⟩
theorem qMulti_ok (g gr gf P Q G n ca ce : Nat) (ab ae : Option Addr) (a' b' : Nat → Nat) (gb ob ge oe : Nat) (bcs ecs : Array Value) (tb te : TypeId) (w : World) (hn : n ≤ 64)
  (hna : NatsAt w ab n a' gb ob bcs tb) (hnb : NatsAt w ae n b' ge oe ecs te) (q : RgQ P) (h : GrpAt w g gr gf P Q G) :
  Calls Try.prog 9 #[.pointer (some ⟨g, 0, none⟩), .slice ab n ca, .slice ae n ce] w fun e w' => e = .returned (.tuple #[.agg (natC (prd (fun i => a' i ^ b' i) n % P)), .int .i64 0]) ∧ Below w.heap.size w w' :=
 qmulti_core _ _ ab ae n n ca ce _ 0 w (fun w' hb => grpRing_any _ _ _ _ _ _ w' (h.below hb).kn) fun w' hb => prod_ok n P a' b' ab ae ca ce gb ob ge oe bcs ecs tb te gr w' ⟨hn, q.m, q.odd, q.two, hna.below hb, hnb.below hb⟩ (h.below hb).ring
theorem qMulti_differ (g gr gf P Q G n m ca ce : Nat) (ab ae : Option Addr) (w : World) (hnm : n ≠ m) (q : RgQ P) (h : GrpAt w g gr gf P Q G) :
  Calls Try.prog 9 #[.pointer (some ⟨g, 0, none⟩), .slice ab n ca, .slice ae m ce] w fun e w' => e = .returned (.tuple #[.agg (natC 0), .int .i64 1]) ∧ Below w.heap.size w w' :=
 qmulti_core _ _ ab ae n m ca ce _ 1 w (fun w' hb => grpRing_any _ _ _ _ _ _ w' (h.below hb).kn) fun w' hb => prod_len _ ab ae n m ca ce w' hnm fun w2 h2 => given_any P _ _ _ gr w2 (Nat.lt_of_lt_of_le (by decide) q.two) q.m ((h.below hb).below h2).ring
theorem qMulti_big (g gr gf P Q G n ca ce : Nat) (ab ae : Option Addr) (w : World) (hn : 64 < n) (q : RgQ P) (h : GrpAt w g gr gf P Q G) :
  Calls Try.prog 9 #[.pointer (some ⟨g, 0, none⟩), .slice ab n ca, .slice ae n ce] w fun e w' => e = .returned (.tuple #[.agg (natC 0), .int .i64 1]) ∧ Below w.heap.size w w' :=
 qmulti_core _ _ ab ae n n ca ce _ 1 w (fun w' hb => grpRing_any _ _ _ _ _ _ w' (h.below hb).kn) fun w' hb => prod_big _ ab ae n n ca ce w' rfl hn fun w2 h2 => given_any P _ _ _ gr w2 (Nat.lt_of_lt_of_le (by decide) q.two) q.m ((h.below hb).below h2).ring
theorem qMul_ok (A B g gr gf P Q G : Nat) (w : World) (hA : A < 2 ^ 256) (hB : B < 2 ^ 256) (q : RgQ P) (h : GrpAt w g gr gf P Q G) :
  Calls Try.prog 13 #[.pointer (some ⟨g, 0, none⟩), .agg (natC A), .agg (natC B)] w fun e w' => e = .returned (.agg (natC (A * B % P))) ∧ Below w.heap.size w w' :=
 qmul_core _ _ A B _ w (fun w' hb => grpRing_any _ _ _ _ _ _ w' (h.below hb).kn) fun w' hb => mul_ok A B P gr q w' hA hB (h.below hb).ring
theorem qExp_ok (A E g gr gf P Q G : Nat) (w : World) (hA : A < 2 ^ 256) (hE : E < 2 ^ 256) (q : RgQ P) (h : GrpAt w g gr gf P Q G) :
  Calls Try.prog 14 #[.pointer (some ⟨g, 0, none⟩), .agg (natC A), .agg (natC E)] w fun e w' => e = .returned (.agg (natC (A ^ E % P))) ∧ Below w.heap.size w w' := by
 refine qexp_core _ A E _ 0 w fun w' hb x y ra rb => qraised_core _ _ _ _ 1 1 1 1 _ 0 w' (fun w2 h2 => grpRing_any _ _ _ _ _ _ w2 ((h.below hb).below h2).kn) fun w2 h2 => ?_
 have := prod_ok 1 P (fun _ => A) (fun _ => E) (some ⟨x, 0, none⟩) (some ⟨y, 0, none⟩) 1 1 x 0 y 0 (natC A) (natC E) 24 24 gr w2 ⟨by decide, q.m, q.odd, q.two, nats_one (ra.belowAll h2) hA, nats_one (rb.belowAll h2) hE⟩ ((h.below hb).below h2).ring
 rw [show prd (fun _ => A ^ E) 1 = A ^ E from Nat.one_mul _] at this
 exact this
theorem qOf_ok (E g gr gf P Q G : Nat) (w : World) (hE : E < 2 ^ 256) (hG : G < 2 ^ 256) (q : RgQ P) (h : GrpAt w g gr gf P Q G) :
  Calls Try.prog 8 #[.pointer (some ⟨g, 0, none⟩), .agg (natC E)] w fun e w' => e = .returned (.agg (natC (G ^ E % P))) ∧ Below w.heap.size w w' :=
 qof_core _ E G _ w (fun w' hb => grpG_any _ _ _ _ _ _ w' (h.below hb).kn) fun w' hb => qExp_ok G E g gr gf P Q G w' hG hE q (h.below hb)
theorem less_mod (Q M : Nat) (h : 0 < Q) (hM : 0 < M) : (Q + (M - 1)) % M = (Q - 1) % M := by
 rw [show Q + (M - 1) = Q - 1 + M by omega, Nat.add_mod_right]
theorem less_one (Q : Nat) (h : 0 < Q) : natC (less Q 1) = natC (Q - 1) := by
 rw [← natC_full (less Q 1), ← natC_full (Q - 1)]
 exact congrArg natC (less_mod Q (2 ^ 256) h (Nat.two_pow_pos 256))
theorem qInv_ok (A g gr gf P Q G : Nat) (w : World) (hA : A < 2 ^ 256) (h0 : 0 < Q) (hQ : Q < 2 ^ 256) (q : RgQ P) (h : GrpAt w g gr gf P Q G) :
  Calls Try.prog 16 #[.pointer (some ⟨g, 0, none⟩), .agg (natC A)] w fun e w' => e = .returned (.agg (natC (A ^ (Q - 1) % P))) ∧ Below w.heap.size w w' := by
 refine qinv_core _ A Q (Q - 1) _ ((bN Q 1 256 : Nat) : Int) w (fun w' hb => grpQ_any _ _ _ _ _ _ w' (h.below hb).kn) (fun w' => ?_) fun w' hb => qExp_ok A (Q - 1) g gr gf P Q G w' hA (by omega) q (h.below hb)
 have := nsub_any Q 1 w' (by decide)
 rw [less_one Q h0] at this
 exact this
theorem one_of (x P : Nat) (hP : P < 2 ^ 256) (h2 : 2 ≤ P) : decide (x % P % 2 ^ 256 = 1 % 2 ^ 256) = decide (x % P = 1) := by
 rw [Nat.mod_eq_of_lt (Nat.lt_trans (Nat.mod_lt x (Nat.lt_of_lt_of_le (by decide) h2)) hP), show 1 % 2 ^ 256 = 1 from rfl]
/-- Is a natural a member of the subgroup? -/
def memN (P Q A : Nat) : Bool := decide (A < P) && decide (A ^ Q % P = 1)
theorem qIn_ok (A g gr gf P Q G : Nat) (w : World) (hA : A < 2 ^ 256) (hQ : Q < 2 ^ 256) (q : RgQ P) (h : GrpAt w g gr gf P Q G) :
  Calls Try.prog 15 #[.pointer (some ⟨g, 0, none⟩), .agg (natC A)] w fun e w' => e = .returned (.bool (memN P Q A)) ∧ Below w.heap.size w w' := by
 have hin := fun w' (hb : Below w.heap.size w w') => ringIn_any A P _ _ _ gr w' hA (Nat.lt_of_lt_of_le (by decide) q.two) q.m (h.below hb).ring
 rw [cmp_neg] at hin
 unfold memN
 by_cases hl : A < P
 ·rw [decide_eq_true hl, Bool.true_and]
  rw [decide_eq_true hl] at hin
  exact qin_core _ _ A Q (A ^ Q % P) _ w (one_of _ P q.m q.two) (fun w' hb => grpRing_any _ _ _ _ _ _ w' (h.below hb).kn) hin (fun w' hb => grpQ_any _ _ _ _ _ _ w' (h.below hb).kn) fun w' hb => qExp_ok A Q g gr gf P Q G w' hA hQ q (h.below hb)
 ·rw [decide_eq_false hl, Bool.false_and]
  rw [decide_eq_false hl] at hin
  exact qin_out _ _ A w (fun w' hb => grpRing_any _ _ _ _ _ _ w' (h.below hb).kn) hin
theorem qMulti_no (v ab ae : Option Addr) (n m ca ce : Nat) (w : World) (h : NoG w v) :
  Calls Try.prog 9 #[.pointer v, .slice ab n ca, .slice ae m ce] w fun e w' => e = .returned (.tuple #[.agg (natC 0), .int .i64 1]) ∧ Below w.heap.size w w' :=
 qmulti_core _ _ ab ae n m ca ce _ 1 w (fun w' hb => grpRing_any _ _ _ _ _ _ w' (h.below hb)) fun w' _ => prod_no none ab ae n m ca ce w' (.inl rfl)
theorem qMul_no (v : Option Addr) (A B : Nat) (w : World) (h : NoG w v) :
  Calls Try.prog 13 #[.pointer v, .agg (natC A), .agg (natC B)] w fun e w' => e = .returned (.agg (natC 0)) ∧ Below w.heap.size w w' :=
 qmul_core _ _ A B _ w (fun w' hb => grpRing_any _ _ _ _ _ _ w' (h.below hb)) fun w' _ => mul_no none A B w' (.inl rfl)
theorem qExp_no (v : Option Addr) (A E : Nat) (w : World) (h : NoG w v) :
  Calls Try.prog 14 #[.pointer v, .agg (natC A), .agg (natC E)] w fun e w' => e = .returned (.agg (natC 0)) ∧ Below w.heap.size w w' :=
 qexp_core _ A E _ 1 w fun w' hb _ _ _ _ => qraised_core _ _ _ _ 1 1 1 1 _ 1 w' (fun w2 h2 => grpRing_any _ _ _ _ _ _ w2 ((h.below hb).below h2)) fun w2 _ => prod_no none _ _ 1 1 1 1 w2 (.inl rfl)
theorem qOf_no (v : Option Addr) (E : Nat) (w : World) (h : NoG w v) :
  Calls Try.prog 8 #[.pointer v, .agg (natC E)] w fun e w' => e = .returned (.agg (natC 0)) ∧ Below w.heap.size w w' :=
 qof_core _ E 0 _ w (fun w' hb => grpG_any _ _ _ _ _ _ w' (h.below hb)) fun w' hb => qExp_no v 0 E w' (h.below hb)
theorem qInv_no (v : Option Addr) (A : Nat) (w : World) (h : NoG w v) :
  Calls Try.prog 16 #[.pointer v, .agg (natC A)] w fun e w' => e = .returned (.agg (natC 0)) ∧ Below w.heap.size w w' :=
 qinv_core _ A 0 (less 0 1) _ _ w (fun w' hb => grpQ_any _ _ _ _ _ _ w' (h.below hb)) (fun w' => nsub_any 0 1 w' (by decide)) fun w' hb => qExp_no v A _ w' (h.below hb)
theorem qIn_no (v : Option Addr) (A : Nat) (w : World) (h : NoG w v) :
  Calls Try.prog 15 #[.pointer v, .agg (natC A)] w fun e w' => e = .returned (.bool false) ∧ Below w.heap.size w w' :=
 qin_out _ _ A w (fun w' hb => grpRing_any _ _ _ _ _ _ w' (h.below hb)) fun w' _ => in_no none A w' (.inl rfl)
end Go.Proofs.Yteddgjoailpgaab
/- The document's Of, Exp, Mul, In and Multi of layer 9. -/
namespace Go.Proofs.Yteddgjoailpgaab
open Go.RowKit
/-- The cells of a small group's numbers. -/
def smC (P Q G : Int) : Array Value := #[.int .i64 P, .int .i64 Q, .int .i64 G]
theorem sm_one (P Q G : Int) : (smC P Q G).all (·.oneCell') = true := by simp [smC, Value.oneCell']
theorem prd_0 (f : Nat → Nat) (P : Nat) (h : 2 ≤ P) : prd f 0 % P = 1 := Nat.mod_eq_of_lt h
theorem prd_on (f : Nat → Nat) (i P a b : Nat) (h : f i = a ^ b) : prd f i % P * ((a % P) ^ b % P) % P = prd f (i + 1) % P := by
 rw [show prd f (i + 1) = prd f i * f i from rfl, h, ← Nat.pow_mod, ← Nat.mul_mod]
set_option maxRecDepth 100000 in
set_option maxHeartbeats 2000000 in
theorem of9_any (n : Nat) (w : World) (h : (n : Int) < 9223372036854775808) :
  Calls Try.prog 17 #[.int .i64 n] w fun e w' => e = .returned (.agg (natC n)) ∧ Below w.heap.size w w' := by
 have hin := fun w' => rint_any (n : Int) w' h
 rw [Int.toNat_natCast] at hin
 clear h
 go_enter Try.func17, Try.ntmps17
 (repeat ((fail_if_success with_reducible refine rg ?_); go_step))
 refine wp_region_pw ?_
 refine pw_new (by rfl) 24 rfl _ zero_nat ?_
 intro g2 z0 n0 r2 k
 simp only [Act.put, pu]
 have b2 : w.heap.size ≤ g2 := n0
 clear n0
 have sb := k.below w.heap.size (Nat.le_refl _) (by simp)
 clear k
 refine pw_nil ?_
 (repeat ((fail_if_success with_reducible refine rg ?_); go_step))
 refine wp_region_pw ?_
 refine pw_mv (by rfl) rfl rfl ?_
 simp only [Act.put, pu]
 refine pw_callB (by rfl) 35 _ _ rfl Try.func35 (by kernel_rfl) #[.int .i64 n] rfl _ (hin _) ?_
 intro z1001 k
 simp only [Act.put, pu]
 replace r2 := k.row r2 (by simp <;> omega)
 replace sb := sb.trans (k.below w.heap.size sb.size (by simp <;> omega))
 clear k
 refine pw_put (by rfl) 24 _ _ rfl _ rfl r2 (natC n) rfl (by exact size_nat) (by simp only [natC_size]) (natC_one _) ?_
 clear r2
 intro z1002 r2 k
 simp only [Act.put]
 replace sb := sb.trans (k.below w.heap.size sb.size (by simp <;> omega))
 clear k
 refine pw_nil ?_
 go_wp2
 exact ret_row rfl _ rfl r2 4 _ Try.underlying24 (by exact size_nat) rfl ⟨rfl, sb⟩
theorem pk2_p (b : Bool) : lN (pk2 b otL leL) (3 - 1) < 4611686018427387904 ∧ pk2 b otG leG < 4611686018427387904 := by
 cases b <;> decide
end Go.Proofs.Yteddgjoailpgaab
/- What must come, whatever the arguments are: the check of the laws of layer 9. -/
namespace Go.Proofs.Yteddgjoailpgaab
open Go.RowKit
theorem paf_g (ab : Option Addr) (n c G : Nat) (w : World) : (Instr.field 27 (.agg (paC ab n c G)) 1).run Try.prog w = .ok (.agg (natC G)) w := by
 unfold paC natC
 generalize lm G 0 = a0
 generalize lm G 1 = a1
 generalize lm G 2 = a2
 generalize lm G 3 = a3
 kernel_rfl
theorem mem_no (P Q A : Nat) (hQ : Q < 2 ^ 256) (h : pwf P 256 A Q ≠ 1) : memN P Q A = false := by
 unfold memN
 rw [← pwf_eq P 256 A Q hQ, decide_eq_false h, Bool.and_false]
theorem mem_yes {P Q G : Nat} (h2 : 2 ≤ P) (h : G ^ Q % P = 1) (a : Nat) : memN P Q (G ^ a % P) = true := by
 unfold memN
 rw [decide_eq_true (Nat.mod_lt _ (by omega)), decide_eq_true (pow_order h2 h a)]
 rfl
def le5 : Nat := 499752131551553962
theorem le_rg : RgQ 1055500680322183127 := ⟨by decide, by decide, by decide⟩
theorem le_ord : leG ^ 1966023127 % 1055500680322183127 = 1 := by
 have h := ((grN_iff _ _ _ _).1 least_is).2.2.2.2.2.2
 rw [le_p, le_q] at h
 exact h
theorem le_5 : leG ^ 5 % 1055500680322183127 = le5 := by decide +kernel
theorem le_multi : prd (fun i => two2 leG leG i ^ two2 2 3 i) 2 % 1055500680322183127 = le5 := by decide +kernel
theorem le_in5 : memN 1055500680322183127 1966023127 le5 = true := le_5 ▸ mem_yes (by decide) le_ord 5
theorem le_in2 : memN 1055500680322183127 1966023127 2 = false := mem_no _ _ 2 (by decide) (by decide +kernel)
theorem le_in0 : memN 1055500680322183127 1966023127 0 = false := mem_no _ _ 0 (by decide) (by decide +kernel)
set_option maxRecDepth 100000 in
set_option maxHeartbeats 2000000 in
theorem awake9_any (w : World) :
  Calls Try.prog 18 #[] w fun e w' => e = .returned (.bool true) ∧ Below w.heap.size w w' := by
 obtain ⟨ie, hie, hz, hsz, _⟩ := info_nat'
 have hs1 : ¬ 2 * ie.size > 2 ^ 24 := by rw [hsz]; decide
 have hs2 : ¬ 2 * ie.size = 0 := by rw [hsz]; decide
 have hlA := lit_two leG leG ie.size hsz
 have hlB := lit_two 2 3 ie.size hsz
 have hnw := fun w' g (r : Row w' g (lksC 3 (lN leL) twoA) 44) => gnew_yes 3 3 (some ⟨g, 0, none⟩) leG _ _ g 0 _ _ w' (by decide) (by decide) (lks_links r le_lt) least_is
 rw [le_p, le_q] at hnw
 have hmu := fun w' g gr gf (h : GrpAt w' g gr gf 1055500680322183127 1966023127 leG) gU gV (rU : Row w' gU (natC leG ++ natC leG) 24) (rV : Row w' gV (natC 2 ++ natC 3) 24) => qMulti_ok g gr gf _ _ _ 2 2 2 (some ⟨gU, 0, none⟩) (some ⟨gV, 0, none⟩) _ _ gU 0 gV 0 _ _ _ _ w' (by decide) (nats_two rU (by decide) (by decide)) (nats_two rV (by decide) (by decide)) le_rg h
 rw [le_multi] at hmu
 have hof0 := fun w' g gr gf (h : GrpAt w' g gr gf 1055500680322183127 1966023127 leG) => qOf_ok 0 g gr gf _ _ _ w' (by decide) (by decide) le_rg h
 rw [show leG ^ 0 % 1055500680322183127 = 1 from rfl] at hof0
 have hof1 := fun w' g gr gf (h : GrpAt w' g gr gf 1055500680322183127 1966023127 leG) => qOf_ok 1 g gr gf _ _ _ w' (by decide) (by decide) le_rg h
 rw [show leG ^ 1 % 1055500680322183127 = leG by decide +kernel] at hof1
 have hof5 := fun w' g gr gf (h : GrpAt w' g gr gf 1055500680322183127 1966023127 leG) => qOf_ok 5 g gr gf _ _ _ w' (by decide) (by decide) le_rg h
 rw [le_5] at hof5
 have hin5 := fun w' g gr gf (h : GrpAt w' g gr gf 1055500680322183127 1966023127 leG) => qIn_ok le5 g gr gf _ _ _ w' (by decide) (by decide) le_rg h
 rw [le_in5] at hin5
 have hin2 := fun w' g gr gf (h : GrpAt w' g gr gf 1055500680322183127 1966023127 leG) => qIn_ok 2 g gr gf _ _ _ w' (by decide) (by decide) le_rg h
 rw [le_in2] at hin2
 have hin0 := fun w' g gr gf (h : GrpAt w' g gr gf 1055500680322183127 1966023127 leG) => qIn_ok 0 g gr gf _ _ _ w' (by decide) (by decide) le_rg h
 rw [le_in0] at hin0
 have o1 := fun w' => of9_any 1 w' (by decide)
 have o2 := fun w' => of9_any 2 w' (by decide)
 have o3 := fun w' => of9_any 3 w' (by decide)
 have o5 := fun w' => of9_any 5 w' (by decide)
 go_enter Try.func18, Try.ntmps18
 have sb := Below.refl w.heap.size w
 (repeat ((fail_if_success with_reducible refine rg ?_); go_step))
 refine wp_region_pw ?_
 refine pw_value (by rfl) (.bool false) (fun _ => rfl) ?_
 simp only [Act.put, List.setIfInBounds_toArray, List.set_cons_zero]
 refine pw_nil ?_
 (repeat ((fail_if_success with_reducible refine rg ?_); go_step))
 refine wp_region_pw ?_
 refine pw_callE (by rfl) 4 _ _ rfl Try.func4 (by kernel_rfl) #[] rfl (rleast_any _) ?_
 rintro _ z1000 ⟨gL, rfl, nL, rL, hb⟩
 refine ⟨_, rfl, ?_⟩
 simp only [Act.put, pu]
 have bL := Nat.le_trans sb.size nL
 clear nL
 have k := Kept.ofBelow hb
 clear hb
 replace sb := sb.trans (k.below w.heap.size sb.size (by simp <;> omega))
 clear k
 refine pw_callE (by rfl) 7 _ _ rfl Try.func7 (by kernel_rfl) #[.agg (paC (some ⟨gL, 0, none⟩) 3 3 leG)] rfl (hnw _ gL rL) ?_
 rintro _ z1001 ⟨g, gr, gf, rfl, ⟨rG, rR, rF⟩, hb⟩
 refine ⟨_, rfl, ?_⟩
 simp only [Act.put, pu]
 have k := Kept.ofBelow hb
 clear hb
 replace rL := k.row rL (by simp <;> omega)
 replace sb := sb.trans (k.below w.heap.size sb.size (by simp <;> omega))
 clear k
 refine pw_mv (by rfl) rfl rfl ?_
 simp only [Act.put, pu]
 refine pw_ext (by rfl) rfl rfl rfl ?_
 simp only [Act.put, pu]
 refine pw_ext (by rfl) rfl rfl rfl ?_
 simp only [Act.put, pu]
 refine pw_as (by rfl) rfl rfl ?_
 simp only [Act.put, pu]
 refine pw_as (by rfl) rfl rfl ?_
 simp only [Act.put, pu]
 refine pw_nil ?_
 clear hnw rL
 (repeat ((fail_if_success with_reducible refine rg ?_); go_step))
 refine wp_region_pw ?_
 refine pw_mv (by rfl) rfl rfl ?_
 simp only [Act.put, pu]
 refine pw_callE (by rfl) 4 _ _ rfl Try.func4 (by kernel_rfl) #[] rfl (rleast_any _) ?_
 rintro _ z2001 ⟨gA, rfl, nA, rA, hb⟩
 refine ⟨_, rfl, ?_⟩
 simp only [Act.put, pu]
 have dGxA := Nat.lt_of_lt_of_le rG.lt nA
 have dRxA := Nat.lt_of_lt_of_le rR.lt nA
 have dFxA := Nat.lt_of_lt_of_le rF.lt nA
 have bA := Nat.le_trans sb.size nA
 clear nA
 have k := Kept.ofBelow hb
 clear hb
 replace rG := k.row rG (by simp <;> omega)
 replace rR := k.row rR (by simp <;> omega)
 replace rF := k.row rF (by simp <;> omega)
 replace sb := sb.trans (k.below w.heap.size sb.size (by simp <;> omega))
 clear k
 refine pw_value (by rfl) (.agg (natC leG)) (exec_fieldv _ _ _ rfl _ _ rfl (paf_g _ _ _ _)) ?_
 simp only [Act.put, pu]
 refine pw_callE (by rfl) 4 _ _ rfl Try.func4 (by kernel_rfl) #[] rfl (rleast_any _) ?_
 rintro _ z2003 ⟨gB, rfl, nB, rB, hb⟩
 refine ⟨_, rfl, ?_⟩
 simp only [Act.put, pu]
 have dGxB := Nat.lt_of_lt_of_le rG.lt nB
 have dRxB := Nat.lt_of_lt_of_le rR.lt nB
 have dFxB := Nat.lt_of_lt_of_le rF.lt nB
 have dAxB := Nat.lt_of_lt_of_le rA.lt nB
 have bB := Nat.le_trans sb.size nB
 clear nB
 have k := Kept.ofBelow hb
 clear hb
 replace rG := k.row rG (by simp <;> omega)
 replace rR := k.row rR (by simp <;> omega)
 replace rF := k.row rF (by simp <;> omega)
 replace rA := k.row rA (by simp <;> omega)
 replace sb := sb.trans (k.below w.heap.size sb.size (by simp <;> omega))
 clear k
 refine pw_value (by rfl) (.agg (natC leG)) (exec_fieldv _ _ _ rfl _ _ rfl (paf_g _ _ _ _)) ?_
 simp only [Act.put, pu]
 refine pw_litr (by rfl) 37 24 2 _ rfl (natC leG ++ natC leG) ie _ Try.underlying37 hie hz hs1 hs2 [(0, .agg (natC leG)), (1, .agg (natC leG))] rfl hlA ?_
 intro gU z2005 n0 rU k
 simp only [Act.put, pu]
 have dGxU := Nat.lt_of_lt_of_le rG.lt n0
 have dRxU := Nat.lt_of_lt_of_le rR.lt n0
 have dFxU := Nat.lt_of_lt_of_le rF.lt n0
 have dAxU := Nat.lt_of_lt_of_le rA.lt n0
 have dBxU := Nat.lt_of_lt_of_le rB.lt n0
 have bU := Nat.le_trans sb.size n0
 clear n0
 replace rG := k.row rG (by simp <;> omega)
 replace rR := k.row rR (by simp <;> omega)
 replace rF := k.row rF (by simp <;> omega)
 replace rA := k.row rA (by simp <;> omega)
 replace rB := k.row rB (by simp <;> omega)
 replace sb := sb.trans (k.below w.heap.size sb.size (by simp <;> omega))
 clear k
 refine pw_callB (by rfl) 17 _ _ rfl Try.func17 (by kernel_rfl) #[.int .i64 2] rfl _ (o2 _) ?_
 intro z2006 k
 simp only [Act.put, pu]
 replace rG := k.row rG (by simp <;> omega)
 replace rR := k.row rR (by simp <;> omega)
 replace rF := k.row rF (by simp <;> omega)
 replace rA := k.row rA (by simp <;> omega)
 replace rB := k.row rB (by simp <;> omega)
 replace rU := k.row rU (by simp <;> omega)
 replace sb := sb.trans (k.below w.heap.size sb.size (by simp <;> omega))
 clear k
 refine pw_callB (by rfl) 17 _ _ rfl Try.func17 (by kernel_rfl) #[.int .i64 3] rfl _ (o3 _) ?_
 intro z2007 k
 simp only [Act.put, pu]
 replace rG := k.row rG (by simp <;> omega)
 replace rR := k.row rR (by simp <;> omega)
 replace rF := k.row rF (by simp <;> omega)
 replace rA := k.row rA (by simp <;> omega)
 replace rB := k.row rB (by simp <;> omega)
 replace rU := k.row rU (by simp <;> omega)
 replace sb := sb.trans (k.below w.heap.size sb.size (by simp <;> omega))
 clear k
 refine pw_litr (by rfl) 37 24 2 _ rfl (natC 2 ++ natC 3) ie _ Try.underlying37 hie hz hs1 hs2 [(0, .agg (natC 2)), (1, .agg (natC 3))] rfl hlB ?_
 intro gV z2008 n0 rV k
 simp only [Act.put, pu]
 have dGxV := Nat.lt_of_lt_of_le rG.lt n0
 have dRxV := Nat.lt_of_lt_of_le rR.lt n0
 have dFxV := Nat.lt_of_lt_of_le rF.lt n0
 have dAxV := Nat.lt_of_lt_of_le rA.lt n0
 have dBxV := Nat.lt_of_lt_of_le rB.lt n0
 have dUxV := Nat.lt_of_lt_of_le rU.lt n0
 have bV := Nat.le_trans sb.size n0
 clear n0
 replace rG := k.row rG (by simp <;> omega)
 replace rR := k.row rR (by simp <;> omega)
 replace rF := k.row rF (by simp <;> omega)
 replace rA := k.row rA (by simp <;> omega)
 replace rB := k.row rB (by simp <;> omega)
 replace rU := k.row rU (by simp <;> omega)
 replace sb := sb.trans (k.below w.heap.size sb.size (by simp <;> omega))
 clear k
 refine pw_callB (by rfl) 9 _ _ rfl Try.func9 (by kernel_rfl) #[.pointer (some ⟨g, 0, none⟩), .slice (some ⟨gU, 0, none⟩) 2 2, .slice (some ⟨gV, 0, none⟩) 2 2] rfl _ (hmu _ g gr gf ⟨rG, rR, rF⟩ gU gV rU rV) ?_
 intro z2009 k
 simp only [Act.put, pu]
 replace rG := k.row rG (by simp <;> omega)
 replace rR := k.row rR (by simp <;> omega)
 replace rF := k.row rF (by simp <;> omega)
 replace rA := k.row rA (by simp <;> omega)
 replace rB := k.row rB (by simp <;> omega)
 replace rU := k.row rU (by simp <;> omega)
 replace rV := k.row rV (by simp <;> omega)
 replace sb := sb.trans (k.below w.heap.size sb.size (by simp <;> omega))
 clear k
 refine pw_mv (by rfl) rfl rfl ?_
 simp only [Act.put, pu]
 refine pw_ext (by rfl) rfl rfl rfl ?_
 simp only [Act.put, pu]
 refine pw_ext (by rfl) rfl rfl rfl ?_
 simp only [Act.put, pu]
 refine pw_new (by rfl) 24 rfl _ zero_nat ?_
 intro g3 z2013 n0 r3 k
 simp only [Act.put, pu]
 have dGx3 := Nat.lt_of_lt_of_le rG.lt n0
 have dRx3 := Nat.lt_of_lt_of_le rR.lt n0
 have dFx3 := Nat.lt_of_lt_of_le rF.lt n0
 have dAx3 := Nat.lt_of_lt_of_le rA.lt n0
 have dBx3 := Nat.lt_of_lt_of_le rB.lt n0
 have dUx3 := Nat.lt_of_lt_of_le rU.lt n0
 have dVx3 := Nat.lt_of_lt_of_le rV.lt n0
 have b3 := Nat.le_trans sb.size n0
 clear n0
 replace rG := k.row rG (by simp <;> omega)
 replace rR := k.row rR (by simp <;> omega)
 replace rF := k.row rF (by simp <;> omega)
 replace rA := k.row rA (by simp <;> omega)
 replace rB := k.row rB (by simp <;> omega)
 replace rU := k.row rU (by simp <;> omega)
 replace rV := k.row rV (by simp <;> omega)
 replace sb := sb.trans (k.below w.heap.size sb.size (by simp <;> omega))
 clear k
 refine pw_put (by rfl) 24 _ _ rfl _ rfl r3 (natC le5) rfl (by exact size_nat) (by simp only [natC_size]) (natC_one _) ?_
 clear r3
 intro z2014 r3 k
 simp only [Act.put]
 replace rG := k.row rG (by simp <;> omega)
 replace rR := k.row rR (by simp <;> omega)
 replace rF := k.row rF (by simp <;> omega)
 replace rA := k.row rA (by simp <;> omega)
 replace rB := k.row rB (by simp <;> omega)
 replace rU := k.row rU (by simp <;> omega)
 replace rV := k.row rV (by simp <;> omega)
 replace sb := sb.trans (k.below w.heap.size sb.size (by simp <;> omega))
 clear k
 refine pw_as (by rfl) rfl rfl ?_
 simp only [Act.put, pu]
 refine pw_nil ?_
 have hg : GrpAt _ g gr gf 1055500680322183127 1966023127 leG := ⟨rG, rR, rF⟩
 clear hlA hlB hmu rG rR rF rU rV rA rB hie hz hs1 hs2 hsz o3
 (repeat ((fail_if_success with_reducible refine rg ?_); go_step))
 apply wp_region_mixg (by kernel_rfl) [] [_, _, _, _, _, _, _, _, _, _, _, _, _, _, _, _, _, _, _, _, _, _, _, _, _, _, _, _, _, _, _, _, _, _, _, _, _, _, _, _, _, _, _, _, _, _] trivial List.nodup_nil
 ·intro p
  refine mg_step (by rfl) (mx_move rfl rfl (mx_end ?_))
  simp only [Act.put, pu]
  refine mg_step (by rfl) (mx_val (.bool true) (exec_eql_k .i64 _ _ _ _ rfl 0 0 rfl rfl true rfl) (mx_end ?_))
  simp only [Act.put, pu]
  refine mg_step (by rfl) (mx_move rfl rfl (mx_end ?_))
  simp only [Act.put, pu]
  refine mg_step (by rfl) (mx_move rfl rfl (mx_end ?_))
  simp only [Act.put, pu]
  refine mg_step (by rfl) (mx_val (.agg (natC 0)) (exec_build0 _ rfl _ built_nat) (mx_end ?_))
  simp only [Act.put, pu]
  refine mg_step (by rfl) (mx_callK 8 _ _ rfl Try.func8 (by kernel_rfl) #[.pointer (some ⟨g, 0, none⟩), .agg (natC 0)] rfl _ (fun w' hk => hof0 w' g gr gf (hg.below (hk.below _ (Nat.le_refl _) (by simp)))) (mx_end ?_))
  simp only [Act.put, pu]
  refine mg_step (by rfl) (mx_call 17 _ _ rfl Try.func17 (by kernel_rfl) #[.int .i64 1] rfl _ o1 (mx_end ?_))
  simp only [Act.put, pu]
  refine mg_step (by rfl) (mx_val (.bool true) (fun w' => (exec_eql_nat _ _ _ rfl 1 1 rfl rfl w').trans (by rw [eqn_yes])) (mx_end ?_))
  simp only [Act.put, pu]
  refine mg_step (by rfl) (mx_pick true (v := .bool true) rfl rfl rfl (mx_end ?_))
  simp only [Act.put, pu]
  refine mg_step (by rfl) (mx_move rfl rfl (mx_end ?_))
  simp only [Act.put, pu]
  refine mg_step (by rfl) (mx_move rfl rfl (mx_end ?_))
  simp only [Act.put, pu]
  refine mg_step (by rfl) (mx_call 17 _ _ rfl Try.func17 (by kernel_rfl) #[.int .i64 1] rfl _ o1 (mx_end ?_))
  simp only [Act.put, pu]
  refine mg_step (by rfl) (mx_callK 8 _ _ rfl Try.func8 (by kernel_rfl) #[.pointer (some ⟨g, 0, none⟩), .agg (natC 1)] rfl _ (fun w' hk => hof1 w' g gr gf (hg.below (hk.below _ (Nat.le_refl _) (by simp)))) (mx_end ?_))
  simp only [Act.put, pu]
  refine mg_step (by rfl) (mx_callN 4 _ _ rfl Try.func4 (by kernel_rfl) #[] rfl (fun g => .agg (paC (some ⟨g, 0, none⟩) 3 3 leG)) 44 (lksC 3 (lN leL) twoA) (fun w' _ => rleast_any w') (mx_end ?_))
  simp only [Act.put, pu]
  refine mg_step (by rfl) (mx_val (.agg (natC leG)) (exec_fieldv _ _ _ rfl _ _ rfl (paf_g _ _ _ _)) (mx_end ?_))
  simp only [Act.put, pu]
  refine mg_step (by rfl) (mx_val (.bool true) (fun w' => (exec_eql_nat _ _ _ rfl leG leG rfl rfl w').trans (by rw [eqn_yes])) (mx_end ?_))
  simp only [Act.put, pu]
  refine mg_step (by rfl) (mx_pick true (v := .bool true) rfl rfl rfl (mx_end ?_))
  simp only [Act.put, pu]
  refine mg_step (by rfl) (mx_move rfl rfl (mx_end ?_))
  simp only [Act.put, pu]
  refine mg_step (by rfl) (mx_load 24 _ rfl _ rfl r3 (by simp <;> omega) 4 _ Try.underlying24 size_nat (mx_end ?_))
  simp only [Act.put, pu]
  refine mg_step (by rfl) (mx_move rfl rfl (mx_end ?_))
  simp only [Act.put, pu]
  refine mg_step (by rfl) (mx_call 17 _ _ rfl Try.func17 (by kernel_rfl) #[.int .i64 5] rfl _ o5 (mx_end ?_))
  simp only [Act.put, pu]
  refine mg_step (by rfl) (mx_callK 8 _ _ rfl Try.func8 (by kernel_rfl) #[.pointer (some ⟨g, 0, none⟩), .agg (natC 5)] rfl _ (fun w' hk => hof5 w' g gr gf (hg.below (hk.below _ (Nat.le_refl _) (by simp)))) (mx_end ?_))
  simp only [Act.put, pu]
  refine mg_step (by rfl) (mx_val (.bool true) (fun w' => (exec_eql_nat _ _ _ rfl le5 le5 rfl rfl w').trans (by rw [eqn_yes])) (mx_end ?_))
  simp only [Act.put, pu]
  refine mg_step (by rfl) (mx_pick true (v := .bool true) rfl rfl rfl (mx_end ?_))
  simp only [Act.put, pu]
  refine mg_step (by rfl) (mx_move rfl rfl (mx_end ?_))
  simp only [Act.put, pu]
  refine mg_step (by rfl) (mx_move rfl rfl (mx_end ?_))
  simp only [Act.put, pu]
  refine mg_step (by rfl) (mx_val (.bool true) (exec_eql_k .i64 _ _ _ _ rfl 0 0 rfl rfl true rfl) (mx_end ?_))
  simp only [Act.put, pu]
  refine mg_step (by rfl) (mx_pick true (v := .bool true) rfl rfl rfl (mx_end ?_))
  simp only [Act.put, pu]
  refine mg_step (by rfl) (mx_move rfl rfl (mx_end ?_))
  simp only [Act.put, pu]
  refine mg_step (by rfl) (mx_move rfl rfl (mx_end ?_))
  simp only [Act.put, pu]
  refine mg_step (by rfl) (mx_load 24 _ rfl _ rfl r3 (by simp <;> omega) 4 _ Try.underlying24 size_nat (mx_end ?_))
  simp only [Act.put, pu]
  refine mg_step (by rfl) (mx_callK 15 _ _ rfl Try.func15 (by kernel_rfl) #[.pointer (some ⟨g, 0, none⟩), .agg (natC le5)] rfl _ (fun w' hk => hin5 w' g gr gf (hg.below (hk.below _ (Nat.le_refl _) (by simp)))) (mx_end ?_))
  simp only [Act.put, pu]
  refine mg_step (by rfl) (mx_pick true (v := .bool true) rfl rfl rfl (mx_end ?_))
  simp only [Act.put, pu]
  refine mg_step (by rfl) (mx_move rfl rfl (mx_end ?_))
  simp only [Act.put, pu]
  refine mg_step (by rfl) (mx_move rfl rfl (mx_end ?_))
  simp only [Act.put, pu]
  refine mg_step (by rfl) (mx_call 17 _ _ rfl Try.func17 (by kernel_rfl) #[.int .i64 2] rfl _ o2 (mx_end ?_))
  simp only [Act.put, pu]
  refine mg_step (by rfl) (mx_callK 15 _ _ rfl Try.func15 (by kernel_rfl) #[.pointer (some ⟨g, 0, none⟩), .agg (natC 2)] rfl _ (fun w' hk => hin2 w' g gr gf (hg.below (hk.below _ (Nat.le_refl _) (by simp)))) (mx_end ?_))
  simp only [Act.put, pu]
  refine mg_step (by rfl) (mx_val (.bool true) (exec_not _ _ rfl false rfl) (mx_end ?_))
  simp only [Act.put, pu]
  refine mg_step (by rfl) (mx_pick true (v := .bool true) rfl rfl rfl (mx_end ?_))
  simp only [Act.put, pu]
  refine mg_step (by rfl) (mx_move rfl rfl (mx_end ?_))
  simp only [Act.put, pu]
  refine mg_step (by rfl) (mx_move rfl rfl (mx_end ?_))
  simp only [Act.put, pu]
  refine mg_step (by rfl) (mx_val (.agg (natC 0)) (exec_build0 _ rfl _ built_nat) (mx_end ?_))
  simp only [Act.put, pu]
  refine mg_step (by rfl) (mx_callK 15 _ _ rfl Try.func15 (by kernel_rfl) #[.pointer (some ⟨g, 0, none⟩), .agg (natC 0)] rfl _ (fun w' hk => hin0 w' g gr gf (hg.below (hk.below _ (Nat.le_refl _) (by simp)))) (mx_end ?_))
  simp only [Act.put, pu]
  refine mg_step (by rfl) (mx_val (.bool true) (exec_not _ _ rfl false rfl) (mx_end ?_))
  simp only [Act.put, pu]
  refine mg_step (by rfl) (mx_pick true (v := .bool true) rfl rfl rfl (mx_end ?_))
  simp only [Act.put, pu]
  refine mg_step (by rfl) (mx_asg rfl rfl (mx_end ?_))
  simp only [Act.put, List.setIfInBounds_toArray, List.set_cons_zero]
  refine mg_end ?_
  intro w9 hkw hrw hnew hdis
  have n36 := hnew 13 rfl
  have zr36 : Row w9 (p 13) (lksC 3 (lN leL) twoA) 44 := hrw 27 (44, lksC 3 (lN leL) twoA) rfl
  replace sb := sb.trans (hkw.below w.heap.size sb.size (by simp <;> omega))
  clear hkw hrw hnew hdis n36
  generalize p 13 = g36 at *
  have r36 := zr36
  clear zr36
  go_wp2
  go_ret
  exact ⟨rfl, sb⟩
 ·kernel_rfl
end Go.Proofs.Yteddgjoailpgaab
