/- Plain mathematics of layer 8: sums, differences, products and inverses by a prime. -/
import Derived.Test.YtfhgdgnhcmakhaaGI
import Derived.Test.YtfhgdgnhcmakhaaGH
import Derived.Test.YtfhgdgnhcmakhaaPM
import Derived.Test.YtfhgdgnhcmakhaaWAdd
import Derived.Test.YtfhgdgnhcmakhaaGW
import Derived.Test.YtfhgdgnhcmakhaaMNobody
import Derived.Test.YtfhgdgnhcmakhaaGT
import Derived.Test.YtfhgdgnhcmakhaaWI
import Derived.Test.YtfhgdgnhcmakhaaMPow
import Derived.Test.YtfhgdgnhcmakhaaGO
import Derived.Test.YtfhgdgnhcmakhaaGAwake
namespace Go.Proofs.Ytfhgdgnhcmakhaa
/-- A difference by q. -/
def sbN (A B q : Nat) : Nat := (A % q + (q - B % q)) % q
/-- The sum of products of the first k. -/
def dotN (a b : Nat → Nat) (q : Nat) : Nat → Nat
 | 0 => 0
 | k + 1 => (dotN a b q k + a k * b k % q) % q
theorem subZ_sb (A B q : Nat) (h : 0 < q) : subZ A B q = sbN A B q := if_neg (by omega)
/-- The inverse of what is 0 by a prime. -/
theorem inv_0 {A q : Nat} (hq : IsP q) (h : A % q = 0) : invZ A q = 0 := by
 unfold invZ
 rw [if_neg (by have := hq.1; omega), if_neg]
 intro hg
 have hd : q ∣ Nat.gcd A q := Nat.dvd_gcd (Nat.dvd_of_mod_eq_zero h) (Nat.dvd_refl q)
 rw [hg] at hd
 have := Nat.le_of_dvd (by decide) hd
 have := hq.1
 omega
theorem inv_gcd {A q : Nat} (hq : IsP q) (h : A % q ≠ 0) : Nat.gcd A q = 1 := by
 rw [Nat.gcd_comm]
 exact isP_coprime hq fun hd => h (Nat.mod_eq_zero_of_dvd hd)
/-- The inverse of what is not 0 by a prime. -/
theorem inv_1 {A q : Nat} (hq : IsP q) (h : A % q ≠ 0) : A * invZ A q % q = 1 := by
 rw [Nat.mul_comm]
 exact (inv_is A q hq.1 (inv_gcd hq h)).2
theorem inv_lt (A q : Nat) (hq : IsP q) : invZ A q < q := by
 by_cases h : A % q = 0
 ·rw [inv_0 hq h]
  have := hq.1
  omega
 ·exact (inv_is A q hq.1 (inv_gcd hq h)).1
/-- The document's inverse. -/
def ivN (x q : Nat) : Nat := if x = 0 then 0 else x ^ (q - 2) % q
end Go.Proofs.Ytfhgdgnhcmakhaa
/- field's In, Add, Sub, Mul, Inv, Dot: of a group that New has made, and of one that nobody made. -/
namespace Go.Proofs.Ytfhgdgnhcmakhaa
open Go.RowKit
set_option maxRecDepth 100000 in
set_option maxHeartbeats 2000000 in
theorem fAdd_core (v : Option Addr) (A B QQ S : Nat) (z : Int) (w : World) (hq : ∀ w', Below w.heap.size w w' → Calls Try.prog 74 #[.pointer v] w' fun e w2 => e = .returned (.agg (natC QQ)) ∧ Below w'.heap.size w' w2)
  (had : ∀ w', Calls Try.prog 96 #[.agg (natC A), .agg (natC B), .agg (natC QQ)] w' fun e w2 => e = .returned (.tuple #[.agg (natC S), .int .i64 z]) ∧ Below w'.heap.size w' w2) :
  Calls Try.prog 72 #[.pointer v, .agg (natC A), .agg (natC B)] w fun e w' => e = .returned (.agg (natC S)) ∧ Below w.heap.size w w' := by
 go_enter Try.func72, Try.ntmps72
 (repeat ((fail_if_success with_reducible refine rg ?_); go_step))
 refine wp_region_pw ?_
 refine pw_boxr (by rfl) 31 _ rfl (_) rfl ?_
 intro g4 z0 n0 r4 k
 simp only [Act.put, pu]
 have b4 : w.heap.size ≤ g4 := n0
 clear n0
 have sb := k.below w.heap.size (Nat.le_refl _) (by simp)
 clear k
 refine pw_boxr (by rfl) 31 _ rfl (_) rfl ?_
 intro g5 z1 n0 r5 k
 simp only [Act.put, pu]
 have d4x5 := Nat.lt_of_lt_of_le r4.lt n0
 have b5 := Nat.le_trans sb.size n0
 clear n0
 replace r4 := k.row r4 (by simp <;> omega)
 replace sb := sb.trans (k.below w.heap.size sb.size (by simp <;> omega))
 clear k
 refine pw_new (by rfl) 31 rfl _ zero_nat ?_
 intro g6 z2 n0 r6 k
 simp only [Act.put, pu]
 have d4x6 := Nat.lt_of_lt_of_le r4.lt n0
 have d5x6 := Nat.lt_of_lt_of_le r5.lt n0
 have b6 := Nat.le_trans sb.size n0
 clear n0
 replace r4 := k.row r4 (by simp <;> omega)
 replace r5 := k.row r5 (by simp <;> omega)
 replace sb := sb.trans (k.below w.heap.size sb.size (by simp <;> omega))
 clear k
 refine pw_nil ?_
 (repeat ((fail_if_success with_reducible refine rg ?_); go_step))
 apply wp_region_mix (by kernel_rfl) [] [_, _, _, _, _, _, _, _, _, _, _] trivial List.nodup_nil
 ·intro p
  refine mx_load 31 _ rfl _ rfl r4 (by simp <;> omega) 4 _ Try.underlying31 size_nat ?_
  simp only [Act.put, pu]
  refine mx_load 31 _ rfl _ rfl r5 (by simp <;> omega) 4 _ Try.underlying31 size_nat ?_
  refine mx_move rfl rfl ?_
  simp only [Act.put, pu]
  refine mx_callK 74 _ _ rfl Try.func74 (by kernel_rfl) #[.pointer v] rfl _ (fun w' hk => hq w' (sb.trans (hk.below w.heap.size sb.size (by simp <;> omega)))) ?_
  simp only [Act.put, pu]
  refine mx_call 96 _ _ rfl Try.func96 (by kernel_rfl) #[.agg (natC A), .agg (natC B), .agg (natC QQ)] rfl _ had ?_
  refine mx_move rfl rfl ?_
  refine mx_ext rfl rfl rfl ?_
  refine mx_ext rfl rfl rfl ?_
  simp only [Act.put, pu]
  refine mx_new 31 rfl _ zero_nat ?_
  simp only [Act.put, pu]
  refine mx_put 17 31 _ _ rfl rfl rfl (natC S) rfl (by exact size_nat) (by simp only [natC_size]) (natC_one _) ?_
  simp only [Act.put]
  refine mx_asg rfl rfl ?_
  simp only [Act.put, pu]
  refine mx_end ?_
  intro w2 hkw hrw hnew hdis
  have n7 := hnew 8 rfl
  have zr7 : Row w2 (p 8) (natC S) 31 := hrw 17 (31, natC S) rfl
  have d6x7 := Nat.lt_of_lt_of_le r6.lt n7
  replace r6 := hkw.row r6 (by simp <;> omega)
  have b7 := Nat.le_trans sb.size n7
  replace sb := sb.trans (hkw.below w.heap.size sb.size (by simp <;> omega))
  clear hkw hrw hnew hdis n7
  generalize p 8 = g7 at *
  have r7 := zr7
  clear zr7
  (repeat ((fail_if_success with_reducible refine rg ?_); go_step))
  refine wp_region_pw ?_
  refine pw_loadm (by rfl) 31 _ rfl _ 0 rfl r7.r _ (part_all _) _ Try.underlying31 rfl size_nat ?_
  simp only [Act.put, pu]
  refine pw_put (by rfl) 31 _ _ rfl _ rfl r6 (natC S) rfl (by exact size_nat) (by simp only [natC_size]) (natC_one _) ?_
  clear r6
  intro z2001 r6 k
  simp only [Act.put]
  replace r7 := k.row r7 (by simp <;> omega)
  replace sb := sb.trans (k.below w.heap.size sb.size (by simp <;> omega))
  clear k
  refine pw_nil ?_
  go_wp2
  exact ret_row rfl _ rfl r6 4 _ Try.underlying31 (by exact size_nat) rfl ⟨rfl, sb⟩
 ·kernel_rfl
set_option maxRecDepth 100000 in
set_option maxHeartbeats 2000000 in
theorem fSub_core (v : Option Addr) (A B QQ S : Nat) (z : Int) (w : World) (hq : ∀ w', Below w.heap.size w w' → Calls Try.prog 74 #[.pointer v] w' fun e w2 => e = .returned (.agg (natC QQ)) ∧ Below w'.heap.size w' w2)
  (had : ∀ w', Calls Try.prog 73 #[.agg (natC A), .agg (natC B), .agg (natC QQ)] w' fun e w2 => e = .returned (.tuple #[.agg (natC S), .int .i64 z]) ∧ Below w'.heap.size w' w2) :
  Calls Try.prog 50 #[.pointer v, .agg (natC A), .agg (natC B)] w fun e w' => e = .returned (.agg (natC S)) ∧ Below w.heap.size w w' := by
 go_enter Try.func50, Try.ntmps50
 (repeat ((fail_if_success with_reducible refine rg ?_); go_step))
 refine wp_region_pw ?_
 refine pw_boxr (by rfl) 31 _ rfl (_) rfl ?_
 intro g4 z0 n0 r4 k
 simp only [Act.put, pu]
 have b4 : w.heap.size ≤ g4 := n0
 clear n0
 have sb := k.below w.heap.size (Nat.le_refl _) (by simp)
 clear k
 refine pw_boxr (by rfl) 31 _ rfl (_) rfl ?_
 intro g5 z1 n0 r5 k
 simp only [Act.put, pu]
 have d4x5 := Nat.lt_of_lt_of_le r4.lt n0
 have b5 := Nat.le_trans sb.size n0
 clear n0
 replace r4 := k.row r4 (by simp <;> omega)
 replace sb := sb.trans (k.below w.heap.size sb.size (by simp <;> omega))
 clear k
 refine pw_new (by rfl) 31 rfl _ zero_nat ?_
 intro g6 z2 n0 r6 k
 simp only [Act.put, pu]
 have d4x6 := Nat.lt_of_lt_of_le r4.lt n0
 have d5x6 := Nat.lt_of_lt_of_le r5.lt n0
 have b6 := Nat.le_trans sb.size n0
 clear n0
 replace r4 := k.row r4 (by simp <;> omega)
 replace r5 := k.row r5 (by simp <;> omega)
 replace sb := sb.trans (k.below w.heap.size sb.size (by simp <;> omega))
 clear k
 refine pw_nil ?_
 (repeat ((fail_if_success with_reducible refine rg ?_); go_step))
 apply wp_region_mix (by kernel_rfl) [] [_, _, _, _, _, _, _, _, _, _, _] trivial List.nodup_nil
 ·intro p
  refine mx_load 31 _ rfl _ rfl r4 (by simp <;> omega) 4 _ Try.underlying31 size_nat ?_
  simp only [Act.put, pu]
  refine mx_load 31 _ rfl _ rfl r5 (by simp <;> omega) 4 _ Try.underlying31 size_nat ?_
  refine mx_move rfl rfl ?_
  simp only [Act.put, pu]
  refine mx_callK 74 _ _ rfl Try.func74 (by kernel_rfl) #[.pointer v] rfl _ (fun w' hk => hq w' (sb.trans (hk.below w.heap.size sb.size (by simp <;> omega)))) ?_
  simp only [Act.put, pu]
  refine mx_call 73 _ _ rfl Try.func73 (by kernel_rfl) #[.agg (natC A), .agg (natC B), .agg (natC QQ)] rfl _ had ?_
  refine mx_move rfl rfl ?_
  refine mx_ext rfl rfl rfl ?_
  refine mx_ext rfl rfl rfl ?_
  simp only [Act.put, pu]
  refine mx_new 31 rfl _ zero_nat ?_
  simp only [Act.put, pu]
  refine mx_put 17 31 _ _ rfl rfl rfl (natC S) rfl (by exact size_nat) (by simp only [natC_size]) (natC_one _) ?_
  simp only [Act.put]
  refine mx_asg rfl rfl ?_
  simp only [Act.put, pu]
  refine mx_end ?_
  intro w2 hkw hrw hnew hdis
  have n7 := hnew 8 rfl
  have zr7 : Row w2 (p 8) (natC S) 31 := hrw 17 (31, natC S) rfl
  have d6x7 := Nat.lt_of_lt_of_le r6.lt n7
  replace r6 := hkw.row r6 (by simp <;> omega)
  have b7 := Nat.le_trans sb.size n7
  replace sb := sb.trans (hkw.below w.heap.size sb.size (by simp <;> omega))
  clear hkw hrw hnew hdis n7
  generalize p 8 = g7 at *
  have r7 := zr7
  clear zr7
  (repeat ((fail_if_success with_reducible refine rg ?_); go_step))
  refine wp_region_pw ?_
  refine pw_loadm (by rfl) 31 _ rfl _ 0 rfl r7.r _ (part_all _) _ Try.underlying31 rfl size_nat ?_
  simp only [Act.put, pu]
  refine pw_put (by rfl) 31 _ _ rfl _ rfl r6 (natC S) rfl (by exact size_nat) (by simp only [natC_size]) (natC_one _) ?_
  clear r6
  intro z2001 r6 k
  simp only [Act.put]
  replace r7 := k.row r7 (by simp <;> omega)
  replace sb := sb.trans (k.below w.heap.size sb.size (by simp <;> omega))
  clear k
  refine pw_nil ?_
  go_wp2
  exact ret_row rfl _ rfl r6 4 _ Try.underlying31 (by exact size_nat) rfl ⟨rfl, sb⟩
 ·kernel_rfl
set_option maxRecDepth 100000 in
set_option maxHeartbeats 2000000 in
theorem fInv_core (v : Option Addr) (A QQ S : Nat) (z : Int) (w : World) (hq : ∀ w', Below w.heap.size w w' → Calls Try.prog 74 #[.pointer v] w' fun e w2 => e = .returned (.agg (natC QQ)) ∧ Below w'.heap.size w' w2)
  (hiv : ∀ w', Calls Try.prog 81 #[.agg (natC A), .agg (natC QQ)] w' fun e w2 => e = .returned (.tuple #[.agg (natC S), .int .i64 z]) ∧ Below w'.heap.size w' w2) :
  Calls Try.prog 54 #[.pointer v, .agg (natC A)] w fun e w' => e = .returned (.agg (natC S)) ∧ Below w.heap.size w w' := by
 go_enter Try.func54, Try.ntmps54
 (repeat ((fail_if_success with_reducible refine rg ?_); go_step))
 refine wp_region_pw ?_
 refine pw_boxr (by rfl) 31 _ rfl (_) rfl ?_
 intro g3 z0 n0 r3 k
 simp only [Act.put, pu]
 have b3 : w.heap.size ≤ g3 := n0
 clear n0
 have sb := k.below w.heap.size (Nat.le_refl _) (by simp)
 clear k
 refine pw_new (by rfl) 31 rfl _ zero_nat ?_
 intro g4 z1 n0 r4 k
 simp only [Act.put, pu]
 have d3x4 := Nat.lt_of_lt_of_le r3.lt n0
 have b4 := Nat.le_trans sb.size n0
 clear n0
 replace r3 := k.row r3 (by simp <;> omega)
 replace sb := sb.trans (k.below w.heap.size sb.size (by simp <;> omega))
 clear k
 refine pw_nil ?_
 (repeat ((fail_if_success with_reducible refine rg ?_); go_step))
 apply wp_region_mix (by kernel_rfl) [] [_, _, _, _, _, _, _, _, _, _] trivial List.nodup_nil
 ·intro p
  refine mx_load 31 _ rfl _ rfl r3 (by simp <;> omega) 4 _ Try.underlying31 size_nat ?_
  refine mx_move rfl rfl ?_
  simp only [Act.put, pu]
  refine mx_callK 74 _ _ rfl Try.func74 (by kernel_rfl) #[.pointer v] rfl _ (fun w' hk => hq w' (sb.trans (hk.below w.heap.size sb.size (by simp <;> omega)))) ?_
  simp only [Act.put, pu]
  refine mx_call 81 _ _ rfl Try.func81 (by kernel_rfl) #[.agg (natC A), .agg (natC QQ)] rfl _ hiv ?_
  refine mx_move rfl rfl ?_
  refine mx_ext rfl rfl rfl ?_
  refine mx_ext rfl rfl rfl ?_
  simp only [Act.put, pu]
  refine mx_new 31 rfl _ zero_nat ?_
  simp only [Act.put, pu]
  refine mx_put 15 31 _ _ rfl rfl rfl (natC S) rfl (by exact size_nat) (by simp only [natC_size]) (natC_one _) ?_
  simp only [Act.put]
  refine mx_asg rfl rfl ?_
  simp only [Act.put, pu]
  refine mx_end ?_
  intro w2 hkw hrw hnew hdis
  have n5 := hnew 7 rfl
  have zr5 : Row w2 (p 7) (natC S) 31 := hrw 15 (31, natC S) rfl
  have d4x5 := Nat.lt_of_lt_of_le r4.lt n5
  replace r4 := hkw.row r4 (by simp <;> omega)
  have b5 := Nat.le_trans sb.size n5
  replace sb := sb.trans (hkw.below w.heap.size sb.size (by simp <;> omega))
  clear hkw hrw hnew hdis n5
  generalize p 7 = g5 at *
  have r5 := zr5
  clear zr5
  (repeat ((fail_if_success with_reducible refine rg ?_); go_step))
  refine wp_region_pw ?_
  refine pw_loadm (by rfl) 31 _ rfl _ 0 rfl r5.r _ (part_all _) _ Try.underlying31 rfl size_nat ?_
  simp only [Act.put, pu]
  refine pw_put (by rfl) 31 _ _ rfl _ rfl r4 (natC S) rfl (by exact size_nat) (by simp only [natC_size]) (natC_one _) ?_
  clear r4
  intro z2001 r4 k
  simp only [Act.put]
  replace r5 := k.row r5 (by simp <;> omega)
  replace sb := sb.trans (k.below w.heap.size sb.size (by simp <;> omega))
  clear k
  refine pw_nil ?_
  go_wp2
  exact ret_row rfl _ rfl r4 4 _ Try.underlying31 (by exact size_nat) rfl ⟨rfl, sb⟩
 ·kernel_rfl
set_option maxRecDepth 100000 in
set_option maxHeartbeats 2000000 in
theorem fMul_core (v f : Option Addr) (A B S : Nat) (w : World) (hq : ∀ w', Below w.heap.size w w' → Calls Try.prog 44 #[.pointer v] w' fun e w2 => e = .returned (.pointer f) ∧ Below w'.heap.size w' w2)
  (hmu : ∀ w', Below w.heap.size w w' → Calls Try.prog 80 #[.pointer f, .agg (natC A), .agg (natC B)] w' fun e w2 => e = .returned (.agg (natC S)) ∧ Below w'.heap.size w' w2) :
  Calls Try.prog 53 #[.pointer v, .agg (natC A), .agg (natC B)] w fun e w' => e = .returned (.agg (natC S)) ∧ Below w.heap.size w w' := by
 go_enter Try.func53, Try.ntmps53
 (repeat ((fail_if_success with_reducible refine rg ?_); go_step))
 refine wp_region_pw ?_
 refine pw_boxr (by rfl) 31 _ rfl (_) rfl ?_
 intro g4 z0 n0 r4 k
 simp only [Act.put, pu]
 have b4 : w.heap.size ≤ g4 := n0
 clear n0
 have sb := k.below w.heap.size (Nat.le_refl _) (by simp)
 clear k
 refine pw_boxr (by rfl) 31 _ rfl (_) rfl ?_
 intro g5 z1 n0 r5 k
 simp only [Act.put, pu]
 have d4x5 := Nat.lt_of_lt_of_le r4.lt n0
 have b5 := Nat.le_trans sb.size n0
 clear n0
 replace r4 := k.row r4 (by simp <;> omega)
 replace sb := sb.trans (k.below w.heap.size sb.size (by simp <;> omega))
 clear k
 refine pw_new (by rfl) 31 rfl _ zero_nat ?_
 intro g6 z2 n0 r6 k
 simp only [Act.put, pu]
 have d4x6 := Nat.lt_of_lt_of_le r4.lt n0
 have d5x6 := Nat.lt_of_lt_of_le r5.lt n0
 have b6 := Nat.le_trans sb.size n0
 clear n0
 replace r4 := k.row r4 (by simp <;> omega)
 replace r5 := k.row r5 (by simp <;> omega)
 replace sb := sb.trans (k.below w.heap.size sb.size (by simp <;> omega))
 clear k
 refine pw_nil ?_
 (repeat ((fail_if_success with_reducible refine rg ?_); go_step))
 apply wp_region_mix (by kernel_rfl) [(g6, 31, natC 0)] [_, _, _, _, _, _] ⟨r6, trivial⟩ (by simp <;> omega)
 ·intro p
  refine mx_move rfl rfl ?_
  simp only [Act.put, pu]
  refine mx_callK 44 _ _ rfl Try.func44 (by kernel_rfl) #[.pointer v] rfl _ (fun w' hk => hq w' (sb.trans (hk.below w.heap.size sb.size (by simp <;> omega)))) ?_
  simp only [Act.put, pu]
  refine mx_load 31 _ rfl _ rfl r4 (by simp <;> omega) 4 _ Try.underlying31 size_nat ?_
  simp only [Act.put, pu]
  refine mx_load 31 _ rfl _ rfl r5 (by simp <;> omega) 4 _ Try.underlying31 size_nat ?_
  simp only [Act.put, pu]
  refine mx_callK 80 _ _ rfl Try.func80 (by kernel_rfl) #[.pointer f, .agg (natC A), .agg (natC B)] rfl _ (fun w' hk => hmu w' (sb.trans (hk.below w.heap.size sb.size (by simp <;> omega)))) ?_
  simp only [Act.put, pu]
  refine mx_put 0 31 _ _ rfl rfl rfl (natC S) rfl (by exact size_nat) (by simp only [natC_size]) (natC_one _) ?_
  simp only [Act.put]
  refine mx_end ?_
  intro w2 hkw hrw hnew hdis
  have zr6 : Row w2 (g6) (natC S) 31 := hrw 0 (31, natC S) rfl
  replace sb := sb.trans (hkw.below w.heap.size sb.size (by simp <;> omega))
  clear hkw hrw hnew hdis r6
  have r6 := zr6
  clear zr6
  go_wp2
  exact ret_row rfl _ rfl r6 4 _ Try.underlying31 (by exact size_nat) rfl ⟨rfl, sb⟩
 ·kernel_rfl
theorem ptr_ring8 : Try.prog.underlying 53 = some (.pointer (Try.prog.pointee 53)) := by kernel_rfl
/-- A group whose field's ring can be used. -/
structure FdQ (Q : Nat) : Prop extends RgQ Q where
 pr : IsP Q
theorem FdQ.pos {Q : Nat} (h : FdQ Q) : 0 < Q := Nat.lt_of_lt_of_le (by decide) h.two
theorem fAdd_ok (A B g gr gf P Q G : Nat) (w : World) (hA : A < 2 ^ 256) (hB : B < 2 ^ 256) (q : FdQ Q) (h : GrpAt w g gr gf P Q G) :
  Calls Try.prog 72 #[.pointer (some ⟨g, 0, none⟩), .agg (natC A), .agg (natC B)] w fun e w' => e = .returned (.agg (natC ((A + B) % Q))) ∧ Below w.heap.size w w' := by
 refine fAdd_core _ A B Q _ (errI Q) w (fun w' hb => grpQ_any _ _ _ _ _ _ w' (h.below hb).kn) fun w' => ?_
 have := wadd_any A B Q w' hA hB q.m
 rw [modZ_full _ _ (Nat.pos_iff_ne_zero.1 q.pos)] at this
 exact this
theorem fSub_ok (A B g gr gf P Q G : Nat) (w : World) (hA : A < 2 ^ 256) (hB : B < 2 ^ 256) (q : FdQ Q) (h : GrpAt w g gr gf P Q G) :
  Calls Try.prog 50 #[.pointer (some ⟨g, 0, none⟩), .agg (natC A), .agg (natC B)] w fun e w' => e = .returned (.agg (natC (sbN A B Q))) ∧ Below w.heap.size w w' := by
 refine fSub_core _ A B Q _ (errI Q) w (fun w' hb => grpQ_any _ _ _ _ _ _ w' (h.below hb).kn) fun w' => ?_
 have := wsub_any A B Q w' hA hB q.m
 rw [subZ_sb _ _ _ q.pos] at this
 exact this
theorem fMul_ok (A B g gr gf P Q G : Nat) (w : World) (hA : A < 2 ^ 256) (hB : B < 2 ^ 256) (q : FdQ Q) (h : GrpAt w g gr gf P Q G) :
  Calls Try.prog 53 #[.pointer (some ⟨g, 0, none⟩), .agg (natC A), .agg (natC B)] w fun e w' => e = .returned (.agg (natC (A * B % Q))) ∧ Below w.heap.size w w' :=
 fMul_core _ _ A B _ w (fun w' hb => grpField_any _ _ _ _ _ _ w' (h.below hb).kn) fun w' hb => mul_ok A B Q gf q.toRgQ w' hA hB (h.below hb).fld
theorem fInv_ok (A g gr gf P Q G : Nat) (w : World) (hA : A < 2 ^ 256) (q : FdQ Q) (h : GrpAt w g gr gf P Q G) :
  Calls Try.prog 54 #[.pointer (some ⟨g, 0, none⟩), .agg (natC A)] w fun e w' => e = .returned (.agg (natC (invZ A Q))) ∧ Below w.heap.size w w' :=
 fInv_core _ A Q _ _ w (fun w' hb => grpQ_any _ _ _ _ _ _ w' (h.below hb).kn) fun w' => winv_any A Q w' hA q.m
/-- Of a group that nobody made. -/
def NoG (w : World) (v : Option Addr) : Prop := KnAt w v 0 0 0 none none
theorem NoG.below {w w' : World} {v : Option Addr} (h : NoG w v) (hb : Below w.heap.size w w') : NoG w' v := KnAt.below h hb
theorem fAdd_no (v : Option Addr) (A B : Nat) (w : World) (hA : A < 2 ^ 256) (hB : B < 2 ^ 256) (h : NoG w v) :
  Calls Try.prog 72 #[.pointer v, .agg (natC A), .agg (natC B)] w fun e w' => e = .returned (.agg (natC 0)) ∧ Below w.heap.size w w' :=
 fAdd_core _ A B 0 0 _ w (fun w' hb => grpQ_any _ _ _ _ _ _ w' (h.below hb)) fun w' => wadd_any A B 0 w' hA hB (by decide)
theorem fMul_no (v : Option Addr) (A B : Nat) (w : World) (h : NoG w v) :
  Calls Try.prog 53 #[.pointer v, .agg (natC A), .agg (natC B)] w fun e w' => e = .returned (.agg (natC 0)) ∧ Below w.heap.size w w' :=
 fMul_core _ _ A B _ w (fun w' hb => grpField_any _ _ _ _ _ _ w' (h.below hb)) fun w' _ => mul_no none A B w' (.inl rfl)
end Go.Proofs.Ytfhgdgnhcmakhaa
/- The document's numbers of layer 8: By, Add, Sub, Mul, Inv; its Pick. -/
namespace Go.Proofs.Ytfhgdgnhcmakhaa
open Go.RowKit
/-- One of the two small groups. -/
def pk2 {α : Type} (b : Bool) (x y : α) : α := if b = true then x else y
set_option maxRecDepth 100000 in
set_option maxHeartbeats 2000000 in
theorem rpick_1 (a0 z : Int) (w : World) (hz : bits .and .i64 a0 1 = z) (h : decide (z = 1) = true) :
  Calls Try.prog 30 #[.int .i64 a0] w fun e w' => ∃ g, e = .returned (.agg (paC (some ⟨g, 0, none⟩) 3 3 otG)) ∧ w.heap.size ≤ g ∧ Row w' g (lksC 3 (lN otL) twoA) 66 ∧ Below w.heap.size w w' := by
 go_enter Try.func30, Try.ntmps30
 (repeat ((fail_if_success with_reducible refine rg ?_); go_step))
 refine wp_region_pw ?_
 refine pw_new (by rfl) 33 rfl _ zero_pa ?_
 intro g2 z0 n0 r2 k
 simp only [Act.put, pu]
 have b2 : w.heap.size ≤ g2 := n0
 clear n0
 have sb := k.below w.heap.size (Nat.le_refl _) (by simp)
 clear k
 refine pw_nil ?_
 (repeat ((fail_if_success with_reducible refine rg ?_); go_step))
 refine wp_region_pw ?_
 refine pw_mv (by rfl) rfl rfl ?_
 simp only [Act.put, pu]
 refine pw_value (by rfl) (.int .i64 z) (fun w' => (exec_bits_i .and _ _ _ _ (.inl rfl) rfl a0 1 rfl rfl w').trans (by rw [hz])) ?_
 simp only [Act.put, pu]
 refine pw_value (by rfl) (.bool true) (exec_eql_k .i64 _ _ _ _ rfl z 1 rfl rfl true h) ?_
 simp only [Act.put, pu]
 refine pw_nil ?_
 (repeat ((fail_if_success with_reducible refine rg ?_); go_step))
 refine wp_region_pw ?_
 refine pw_callE (by rfl) 8 _ _ rfl Try.func8 (by kernel_rfl) #[] rfl (rother_any _) ?_
 rintro _ z2000 ⟨gL, rfl, nL, rL, hb⟩
 refine ⟨_, rfl, ?_⟩
 simp only [Act.put, pu]
 have d2xL := Nat.lt_of_lt_of_le r2.lt nL
 have bL := Nat.le_trans sb.size nL
 clear nL
 have k := Kept.ofBelow hb
 clear hb
 replace r2 := k.row r2 (by simp <;> omega)
 replace sb := sb.trans (k.below w.heap.size sb.size (by simp <;> omega))
 clear k
 refine pw_put (by rfl) 33 _ _ rfl _ rfl r2 (paC (some ⟨gL, 0, none⟩) 3 3 otG) rfl (by exact size_pa) (by rfl) (pa_one _ _ _ _) ?_
 clear r2
 intro z2001 r2 k
 simp only [Act.put]
 replace rL := k.row rL (by simp <;> omega)
 replace sb := sb.trans (k.below w.heap.size sb.size (by simp <;> omega))
 clear k
 refine pw_nil ?_
 go_wp2
 exact ret_rowd rfl _ rfl r2 _ Try.underlying33 (by exact size_pa) rfl ⟨gL, rfl, bL, rL, sb⟩
set_option maxRecDepth 100000 in
set_option maxHeartbeats 2000000 in
theorem rpick_0 (a0 z : Int) (w : World) (hz : bits .and .i64 a0 1 = z) (h : decide (z = 1) = false) :
  Calls Try.prog 30 #[.int .i64 a0] w fun e w' => ∃ g, e = .returned (.agg (paC (some ⟨g, 0, none⟩) 3 3 leG)) ∧ w.heap.size ≤ g ∧ Row w' g (lksC 3 (lN leL) twoA) 66 ∧ Below w.heap.size w w' := by
 go_enter Try.func30, Try.ntmps30
 (repeat ((fail_if_success with_reducible refine rg ?_); go_step))
 refine wp_region_pw ?_
 refine pw_new (by rfl) 33 rfl _ zero_pa ?_
 intro g2 z0 n0 r2 k
 simp only [Act.put, pu]
 have b2 : w.heap.size ≤ g2 := n0
 clear n0
 have sb := k.below w.heap.size (Nat.le_refl _) (by simp)
 clear k
 refine pw_nil ?_
 (repeat ((fail_if_success with_reducible refine rg ?_); go_step))
 refine wp_region_pw ?_
 refine pw_mv (by rfl) rfl rfl ?_
 simp only [Act.put, pu]
 refine pw_value (by rfl) (.int .i64 z) (fun w' => (exec_bits_i .and _ _ _ _ (.inl rfl) rfl a0 1 rfl rfl w').trans (by rw [hz])) ?_
 simp only [Act.put, pu]
 refine pw_value (by rfl) (.bool false) (exec_eql_k .i64 _ _ _ _ rfl z 1 rfl rfl false h) ?_
 simp only [Act.put, pu]
 refine pw_nil ?_
 (repeat ((fail_if_success with_reducible refine rg ?_); go_step))
 refine wp_region_pw ?_
 refine pw_callE (by rfl) 7 _ _ rfl Try.func7 (by kernel_rfl) #[] rfl (rleast_any _) ?_
 rintro _ z3000 ⟨gL, rfl, nL, rL, hb⟩
 refine ⟨_, rfl, ?_⟩
 simp only [Act.put, pu]
 have d2xL := Nat.lt_of_lt_of_le r2.lt nL
 have bL := Nat.le_trans sb.size nL
 clear nL
 have k := Kept.ofBelow hb
 clear hb
 replace r2 := k.row r2 (by simp <;> omega)
 replace sb := sb.trans (k.below w.heap.size sb.size (by simp <;> omega))
 clear k
 refine pw_put (by rfl) 33 _ _ rfl _ rfl r2 (paC (some ⟨gL, 0, none⟩) 3 3 leG) rfl (by exact size_pa) (by rfl) (pa_one _ _ _ _) ?_
 clear r2
 intro z3001 r2 k
 simp only [Act.put]
 replace rL := k.row rL (by simp <;> omega)
 replace sb := sb.trans (k.below w.heap.size sb.size (by simp <;> omega))
 clear k
 refine pw_nil ?_
 go_wp2
 exact ret_rowd rfl _ rfl r2 _ Try.underlying33 (by exact size_pa) rfl ⟨gL, rfl, bL, rL, sb⟩
/-- Whether the second of the two is picked. -/
def pkB (a0 : Int) : Bool := decide (bits .and .i64 a0 1 = 1)
theorem rpick_any (a0 : Int) (w : World) :
  Calls Try.prog 30 #[.int .i64 a0] w fun e w' => ∃ g, e = .returned (.agg (paC (some ⟨g, 0, none⟩) 3 3 (pk2 (pkB a0) otG leG))) ∧ w.heap.size ≤ g ∧ Row w' g (lksC 3 (lN (pk2 (pkB a0) otL leL)) twoA) 66 ∧ Below w.heap.size w w' := by
 cases h : pkB a0 with
 | true => exact rpick_1 a0 _ w rfl h
 | false => exact rpick_0 a0 _ w rfl h
theorem pk2_gr (b : Bool) : grN 3 (lN (pk2 b otL leL)) twoA (pk2 b otG leG) = true ∧ (∀ i, i < 3 → lN (pk2 b otL leL) i < 2 ^ 256) ∧ pk2 b otG leG < 2 ^ 256 ∧ lN (pk2 b otL leL) (3 - 2) < 4611686018427387904 := by
 cases b with
 | true => exact ⟨other_is, ot_lt, by decide, by decide⟩
 | false => exact ⟨least_is, le_lt, by decide, by decide⟩
end Go.Proofs.Ytfhgdgnhcmakhaa
/- What must come, whatever the arguments are: the check of the laws of layer 8. -/
namespace Go.Proofs.Ytfhgdgnhcmakhaa
open Go.RowKit
end Go.Proofs.Ytfhgdgnhcmakhaa
