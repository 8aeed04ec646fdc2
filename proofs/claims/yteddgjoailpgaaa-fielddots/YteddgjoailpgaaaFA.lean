/- Plain mathematics of layer 8: sums, differences, products and inverses by a prime. -/
import Derived.Test.YteddgjoailpgaaaGI
import Derived.Test.YteddgjoailpgaaaGH
import Derived.Test.YteddgjoailpgaaaPM
import Derived.Test.YteddgjoailpgaaaWAdd
import Derived.Test.YteddgjoailpgaaaGW
import Derived.Test.YteddgjoailpgaaaMNobody
import Derived.Test.YteddgjoailpgaaaGT
import Derived.Test.YteddgjoailpgaaaWI
import Derived.Test.YteddgjoailpgaaaMPow
import Derived.Test.YteddgjoailpgaaaGO
import Derived.Test.YteddgjoailpgaaaGAwake
namespace Go.Proofs.Yteddgjoailpgaaa
/-- A difference by q. -/
def sbN (A B q : Nat) : Nat := (A % q + (q - B % q)) % q
/-- The sum of products of the first k. -/
def dotN (a b : Nat → Nat) (q : Nat) : Nat → Nat
 | 0 => 0
 | k + 1 => (dotN a b q k + a k * b k % q) % q
theorem dotN_lt (a b : Nat → Nat) (q : Nat) (h : 0 < q) : ∀ k, dotN a b q k < q
 | 0 => h
 | _ + 1 => Nat.mod_lt _ h
theorem subZ_sb (A B q : Nat) (h : 0 < q) : subZ A B q = sbN A B q := if_neg (by omega)
theorem sb_of (x y q : Nat) (hx : x < q) (hy : y < q) : (x + q - y) % q = sbN x y q := by
 unfold sbN
 rw [Nat.mod_eq_of_lt hx, Nat.mod_eq_of_lt hy, Nat.add_sub_assoc (by omega)]
theorem sbN_mod (A B q : Nat) : sbN (A % q) (B % q) q = sbN A B q := by
 unfold sbN
 rw [Nat.mod_mod, Nat.mod_mod]
/-- What is added can be taken away again. -/
theorem sb_add (A B q : Nat) (h : 0 < q) : sbN ((A + B) % q) B q = (A + 0) % q := by
 unfold sbN
 rw [Nat.mod_mod, Nat.add_zero]
 have hb := Nat.mod_lt B h
 have e : (A + B) % q + (q - B % q) = (A + B) % q + (q - B % q) := rfl
 calc ((A + B) % q + (q - B % q)) % q = (A + B + (q - B % q)) % q := Nat.mod_add_mod _ _ _
  _ = (A + q * (B / q) + q) % q := by
   congr 1
   have := Nat.div_add_mod B q
   omega
  _ = A % q := by rw [Nat.add_mod_right, Nat.add_mul_mod_self_left]
theorem add_assoc_q (A B C q : Nat) : ((A + B) % q + C) % q = (A + (B + C) % q) % q := by
 rw [Nat.mod_add_mod, Nat.add_mod_mod, Nat.add_assoc]
theorem mul_assoc_q (A B C q : Nat) : A * B % q * C % q = A * (B * C % q) % q := by
 rw [Nat.mod_mul_mod, Nat.mul_mod_mod, Nat.mul_assoc]
theorem over_q (A B C q : Nat) : A * ((B + C) % q) % q = (A * B % q + A * C % q) % q := by
 rw [Nat.mul_mod_mod, Nat.mul_add, ← Nat.add_mod]
/-- The inverse of what is 0 by a prime. -/
theorem inv_0 {A q : Nat} (hq : IsP q) (h : A % q = 0) : invZ A q = 0 := by
 unfold invZ
 rw [if_neg (by have := hq.1; omega), if_neg]
 intro hg
 have hd : q ∣ Nat.gcd A q := Nat.dvd_gcd (Nat.dvd_of_mod_eq_zero h) (Nat.dvd_refl q)
 rw [hg] at hd
 have := Nat.le_of_dvd (by decide) hd
 have := hq.1
 omega
theorem inv_gcd {A q : Nat} (hq : IsP q) (h : A % q ≠ 0) : Nat.gcd A q = 1 := by
 rw [Nat.gcd_comm]
 exact isP_coprime hq fun hd => h (Nat.mod_eq_zero_of_dvd hd)
/-- The inverse of what is not 0 by a prime. -/
theorem inv_1 {A q : Nat} (hq : IsP q) (h : A % q ≠ 0) : A * invZ A q % q = 1 := by
 rw [Nat.mul_comm]
 exact (inv_is A q hq.1 (inv_gcd hq h)).2
theorem inv_lt (A q : Nat) (hq : IsP q) : invZ A q < q := by
 by_cases h : A % q = 0
 ·rw [inv_0 hq h]
  have := hq.1
  omega
 ·exact (inv_is A q hq.1 (inv_gcd hq h)).1
/-- The document's inverse. -/
def ivN (x q : Nat) : Nat := if x = 0 then 0 else x ^ (q - 2) % q
theorem iv_is {A q : Nat} (hq : IsP q) : invZ A q = ivN (A % q) q := by
 unfold ivN
 by_cases h : A % q = 0
 ·rw [if_pos h, inv_0 hq h]
 ·have h2 := hq.1
  rw [if_neg h]
  have e : invZ A q = invV A q := by
   unfold invZ
   rw [if_neg (by omega), if_pos (inv_gcd hq h)]
  rw [e]
  refine inv_unique A q _ (Nat.mod_lt _ (by omega)) ?_
  have hd : ¬ q ∣ A := fun hd => h (Nat.mod_eq_zero_of_dvd hd)
  rw [← Nat.pow_mod, Nat.mod_mul_mod, ← Nat.pow_succ, show (q - 2).succ = q - 1 by omega]
  exact fermat hq hd
end Go.Proofs.Yteddgjoailpgaaa
/- field's In, Add, Sub, Mul, Inv, Dot: of a group that New has made, and of one that nobody made. -/
namespace Go.Proofs.Yteddgjoailpgaaa
open Go.RowKit
set_option maxRecDepth 100000 in
set_option maxHeartbeats 2000000 in
theorem fIn_core (v f : Option Addr) (A : Nat) (B : Bool) (w : World) (hq : ∀ w', Below w.heap.size w w' → Calls Try.prog 61 #[.pointer v] w' fun e w2 => e = .returned (.pointer f) ∧ Below w'.heap.size w' w2)
  (hin : ∀ w', Below w.heap.size w w' → Calls Try.prog 62 #[.pointer f, .agg (natC A)] w' fun e w2 => e = .returned (.bool B) ∧ Below w'.heap.size w' w2) :
  Calls Try.prog 23 #[.pointer v, .agg (natC A)] w fun e w' => e = .returned (.bool B) ∧ Below w.heap.size w w' := by
 go_enter Try.func23, Try.ntmps23
 (repeat ((fail_if_success with_reducible refine rg ?_); go_step))
 refine wp_region_pw ?_
 refine pw_boxr (by rfl) 24 _ rfl (_) rfl ?_
 intro g3 z0 n0 r3 k
 simp only [Act.put, pu]
 have b3 : w.heap.size ≤ g3 := n0
 clear n0
 have sb := k.below w.heap.size (Nat.le_refl _) (by simp)
 clear k
 refine pw_value (by rfl) (.bool false) (fun _ => rfl) ?_
 simp only [Act.put, pu]
 refine pw_nil ?_
 (repeat ((fail_if_success with_reducible refine rg ?_); go_step))
 refine wp_region_qw (by kernel_rfl) (by kernel_rfl) ?_
 refine qw_move (by rfl) rfl rfl ?_
 simp only [Act.put, pu]
 refine qw_callK (by rfl) 61 _ _ rfl Try.func61 (by kernel_rfl) #[.pointer v] rfl _ (fun w' hb => hq w' (below_on sb (Nat.le_refl _) hb)) ?_
 simp only [Act.put, pu]
 refine qw_load (by rfl) 24 _ rfl _ rfl r3 4 _ Try.underlying24 size_nat ?_
 simp only [Act.put, pu]
 refine qw_callK (by rfl) 62 _ _ rfl Try.func62 (by kernel_rfl) #[.pointer f, .agg (natC A)] rfl _ (fun w' hb => hin w' (below_on sb (Nat.le_refl _) hb)) ?_
 simp only [Act.put, pu]
 refine qw_asg (by rfl) rfl rfl ?_
 simp only [Act.put, pu]
 refine qw_nil ?_
 intro w3 hqb
 replace sb := below_on sb (Nat.le_refl _) hqb
 clear hqb
 go_wp2
 go_ret
 exact ⟨rfl, sb⟩
set_option maxRecDepth 100000 in
set_option maxHeartbeats 2000000 in
theorem fAdd_core (v : Option Addr) (A B QQ S : Nat) (z : Int) (w : World) (hq : ∀ w', Below w.heap.size w w' → Calls Try.prog 63 #[.pointer v] w' fun e w2 => e = .returned (.agg (natC QQ)) ∧ Below w'.heap.size w' w2)
  (had : ∀ w', Calls Try.prog 9 #[.agg (natC A), .agg (natC B), .agg (natC QQ)] w' fun e w2 => e = .returned (.tuple #[.agg (natC S), .int .i64 z]) ∧ Below w'.heap.size w' w2) :
  Calls Try.prog 24 #[.pointer v, .agg (natC A), .agg (natC B)] w fun e w' => e = .returned (.agg (natC S)) ∧ Below w.heap.size w w' := by
 go_enter Try.func24, Try.ntmps24
 (repeat ((fail_if_success with_reducible refine rg ?_); go_step))
 refine wp_region_pw ?_
 refine pw_boxr (by rfl) 24 _ rfl (_) rfl ?_
 intro g4 z0 n0 r4 k
 simp only [Act.put, pu]
 have b4 : w.heap.size ≤ g4 := n0
 clear n0
 have sb := k.below w.heap.size (Nat.le_refl _) (by simp)
 clear k
 refine pw_boxr (by rfl) 24 _ rfl (_) rfl ?_
 intro g5 z1 n0 r5 k
 simp only [Act.put, pu]
 have d4x5 := Nat.lt_of_lt_of_le r4.lt n0
 have b5 := Nat.le_trans sb.size n0
 clear n0
 replace r4 := k.row r4 (by simp <;> omega)
 replace sb := sb.trans (k.below w.heap.size sb.size (by simp <;> omega))
 clear k
 refine pw_new (by rfl) 24 rfl _ zero_nat ?_
 intro g6 z2 n0 r6 k
 simp only [Act.put, pu]
 have d4x6 := Nat.lt_of_lt_of_le r4.lt n0
 have d5x6 := Nat.lt_of_lt_of_le r5.lt n0
 have b6 := Nat.le_trans sb.size n0
 clear n0
 replace r4 := k.row r4 (by simp <;> omega)
 replace r5 := k.row r5 (by simp <;> omega)
 replace sb := sb.trans (k.below w.heap.size sb.size (by simp <;> omega))
 clear k
 refine pw_nil ?_
 (repeat ((fail_if_success with_reducible refine rg ?_); go_step))
 apply wp_region_mix (by kernel_rfl) [] [_, _, _, _, _, _, _, _, _, _, _] trivial List.nodup_nil
 ·intro p
  refine mx_load 24 _ rfl _ rfl r4 (by simp <;> omega) 4 _ Try.underlying24 size_nat ?_
  simp only [Act.put, pu]
  refine mx_load 24 _ rfl _ rfl r5 (by simp <;> omega) 4 _ Try.underlying24 size_nat ?_
  simp only [Act.put, pu]
  refine mx_move rfl rfl ?_
  simp only [Act.put, pu]
  refine mx_callK 63 _ _ rfl Try.func63 (by kernel_rfl) #[.pointer v] rfl _ (fun w' hk => hq w' (sb.trans (hk.below w.heap.size sb.size (by simp <;> omega)))) ?_
  simp only [Act.put, pu]
  refine mx_call 9 _ _ rfl Try.func9 (by kernel_rfl) #[.agg (natC A), .agg (natC B), .agg (natC QQ)] rfl _ had ?_
  simp only [Act.put, pu]
  refine mx_move rfl rfl ?_
  simp only [Act.put, pu]
  refine mx_ext rfl rfl rfl ?_
  simp only [Act.put, pu]
  refine mx_ext rfl rfl rfl ?_
  simp only [Act.put, pu]
  refine mx_new 24 rfl _ zero_nat ?_
  simp only [Act.put, pu]
  refine mx_put 17 24 _ _ rfl rfl rfl (natC S) rfl (by exact size_nat) (by simp only [natC_size]) (natC_one _) ?_
  simp only [Act.put]
  refine mx_asg rfl rfl ?_
  simp only [Act.put, pu]
  refine mx_end ?_
  intro w2 hkw hrw hnew hdis
  have n7 := hnew 8 rfl
  have zr7 : Row w2 (p 8) (natC S) 24 := hrw 17 (24, natC S) rfl
  have d6x7 := Nat.lt_of_lt_of_le r6.lt n7
  replace r6 := hkw.row r6 (by simp <;> omega)
  have b7 := Nat.le_trans sb.size n7
  replace sb := sb.trans (hkw.below w.heap.size sb.size (by simp <;> omega))
  clear hkw hrw hnew hdis n7
  generalize p 8 = g7 at *
  have r7 := zr7
  clear zr7
  (repeat ((fail_if_success with_reducible refine rg ?_); go_step))
  refine wp_region_pw ?_
  refine pw_loadm (by rfl) 24 _ rfl _ 0 rfl r7.r _ (part_all _) _ Try.underlying24 rfl size_nat ?_
  simp only [Act.put, pu]
  refine pw_put (by rfl) 24 _ _ rfl _ rfl r6 (natC S) rfl (by exact size_nat) (by simp only [natC_size]) (natC_one _) ?_
  clear r6
  intro z2001 r6 k
  simp only [Act.put]
  replace r7 := k.row r7 (by simp <;> omega)
  replace sb := sb.trans (k.below w.heap.size sb.size (by simp <;> omega))
  clear k
  refine pw_nil ?_
  go_wp2
  exact ret_row rfl _ rfl r6 4 _ Try.underlying24 (by exact size_nat) rfl ⟨rfl, sb⟩
 ·kernel_rfl
set_option maxRecDepth 100000 in
set_option maxHeartbeats 2000000 in
theorem fSub_core (v : Option Addr) (A B QQ S : Nat) (z : Int) (w : World) (hq : ∀ w', Below w.heap.size w w' → Calls Try.prog 63 #[.pointer v] w' fun e w2 => e = .returned (.agg (natC QQ)) ∧ Below w'.heap.size w' w2)
  (had : ∀ w', Calls Try.prog 11 #[.agg (natC A), .agg (natC B), .agg (natC QQ)] w' fun e w2 => e = .returned (.tuple #[.agg (natC S), .int .i64 z]) ∧ Below w'.heap.size w' w2) :
  Calls Try.prog 27 #[.pointer v, .agg (natC A), .agg (natC B)] w fun e w' => e = .returned (.agg (natC S)) ∧ Below w.heap.size w w' := by
 go_enter Try.func27, Try.ntmps27
 (repeat ((fail_if_success with_reducible refine rg ?_); go_step))
 refine wp_region_pw ?_
 refine pw_boxr (by rfl) 24 _ rfl (_) rfl ?_
 intro g4 z0 n0 r4 k
 simp only [Act.put, pu]
 have b4 : w.heap.size ≤ g4 := n0
 clear n0
 have sb := k.below w.heap.size (Nat.le_refl _) (by simp)
 clear k
 refine pw_boxr (by rfl) 24 _ rfl (_) rfl ?_
 intro g5 z1 n0 r5 k
 simp only [Act.put, pu]
 have d4x5 := Nat.lt_of_lt_of_le r4.lt n0
 have b5 := Nat.le_trans sb.size n0
 clear n0
 replace r4 := k.row r4 (by simp <;> omega)
 replace sb := sb.trans (k.below w.heap.size sb.size (by simp <;> omega))
 clear k
 refine pw_new (by rfl) 24 rfl _ zero_nat ?_
 intro g6 z2 n0 r6 k
 simp only [Act.put, pu]
 have d4x6 := Nat.lt_of_lt_of_le r4.lt n0
 have d5x6 := Nat.lt_of_lt_of_le r5.lt n0
 have b6 := Nat.le_trans sb.size n0
 clear n0
 replace r4 := k.row r4 (by simp <;> omega)
 replace r5 := k.row r5 (by simp <;> omega)
 replace sb := sb.trans (k.below w.heap.size sb.size (by simp <;> omega))
 clear k
 refine pw_nil ?_
 (repeat ((fail_if_success with_reducible refine rg ?_); go_step))
 apply wp_region_mix (by kernel_rfl) [] [_, _, _, _, _, _, _, _, _, _, _] trivial List.nodup_nil
 ·intro p
  refine mx_load 24 _ rfl _ rfl r4 (by simp <;> omega) 4 _ Try.underlying24 size_nat ?_
  simp only [Act.put, pu]
  refine mx_load 24 _ rfl _ rfl r5 (by simp <;> omega) 4 _ Try.underlying24 size_nat ?_
  simp only [Act.put, pu]
  refine mx_move rfl rfl ?_
  simp only [Act.put, pu]
  refine mx_callK 63 _ _ rfl Try.func63 (by kernel_rfl) #[.pointer v] rfl _ (fun w' hk => hq w' (sb.trans (hk.below w.heap.size sb.size (by simp <;> omega)))) ?_
  simp only [Act.put, pu]
  refine mx_call 11 _ _ rfl Try.func11 (by kernel_rfl) #[.agg (natC A), .agg (natC B), .agg (natC QQ)] rfl _ had ?_
  simp only [Act.put, pu]
  refine mx_move rfl rfl ?_
  simp only [Act.put, pu]
  refine mx_ext rfl rfl rfl ?_
  simp only [Act.put, pu]
  refine mx_ext rfl rfl rfl ?_
  simp only [Act.put, pu]
  refine mx_new 24 rfl _ zero_nat ?_
  simp only [Act.put, pu]
  refine mx_put 17 24 _ _ rfl rfl rfl (natC S) rfl (by exact size_nat) (by simp only [natC_size]) (natC_one _) ?_
  simp only [Act.put]
  refine mx_asg rfl rfl ?_
  simp only [Act.put, pu]
  refine mx_end ?_
  intro w2 hkw hrw hnew hdis
  have n7 := hnew 8 rfl
  have zr7 : Row w2 (p 8) (natC S) 24 := hrw 17 (24, natC S) rfl
  have d6x7 := Nat.lt_of_lt_of_le r6.lt n7
  replace r6 := hkw.row r6 (by simp <;> omega)
  have b7 := Nat.le_trans sb.size n7
  replace sb := sb.trans (hkw.below w.heap.size sb.size (by simp <;> omega))
  clear hkw hrw hnew hdis n7
  generalize p 8 = g7 at *
  have r7 := zr7
  clear zr7
  (repeat ((fail_if_success with_reducible refine rg ?_); go_step))
  refine wp_region_pw ?_
  refine pw_loadm (by rfl) 24 _ rfl _ 0 rfl r7.r _ (part_all _) _ Try.underlying24 rfl size_nat ?_
  simp only [Act.put, pu]
  refine pw_put (by rfl) 24 _ _ rfl _ rfl r6 (natC S) rfl (by exact size_nat) (by simp only [natC_size]) (natC_one _) ?_
  clear r6
  intro z2001 r6 k
  simp only [Act.put]
  replace r7 := k.row r7 (by simp <;> omega)
  replace sb := sb.trans (k.below w.heap.size sb.size (by simp <;> omega))
  clear k
  refine pw_nil ?_
  go_wp2
  exact ret_row rfl _ rfl r6 4 _ Try.underlying24 (by exact size_nat) rfl ⟨rfl, sb⟩
 ·kernel_rfl
set_option maxRecDepth 100000 in
set_option maxHeartbeats 2000000 in
theorem fInv_core (v : Option Addr) (A QQ S : Nat) (z : Int) (w : World) (hq : ∀ w', Below w.heap.size w w' → Calls Try.prog 63 #[.pointer v] w' fun e w2 => e = .returned (.agg (natC QQ)) ∧ Below w'.heap.size w' w2)
  (hiv : ∀ w', Calls Try.prog 48 #[.agg (natC A), .agg (natC QQ)] w' fun e w2 => e = .returned (.tuple #[.agg (natC S), .int .i64 z]) ∧ Below w'.heap.size w' w2) :
  Calls Try.prog 31 #[.pointer v, .agg (natC A)] w fun e w' => e = .returned (.agg (natC S)) ∧ Below w.heap.size w w' := by
 go_enter Try.func31, Try.ntmps31
 (repeat ((fail_if_success with_reducible refine rg ?_); go_step))
 refine wp_region_pw ?_
 refine pw_boxr (by rfl) 24 _ rfl (_) rfl ?_
 intro g3 z0 n0 r3 k
 simp only [Act.put, pu]
 have b3 : w.heap.size ≤ g3 := n0
 clear n0
 have sb := k.below w.heap.size (Nat.le_refl _) (by simp)
 clear k
 refine pw_new (by rfl) 24 rfl _ zero_nat ?_
 intro g4 z1 n0 r4 k
 simp only [Act.put, pu]
 have d3x4 := Nat.lt_of_lt_of_le r3.lt n0
 have b4 := Nat.le_trans sb.size n0
 clear n0
 replace r3 := k.row r3 (by simp <;> omega)
 replace sb := sb.trans (k.below w.heap.size sb.size (by simp <;> omega))
 clear k
 refine pw_nil ?_
 (repeat ((fail_if_success with_reducible refine rg ?_); go_step))
 apply wp_region_mix (by kernel_rfl) [] [_, _, _, _, _, _, _, _, _, _] trivial List.nodup_nil
 ·intro p
  refine mx_load 24 _ rfl _ rfl r3 (by simp <;> omega) 4 _ Try.underlying24 size_nat ?_
  simp only [Act.put, pu]
  refine mx_move rfl rfl ?_
  simp only [Act.put, pu]
  refine mx_callK 63 _ _ rfl Try.func63 (by kernel_rfl) #[.pointer v] rfl _ (fun w' hk => hq w' (sb.trans (hk.below w.heap.size sb.size (by simp <;> omega)))) ?_
  simp only [Act.put, pu]
  refine mx_call 48 _ _ rfl Try.func48 (by kernel_rfl) #[.agg (natC A), .agg (natC QQ)] rfl _ hiv ?_
  simp only [Act.put, pu]
  refine mx_move rfl rfl ?_
  simp only [Act.put, pu]
  refine mx_ext rfl rfl rfl ?_
  simp only [Act.put, pu]
  refine mx_ext rfl rfl rfl ?_
  simp only [Act.put, pu]
  refine mx_new 24 rfl _ zero_nat ?_
  simp only [Act.put, pu]
  refine mx_put 15 24 _ _ rfl rfl rfl (natC S) rfl (by exact size_nat) (by simp only [natC_size]) (natC_one _) ?_
  simp only [Act.put]
  refine mx_asg rfl rfl ?_
  simp only [Act.put, pu]
  refine mx_end ?_
  intro w2 hkw hrw hnew hdis
  have n5 := hnew 7 rfl
  have zr5 : Row w2 (p 7) (natC S) 24 := hrw 15 (24, natC S) rfl
  have d4x5 := Nat.lt_of_lt_of_le r4.lt n5
  replace r4 := hkw.row r4 (by simp <;> omega)
  have b5 := Nat.le_trans sb.size n5
  replace sb := sb.trans (hkw.below w.heap.size sb.size (by simp <;> omega))
  clear hkw hrw hnew hdis n5
  generalize p 7 = g5 at *
  have r5 := zr5
  clear zr5
  (repeat ((fail_if_success with_reducible refine rg ?_); go_step))
  refine wp_region_pw ?_
  refine pw_loadm (by rfl) 24 _ rfl _ 0 rfl r5.r _ (part_all _) _ Try.underlying24 rfl size_nat ?_
  simp only [Act.put, pu]
  refine pw_put (by rfl) 24 _ _ rfl _ rfl r4 (natC S) rfl (by exact size_nat) (by simp only [natC_size]) (natC_one _) ?_
  clear r4
  intro z2001 r4 k
  simp only [Act.put]
  replace r5 := k.row r5 (by simp <;> omega)
  replace sb := sb.trans (k.below w.heap.size sb.size (by simp <;> omega))
  clear k
  refine pw_nil ?_
  go_wp2
  exact ret_row rfl _ rfl r4 4 _ Try.underlying24 (by exact size_nat) rfl ⟨rfl, sb⟩
 ·kernel_rfl
set_option maxRecDepth 100000 in
set_option maxHeartbeats 2000000 in
theorem fMul_core (v f : Option Addr) (A B S : Nat) (w : World) (hq : ∀ w', Below w.heap.size w w' → Calls Try.prog 61 #[.pointer v] w' fun e w2 => e = .returned (.pointer f) ∧ Below w'.heap.size w' w2)
  (hmu : ∀ w', Below w.heap.size w w' → Calls Try.prog 64 #[.pointer f, .agg (natC A), .agg (natC B)] w' fun e w2 => e = .returned (.agg (natC S)) ∧ Below w'.heap.size w' w2) :
  Calls Try.prog 29 #[.pointer v, .agg (natC A), .agg (natC B)] w fun e w' => e = .returned (.agg (natC S)) ∧ Below w.heap.size w w' := by
 go_enter Try.func29, Try.ntmps29
 (repeat ((fail_if_success with_reducible refine rg ?_); go_step))
 refine wp_region_pw ?_
 refine pw_boxr (by rfl) 24 _ rfl (_) rfl ?_
 intro g4 z0 n0 r4 k
 simp only [Act.put, pu]
 have b4 : w.heap.size ≤ g4 := n0
 clear n0
 have sb := k.below w.heap.size (Nat.le_refl _) (by simp)
 clear k
 refine pw_boxr (by rfl) 24 _ rfl (_) rfl ?_
 intro g5 z1 n0 r5 k
 simp only [Act.put, pu]
 have d4x5 := Nat.lt_of_lt_of_le r4.lt n0
 have b5 := Nat.le_trans sb.size n0
 clear n0
 replace r4 := k.row r4 (by simp <;> omega)
 replace sb := sb.trans (k.below w.heap.size sb.size (by simp <;> omega))
 clear k
 refine pw_new (by rfl) 24 rfl _ zero_nat ?_
 intro g6 z2 n0 r6 k
 simp only [Act.put, pu]
 have d4x6 := Nat.lt_of_lt_of_le r4.lt n0
 have d5x6 := Nat.lt_of_lt_of_le r5.lt n0
 have b6 := Nat.le_trans sb.size n0
 clear n0
 replace r4 := k.row r4 (by simp <;> omega)
 replace r5 := k.row r5 (by simp <;> omega)
 replace sb := sb.trans (k.below w.heap.size sb.size (by simp <;> omega))
 clear k
 refine pw_nil ?_
 (repeat ((fail_if_success with_reducible refine rg ?_); go_step))
 apply wp_region_mix (by kernel_rfl) [(g6, 24, natC 0)] [_, _, _, _, _, _] ⟨r6, trivial⟩ (by simp <;> omega)
 ·intro p
  refine mx_move rfl rfl ?_
  simp only [Act.put, pu]
  refine mx_callK 61 _ _ rfl Try.func61 (by kernel_rfl) #[.pointer v] rfl _ (fun w' hk => hq w' (sb.trans (hk.below w.heap.size sb.size (by simp <;> omega)))) ?_
  simp only [Act.put, pu]
  refine mx_load 24 _ rfl _ rfl r4 (by simp <;> omega) 4 _ Try.underlying24 size_nat ?_
  simp only [Act.put, pu]
  refine mx_load 24 _ rfl _ rfl r5 (by simp <;> omega) 4 _ Try.underlying24 size_nat ?_
  simp only [Act.put, pu]
  refine mx_callK 64 _ _ rfl Try.func64 (by kernel_rfl) #[.pointer f, .agg (natC A), .agg (natC B)] rfl _ (fun w' hk => hmu w' (sb.trans (hk.below w.heap.size sb.size (by simp <;> omega)))) ?_
  simp only [Act.put, pu]
  refine mx_put 0 24 _ _ rfl rfl rfl (natC S) rfl (by exact size_nat) (by simp only [natC_size]) (natC_one _) ?_
  simp only [Act.put]
  refine mx_end ?_
  intro w2 hkw hrw hnew hdis
  have zr6 : Row w2 (g6) (natC S) 24 := hrw 0 (24, natC S) rfl
  replace sb := sb.trans (hkw.below w.heap.size sb.size (by simp <;> omega))
  clear hkw hrw hnew hdis r6
  have r6 := zr6
  clear zr6
  go_wp2
  exact ret_row rfl _ rfl r6 4 _ Try.underlying24 (by exact size_nat) rfl ⟨rfl, sb⟩
 ·kernel_rfl
theorem ptr_ring8 : Try.prog.underlying 56 = some (.pointer (Try.prog.pointee 56)) := by kernel_rfl
set_option maxRecDepth 100000 in
set_option maxHeartbeats 2000000 in
theorem fDot_no (v ab ae : Option Addr) (n m ca ce : Nat) (f : Option Addr) (hf : f = none) (w : World) (hq : ∀ w', Below w.heap.size w w' → Calls Try.prog 61 #[.pointer v] w' fun e w2 => e = .returned (.pointer f) ∧ Below w'.heap.size w' w2) :
  Calls Try.prog 34 #[.pointer v, .slice ab n ca, .slice ae m ce] w fun e w' => e = .returned (.tuple #[.agg (natC 0), .int .i64 1]) ∧ Below w.heap.size w w' := by
 subst hf
 go_enter Try.func34, Try.ntmps34
 (repeat ((fail_if_success with_reducible refine rg ?_); go_step))
 refine wp_region_pw ?_
 refine pw_new (by rfl) 24 rfl _ zero_nat ?_
 intro g6 z0 n0 r6 k
 simp only [Act.put, pu]
 have b6 : w.heap.size ≤ g6 := n0
 clear n0
 have sb := k.below w.heap.size (Nat.le_refl _) (by simp)
 clear k
 refine pw_value (by rfl) (.int .i64 0) (fun _ => rfl) ?_
 simp only [Act.put, pu]
 refine pw_nil ?_
 (repeat ((fail_if_success with_reducible refine rg ?_); go_step))
 refine wp_region_pw ?_
 refine pw_mv (by rfl) rfl rfl ?_
 simp only [Act.put, pu]
 refine pw_callB (by rfl) 61 _ _ rfl Try.func61 (by kernel_rfl) #[.pointer v] rfl _ (hq _ sb) ?_
 intro z1001 k
 simp only [Act.put, pu]
 replace r6 := k.row r6 (by simp <;> omega)
 replace sb := sb.trans (k.below w.heap.size sb.size (by simp <;> omega))
 clear k
 refine pw_value (by rfl) (.bool true) (exec_eql_nilp _ _ _ _ rfl none rfl rfl ptr_ring8) ?_
 simp only [Act.put, pu]
 refine pw_mv (by rfl) rfl rfl ?_
 simp only [Act.put, pu]
 refine pw_skip (by rfl) ?_
 simp only [Act.put, pu]
 refine pw_skip (by rfl) ?_
 simp only [Act.put, pu]
 refine pw_skip (by rfl) ?_
 simp only [Act.put, pu]
 refine pw_skip (by rfl) ?_
 simp only [Act.put, pu]
 refine pw_skip (by rfl) ?_
 simp only [Act.put, pu]
 refine pw_pick (by rfl) true (v := .bool true) rfl rfl rfl ?_
 simp only [Act.put, pu]
 refine pw_nil ?_
 (repeat ((fail_if_success with_reducible refine rg ?_); go_step))
 refine wp_region_pw ?_
 refine pw_value (by rfl) (.agg (natC 0)) (exec_build0 _ rfl _ built_nat) ?_
 simp only [Act.put, pu]
 refine pw_put (by rfl) 24 _ _ rfl _ rfl r6 (natC 0) rfl (by exact size_nat) (by simp only [natC_size]) (natC_one _) ?_
 clear r6
 intro z2001 r6 k
 simp only [Act.put]
 replace sb := sb.trans (k.below w.heap.size sb.size (by simp <;> omega))
 clear k
 refine pw_value (by rfl) (.int .i64 1) (fun _ => rfl) ?_
 simp only [Act.put, pu]
 refine pw_nil ?_
 go_wp2
 exact ret_row2 rfl _ rfl r6 4 _ Try.underlying24 (by exact size_nat) rfl _ rfl ⟨rfl, sb⟩
set_option maxRecDepth 100000 in
set_option maxHeartbeats 2000000 in
theorem fDot_len (v ab ae : Option Addr) (n m ca ce : Nat) (x : Addr) (f : Option Addr) (hf : f = some x) (hnm : n ≠ m) (w : World) (hq : ∀ w', Below w.heap.size w w' → Calls Try.prog 61 #[.pointer v] w' fun e w2 => e = .returned (.pointer f) ∧ Below w'.heap.size w' w2) :
  Calls Try.prog 34 #[.pointer v, .slice ab n ca, .slice ae m ce] w fun e w' => e = .returned (.tuple #[.agg (natC 0), .int .i64 1]) ∧ Below w.heap.size w w' := by
 subst hf
 go_enter Try.func34, Try.ntmps34
 (repeat ((fail_if_success with_reducible refine rg ?_); go_step))
 refine wp_region_pw ?_
 refine pw_new (by rfl) 24 rfl _ zero_nat ?_
 intro g6 z0 n0 r6 k
 simp only [Act.put, pu]
 have b6 : w.heap.size ≤ g6 := n0
 clear n0
 have sb := k.below w.heap.size (Nat.le_refl _) (by simp)
 clear k
 refine pw_value (by rfl) (.int .i64 0) (fun _ => rfl) ?_
 simp only [Act.put, pu]
 refine pw_nil ?_
 (repeat ((fail_if_success with_reducible refine rg ?_); go_step))
 refine wp_region_pw ?_
 refine pw_mv (by rfl) rfl rfl ?_
 simp only [Act.put, pu]
 refine pw_callB (by rfl) 61 _ _ rfl Try.func61 (by kernel_rfl) #[.pointer v] rfl _ (hq _ sb) ?_
 intro z1001 k
 simp only [Act.put, pu]
 replace r6 := k.row r6 (by simp <;> omega)
 replace sb := sb.trans (k.below w.heap.size sb.size (by simp <;> omega))
 clear k
 refine pw_value (by rfl) (.bool false) (exec_eql_nilp _ _ _ _ rfl (some x) rfl rfl ptr_ring8) ?_
 simp only [Act.put, pu]
 refine pw_mv (by rfl) rfl rfl ?_
 simp only [Act.put, pu]
 refine pw_mv (by rfl) rfl rfl ?_
 simp only [Act.put, pu]
 refine pw_value (by rfl) (.int .i64 n) (exec_len_s 49 _ rfl ab n ca rfl sl_nats) ?_
 simp only [Act.put, pu]
 refine pw_mv (by rfl) rfl rfl ?_
 simp only [Act.put, pu]
 refine pw_value (by rfl) (.int .i64 m) (exec_len_s 49 _ rfl ae m ce rfl sl_nats) ?_
 simp only [Act.put, pu]
 refine pw_value (by rfl) (.bool true) (exec_neq_k .i64 _ _ _ _ rfl n m rfl rfl true (by rw [decide_eq_false (by omega)]; rfl)) ?_
 simp only [Act.put, pu]
 refine pw_pick (by rfl) false (v := .bool true) rfl rfl rfl ?_
 simp only [Act.put, pu]
 refine pw_nil ?_
 (repeat ((fail_if_success with_reducible refine rg ?_); go_step))
 refine wp_region_pw ?_
 refine pw_value (by rfl) (.agg (natC 0)) (exec_build0 _ rfl _ built_nat) ?_
 simp only [Act.put, pu]
 refine pw_put (by rfl) 24 _ _ rfl _ rfl r6 (natC 0) rfl (by exact size_nat) (by simp only [natC_size]) (natC_one _) ?_
 clear r6
 intro z2001 r6 k
 simp only [Act.put]
 replace sb := sb.trans (k.below w.heap.size sb.size (by simp <;> omega))
 clear k
 refine pw_value (by rfl) (.int .i64 1) (fun _ => rfl) ?_
 simp only [Act.put, pu]
 refine pw_nil ?_
 go_wp2
 exact ret_row2 rfl _ rfl r6 4 _ Try.underlying24 (by exact size_nat) rfl _ rfl ⟨rfl, sb⟩
set_option maxRecDepth 100000 in
set_option maxHeartbeats 2000000 in
theorem fDot_core (v ab ae : Option Addr) (n ca ce : Nat) (x : Addr) (a' b' T D : Nat → Nat) (gb ob ge oe : Nat) (bcs ecs : Array Value) (tb te : TypeId) (w : World) (hD0 : D 0 = 0)
  (hna : NatsAt w ab n a' gb ob bcs tb) (hnb : NatsAt w ae n b' ge oe ecs te) (hn63 : n < 9223372036854775808) (hq : ∀ w', Below w.heap.size w w' → Calls Try.prog 61 #[.pointer v] w' fun e w2 => e = .returned (.pointer (some x)) ∧ Below w'.heap.size w' w2)
  (hmu : ∀ i, i < n → ∀ w', Below w.heap.size w w' → Calls Try.prog 29 #[.pointer v, .agg (natC (a' i)), .agg (natC (b' i))] w' fun e w2 => e = .returned (.agg (natC (T i))) ∧ Below w'.heap.size w' w2)
  (had : ∀ i, i < n → ∀ w', Below w.heap.size w w' → Calls Try.prog 24 #[.pointer v, .agg (natC (D i)), .agg (natC (T i))] w' fun e w2 => e = .returned (.agg (natC (D (i + 1)))) ∧ Below w'.heap.size w' w2) :
  Calls Try.prog 34 #[.pointer v, .slice ab n ca, .slice ae n ce] w fun e w' => e = .returned (.tuple #[.agg (natC (D n)), .int .i64 0]) ∧ Below w.heap.size w w' := by
 have HB : Hid (NatsAt w ab n a' gb ob bcs tb) := hna
 have HE : Hid (NatsAt w ae n b' ge oe ecs te) := hnb
 clear hna hnb
 go_enter Try.func34, Try.ntmps34
 (repeat ((fail_if_success with_reducible refine rg ?_); go_step))
 refine wp_region_pw ?_
 refine pw_new (by rfl) 24 rfl _ zero_nat ?_
 intro g6 z0 n0 r6 k
 simp only [Act.put, pu]
 have b6 : w.heap.size ≤ g6 := n0
 clear n0
 have sb := k.below w.heap.size (Nat.le_refl _) (by simp)
 clear k
 refine pw_value (by rfl) (.int .i64 0) (fun _ => rfl) ?_
 simp only [Act.put, pu]
 refine pw_nil ?_
 (repeat ((fail_if_success with_reducible refine rg ?_); go_step))
 refine wp_region_pw ?_
 refine pw_mv (by rfl) rfl rfl ?_
 simp only [Act.put, pu]
 refine pw_callB (by rfl) 61 _ _ rfl Try.func61 (by kernel_rfl) #[.pointer v] rfl _ (hq _ sb) ?_
 intro z1001 k
 simp only [Act.put, pu]
 replace r6 := k.row r6 (by simp <;> omega)
 replace sb := sb.trans (k.below w.heap.size sb.size (by simp <;> omega))
 clear k
 refine pw_value (by rfl) (.bool false) (exec_eql_nilp _ _ _ _ rfl (some x) rfl rfl ptr_ring8) ?_
 simp only [Act.put, pu]
 refine pw_mv (by rfl) rfl rfl ?_
 simp only [Act.put, pu]
 refine pw_mv (by rfl) rfl rfl ?_
 simp only [Act.put, pu]
 refine pw_value (by rfl) (.int .i64 n) (exec_len_s 49 _ rfl ab n ca rfl sl_nats) ?_
 simp only [Act.put, pu]
 refine pw_mv (by rfl) rfl rfl ?_
 simp only [Act.put, pu]
 refine pw_value (by rfl) (.int .i64 n) (exec_len_s 49 _ rfl ae n ce rfl sl_nats) ?_
 simp only [Act.put, pu]
 refine pw_value (by rfl) (.bool false) (exec_neq_k .i64 _ _ _ _ rfl n n rfl rfl false (by rw [decide_eq_true rfl]; rfl)) ?_
 simp only [Act.put, pu]
 refine pw_pick (by rfl) false (v := .bool false) rfl rfl rfl ?_
 simp only [Act.put, pu]
 refine pw_nil ?_
 clear hq
 (repeat ((fail_if_success with_reducible refine rg ?_); go_step))
 refine wp_region_pw ?_
 refine pw_new (by rfl) 24 rfl _ zero_nat ?_
 intro g8 z3000 n0 r8 k
 simp only [Act.put, pu]
 have d6x8 := Nat.lt_of_lt_of_le r6.lt n0
 have b8 := Nat.le_trans sb.size n0
 clear n0
 replace r6 := k.row r6 (by simp <;> omega)
 replace sb := sb.trans (k.below w.heap.size sb.size (by simp <;> omega))
 clear k
 refine pw_nil ?_
 (repeat ((fail_if_success with_reducible refine rg ?_); go_step))
 refine wp_region_pw ?_
 refine pw_mv (by rfl) rfl rfl ?_
 simp only [Act.put, pu]
 refine pw_value (by rfl) (.int .i64 n) (exec_len_s 49 _ rfl ab n ca rfl sl_nats) ?_
 simp only [Act.put, pu]
 refine pw_value (by rfl) (.int .i64 0) (fun _ => rfl) ?_
 simp only [Act.put, pu]
 refine pw_nil ?_
 have r8' : Row _ g8 (natC (D 0)) 24 := hD0 ▸ r8
 clear r8 hD0
 go_wp2_with fail
 go_loopg [9, 23] n (fun g s9 s23 wr => ∃ i : Nat, i + g = n ∧ s23 = .int .i64 i ∧ Row wr g6 (natC 0) 24 ∧ Row wr g8 (natC (D i)) 24 ∧ Below w.heap.size w wr)
 case atStart => exact ⟨0, by omega, rfl, r6, r8', sb⟩
 case round =>
  clear r6 r8' sb
  obtain ⟨i, hi, rfl, r6, r8, sb⟩ := hrel
  cases gk with
  | zero =>
   obtain rfl : i = n := by omega
   clear hi hmu had
   (repeat ((fail_if_success with_reducible refine rg ?_); go_step))
   refine wp_region_pw ?_
   refine pw_value (by rfl) (.bool false) (exec_lt_b _ _ _ _ rfl i i rfl rfl false (decide_eq_false (Int.lt_irrefl _))) ?_
   simp only [Act.put, pu]
   refine pw_nil ?_
   (repeat ((fail_if_success with_reducible refine rg ?_); go_step))
   refine wp_region_pw ?_
   refine pw_loadm (by rfl) 24 _ rfl _ 0 rfl r8.r _ (part_all _) _ Try.underlying24 rfl size_nat ?_
   simp only [Act.put, pu]
   refine pw_put (by rfl) 24 _ _ rfl _ rfl r6 (natC (D i)) rfl (by exact size_nat) (by simp only [natC_size]) (natC_one _) ?_
   clear r6
   intro z9001 r6 k
   simp only [Act.put]
   replace r8 := k.row r8 (by simp <;> omega)
   replace sb := sb.trans (k.below w.heap.size sb.size (by simp <;> omega))
   clear k
   refine pw_value (by rfl) (.int .i64 0) (fun _ => rfl) ?_
   simp only [Act.put, pu]
   refine pw_nil ?_
   go_wp2
   exact ret_row2 rfl _ rfl r6 4 _ Try.underlying24 (by exact size_nat) rfl _ rfl ⟨rfl, sb⟩
  | succ g =>
   have hlt : i < n := by omega
   replace hmu := hmu i hlt
   replace had := had i hlt
   (repeat ((fail_if_success with_reducible refine rg ?_); go_step))
   refine wp_region_pw ?_
   refine pw_value (by rfl) (.bool true) (exec_lt_b _ _ _ _ rfl i n rfl rfl true (decide_eq_true (by omega))) ?_
   simp only [Act.put, pu]
   refine pw_nil ?_
   (repeat ((fail_if_success with_reducible refine rg ?_); go_step))
   refine wp_region_pw ?_
   refine pw_mv (by rfl) rfl rfl ?_
   simp only [Act.put, pu]
   refine pw_as (by rfl) rfl rfl ?_
   simp only [Act.put, pu]
   refine pw_nil ?_
   obtain h0 | ⟨rfl, rB, hbt⟩ := (HB.out.below sb).at'
   ·omega
   obtain h0 | ⟨rfl, rE, het⟩ := (HE.out.below sb).at'
   ·omega
   have lB := ((HB.out.at'.resolve_left (by omega)).2.1).lt
   have lE := ((HE.out.at'.resolve_left (by omega)).2.1).lt
   (repeat ((fail_if_success with_reducible refine rg ?_); go_step))
   apply wp_region_mix (by kernel_rfl) [(g8, 24, natC (D i))] [_, _, _, _, _, _, _, _, _, _, _, _, _, _] ⟨r8, trivial⟩ (by simp <;> omega)
   ·intro p
    refine mx_move rfl rfl ?_
    simp only [Act.put, pu]
    refine mx_loadT 0 24 _ rfl rfl rfl 4 _ Try.underlying24 size_nat ?_
    simp only [Act.put, pu]
    refine mx_move rfl rfl ?_
    simp only [Act.put, pu]
    refine mx_move rfl rfl ?_
    simp only [Act.put, pu]
    refine mx_move rfl rfl ?_
    simp only [Act.put, pu]
    refine mx_val (.pointer (some ⟨gb, ob + i * 4, none⟩)) (exec_index_s 49 _ _ rfl gb ob n ca rfl i rfl hlt _ Try.underlying49 4 size_nat4) ?_
    simp only [Act.put, pu]
    refine mx_loadmR 24 _ rfl _ ((ob + i * 4)) rfl rB (by simp <;> omega) (natC (a' i)) (hbt i hlt) _ Try.underlying24 rfl size_nat ?_
    simp only [Act.put, pu]
    refine mx_move rfl rfl ?_
    simp only [Act.put, pu]
    refine mx_move rfl rfl ?_
    simp only [Act.put, pu]
    refine mx_val (.pointer (some ⟨ge, oe + i * 4, none⟩)) (exec_index_s 49 _ _ rfl ge oe n ce rfl i rfl hlt _ Try.underlying49 4 size_nat4) ?_
    simp only [Act.put, pu]
    refine mx_loadmR 24 _ rfl _ ((oe + i * 4)) rfl rE (by simp <;> omega) (natC (b' i)) (het i hlt) _ Try.underlying24 rfl size_nat ?_
    simp only [Act.put, pu]
    refine mx_callK 29 _ _ rfl Try.func29 (by kernel_rfl) #[.pointer v, .agg (natC (a' i)), .agg (natC (b' i))] rfl _ (fun w' hk => hmu w' (sb.trans (hk.below w.heap.size sb.size (by simp <;> omega)))) ?_
    simp only [Act.put, pu]
    refine mx_callK 24 _ _ rfl Try.func24 (by kernel_rfl) #[.pointer v, .agg (natC (D i)), .agg (natC (T i))] rfl _ (fun w' hk => had w' (sb.trans (hk.below w.heap.size sb.size (by simp <;> omega)))) ?_
    simp only [Act.put, pu]
    refine mx_put 0 24 _ _ rfl rfl rfl (natC (D (i + 1))) rfl (by exact size_nat) (by simp only [natC_size]) (natC_one _) ?_
    simp only [Act.put]
    refine mx_end ?_
    intro w10 hkw hrw hnew hdis
    have zr8 : Row w10 (g8) (natC (D (i + 1))) 24 := hrw 0 (24, natC (D (i + 1))) rfl
    replace r6 := hkw.row r6 (by simp <;> omega)
    replace sb := sb.trans (hkw.below w.heap.size sb.size (by simp <;> omega))
    clear hkw hrw hnew hdis r8
    have r8 := zr8
    clear zr8
    (repeat ((fail_if_success with_reducible refine rg ?_); go_step))
    refine wp_region_pw ?_
    refine pw_value (by rfl) (.int .i64 ((i + 1 : Nat) : Int)) (exec_add_in _ _ _ _ rfl i 1 rfl rfl (by omega)) ?_
    simp only [Act.put, pu]
    refine pw_mv (by rfl) rfl rfl ?_
    simp only [Act.put, pu]
    refine pw_nil ?_
    go_wp2
    go_roundg g
    case measure => omega
    case rel => exact ⟨i + 1, by omega, rfl, r6, r8, sb⟩
   ·kernel_rfl
/-- A group whose field's ring can be used. -/
structure FdQ (Q : Nat) : Prop extends RgQ Q where
 pr : IsP Q
theorem FdQ.pos {Q : Nat} (h : FdQ Q) : 0 < Q := Nat.lt_of_lt_of_le (by decide) h.two
theorem fIn_ok (A g gr gf P Q G : Nat) (w : World) (hA : A < 2 ^ 256) (q : FdQ Q) (h : GrpAt w g gr gf P Q G) :
  Calls Try.prog 23 #[.pointer (some ⟨g, 0, none⟩), .agg (natC A)] w fun e w' => e = .returned (.bool (decide (A < Q))) ∧ Below w.heap.size w w' := by
 refine fIn_core _ _ A _ w (fun w' hb => grpField_any _ _ _ _ _ _ w' (h.below hb).kn) fun w' hb => ?_
 have := ringIn_any A Q _ _ _ gf w' hA q.pos q.m (h.below hb).fld
 rw [cmp_neg] at this
 exact this
theorem fAdd_ok (A B g gr gf P Q G : Nat) (w : World) (hA : A < 2 ^ 256) (hB : B < 2 ^ 256) (q : FdQ Q) (h : GrpAt w g gr gf P Q G) :
  Calls Try.prog 24 #[.pointer (some ⟨g, 0, none⟩), .agg (natC A), .agg (natC B)] w fun e w' => e = .returned (.agg (natC ((A + B) % Q))) ∧ Below w.heap.size w w' := by
 refine fAdd_core _ A B Q _ (errI Q) w (fun w' hb => grpQ_any _ _ _ _ _ _ w' (h.below hb).kn) fun w' => ?_
 have := wadd_any A B Q w' hA hB q.m
 rw [modZ_full _ _ (Nat.pos_iff_ne_zero.1 q.pos)] at this
 exact this
theorem fSub_ok (A B g gr gf P Q G : Nat) (w : World) (hA : A < 2 ^ 256) (hB : B < 2 ^ 256) (q : FdQ Q) (h : GrpAt w g gr gf P Q G) :
  Calls Try.prog 27 #[.pointer (some ⟨g, 0, none⟩), .agg (natC A), .agg (natC B)] w fun e w' => e = .returned (.agg (natC (sbN A B Q))) ∧ Below w.heap.size w w' := by
 refine fSub_core _ A B Q _ (errI Q) w (fun w' hb => grpQ_any _ _ _ _ _ _ w' (h.below hb).kn) fun w' => ?_
 have := wsub_any A B Q w' hA hB q.m
 rw [subZ_sb _ _ _ q.pos] at this
 exact this
theorem fMul_ok (A B g gr gf P Q G : Nat) (w : World) (hA : A < 2 ^ 256) (hB : B < 2 ^ 256) (q : FdQ Q) (h : GrpAt w g gr gf P Q G) :
  Calls Try.prog 29 #[.pointer (some ⟨g, 0, none⟩), .agg (natC A), .agg (natC B)] w fun e w' => e = .returned (.agg (natC (A * B % Q))) ∧ Below w.heap.size w w' :=
 fMul_core _ _ A B _ w (fun w' hb => grpField_any _ _ _ _ _ _ w' (h.below hb).kn) fun w' hb => mul_ok A B Q gf q.toRgQ w' hA hB (h.below hb).fld
theorem fInv_ok (A g gr gf P Q G : Nat) (w : World) (hA : A < 2 ^ 256) (q : FdQ Q) (h : GrpAt w g gr gf P Q G) :
  Calls Try.prog 31 #[.pointer (some ⟨g, 0, none⟩), .agg (natC A)] w fun e w' => e = .returned (.agg (natC (invZ A Q))) ∧ Below w.heap.size w w' :=
 fInv_core _ A Q _ _ w (fun w' hb => grpQ_any _ _ _ _ _ _ w' (h.below hb).kn) fun w' => winv_any A Q w' hA q.m
theorem fDot_differ (g gr gf P Q G n m ca ce : Nat) (ab ae : Option Addr) (w : World) (hnm : n ≠ m) (h : GrpAt w g gr gf P Q G) :
  Calls Try.prog 34 #[.pointer (some ⟨g, 0, none⟩), .slice ab n ca, .slice ae m ce] w fun e w' => e = .returned (.tuple #[.agg (natC 0), .int .i64 1]) ∧ Below w.heap.size w w' :=
 fDot_len _ ab ae n m ca ce ⟨gf, 0, none⟩ _ rfl hnm w fun w' hb => grpField_any _ _ _ _ _ _ w' (h.below hb).kn
theorem fDot_ok (g gr gf P Q G n ca ce : Nat) (ab ae : Option Addr) (a' b' : Nat → Nat) (gb ob ge oe : Nat) (bcs ecs : Array Value) (tb te : TypeId) (w : World) (q : FdQ Q) (hn : n < 9223372036854775808)
  (hna : NatsAt w ab n a' gb ob bcs tb) (hnb : NatsAt w ae n b' ge oe ecs te) (h : GrpAt w g gr gf P Q G) :
  Calls Try.prog 34 #[.pointer (some ⟨g, 0, none⟩), .slice ab n ca, .slice ae n ce] w fun e w' => e = .returned (.tuple #[.agg (natC (dotN a' b' Q n)), .int .i64 0]) ∧ Below w.heap.size w w' :=
 fDot_core _ ab ae n ca ce ⟨gf, 0, none⟩ a' b' (fun i => a' i * b' i % Q) (dotN a' b' Q) gb ob ge oe bcs ecs tb te w rfl hna hnb hn (fun w' hb => grpField_any _ _ _ _ _ _ w' (h.below hb).kn)
  (fun i hi w' hb => fMul_ok _ _ g gr gf P Q G w' (hna.lt i hi) (hnb.lt i hi) q (h.below hb))
  (fun i _ w' hb => fAdd_ok _ _ g gr gf P Q G w' (Nat.lt_trans (dotN_lt a' b' Q q.pos i) q.m) (Nat.lt_trans (Nat.mod_lt _ q.pos) q.m) q (h.below hb))
/-- Of a group that nobody made. -/
def NoG (w : World) (v : Option Addr) : Prop := KnAt w v 0 0 0 none none
theorem NoG.below {w w' : World} {v : Option Addr} (h : NoG w v) (hb : Below w.heap.size w w') : NoG w' v := KnAt.below h hb
theorem fIn_no (v : Option Addr) (A : Nat) (w : World) (h : NoG w v) :
  Calls Try.prog 23 #[.pointer v, .agg (natC A)] w fun e w' => e = .returned (.bool false) ∧ Below w.heap.size w w' :=
 fIn_core _ _ A _ w (fun w' hb => grpField_any _ _ _ _ _ _ w' (h.below hb)) fun w' _ => in_no none A w' (.inl rfl)
theorem fAdd_no (v : Option Addr) (A B : Nat) (w : World) (hA : A < 2 ^ 256) (hB : B < 2 ^ 256) (h : NoG w v) :
  Calls Try.prog 24 #[.pointer v, .agg (natC A), .agg (natC B)] w fun e w' => e = .returned (.agg (natC 0)) ∧ Below w.heap.size w w' :=
 fAdd_core _ A B 0 0 _ w (fun w' hb => grpQ_any _ _ _ _ _ _ w' (h.below hb)) fun w' => wadd_any A B 0 w' hA hB (by decide)
theorem fSub_no (v : Option Addr) (A B : Nat) (w : World) (hA : A < 2 ^ 256) (hB : B < 2 ^ 256) (h : NoG w v) :
  Calls Try.prog 27 #[.pointer v, .agg (natC A), .agg (natC B)] w fun e w' => e = .returned (.agg (natC 0)) ∧ Below w.heap.size w w' :=
 fSub_core _ A B 0 0 _ w (fun w' hb => grpQ_any _ _ _ _ _ _ w' (h.below hb)) fun w' => wsub_any A B 0 w' hA hB (by decide)
theorem fMul_no (v : Option Addr) (A B : Nat) (w : World) (h : NoG w v) :
  Calls Try.prog 29 #[.pointer v, .agg (natC A), .agg (natC B)] w fun e w' => e = .returned (.agg (natC 0)) ∧ Below w.heap.size w w' :=
 fMul_core _ _ A B _ w (fun w' hb => grpField_any _ _ _ _ _ _ w' (h.below hb)) fun w' _ => mul_no none A B w' (.inl rfl)
theorem fInv_no (v : Option Addr) (A : Nat) (w : World) (hA : A < 2 ^ 256) (h : NoG w v) :
  Calls Try.prog 31 #[.pointer v, .agg (natC A)] w fun e w' => e = .returned (.agg (natC 0)) ∧ Below w.heap.size w w' :=
 fInv_core _ A 0 0 _ w (fun w' hb => grpQ_any _ _ _ _ _ _ w' (h.below hb)) fun w' => winv_any A 0 w' hA (by decide)
theorem fDot_nobody (v ab ae : Option Addr) (n m ca ce : Nat) (w : World) (h : NoG w v) :
  Calls Try.prog 34 #[.pointer v, .slice ab n ca, .slice ae m ce] w fun e w' => e = .returned (.tuple #[.agg (natC 0), .int .i64 1]) ∧ Below w.heap.size w w' :=
 fDot_no v ab ae n m ca ce _ rfl w fun w' hb => grpField_any _ _ _ _ _ _ w' (h.below hb)
end Go.Proofs.Yteddgjoailpgaaa
/- The document's numbers of layer 8: By, Add, Sub, Mul, Inv; its Pick. -/
namespace Go.Proofs.Yteddgjoailpgaaa
open Go.RowKit
set_option maxRecDepth 100000 in
set_option maxHeartbeats 2000000 in
theorem rby_core (A QN X : Nat) (q : Int) (w : World)
  (hin : ∀ w', Calls Try.prog 44 #[.int .i64 q] w' fun e w2 => e = .returned (.agg (natC QN)) ∧ Below w'.heap.size w' w2)
  (hrm : ∀ w', Calls Try.prog 43 #[.agg (natC A), .agg (natC 0), .agg (natC QN)] w' fun e w2 => e = .returned (.tuple #[.agg (natC X), .int .i64 0]) ∧ Below w'.heap.size w' w2)
  (hlo : ∀ w', Calls Try.prog 20 #[.agg (natC X)] w' fun e w2 => e = .returned (.tuple #[.int .i64 (X : Nat), .bool true]) ∧ Below w'.heap.size w' w2) :
  Calls Try.prog 22 #[.agg (natC A), .int .i64 q] w fun e w' => e = .returned (.int .i64 (X : Nat)) ∧ Below w.heap.size w w' := by
 go_enter Try.func22, Try.ntmps22
 (repeat ((fail_if_success with_reducible refine rg ?_); go_step))
 refine wp_region_pw ?_
 refine pw_boxr (by rfl) 24 _ rfl (_) rfl ?_
 intro g2 z0 n0 r2 k
 simp only [Act.put, pu]
 have b2 : w.heap.size ≤ g2 := n0
 clear n0
 have sb := k.below w.heap.size (Nat.le_refl _) (by simp)
 clear k
 refine pw_value (by rfl) (.int .i64 0) (fun _ => rfl) ?_
 simp only [Act.put, pu]
 refine pw_nil ?_
 (repeat ((fail_if_success with_reducible refine rg ?_); go_step))
 apply wp_region_mix (by kernel_rfl) [] [_, _, _, _, _, _, _, _, _, _, _] trivial List.nodup_nil
 ·intro p
  refine mx_load 24 _ rfl _ rfl r2 (by simp <;> omega) 4 _ Try.underlying24 size_nat ?_
  simp only [Act.put, pu]
  refine mx_val (.agg (natC 0)) (exec_build0 _ rfl _ built_nat) ?_
  simp only [Act.put, pu]
  refine mx_move rfl rfl ?_
  simp only [Act.put, pu]
  refine mx_call 44 _ _ rfl Try.func44 (by kernel_rfl) #[.int .i64 q] rfl _ hin ?_
  simp only [Act.put, pu]
  refine mx_call 43 _ _ rfl Try.func43 (by kernel_rfl) #[.agg (natC A), .agg (natC 0), .agg (natC QN)] rfl _ hrm ?_
  simp only [Act.put, pu]
  refine mx_move rfl rfl ?_
  simp only [Act.put, pu]
  refine mx_ext rfl rfl rfl ?_
  simp only [Act.put, pu]
  refine mx_ext rfl rfl rfl ?_
  simp only [Act.put, pu]
  refine mx_new 24 rfl _ zero_nat ?_
  simp only [Act.put, pu]
  refine mx_put 17 24 _ _ rfl rfl rfl (natC X) rfl (by exact size_nat) (by simp only [natC_size]) (natC_one _) ?_
  simp only [Act.put]
  refine mx_asg rfl rfl ?_
  simp only [Act.put, pu]
  refine mx_end ?_
  intro w2 hkw hrw hnew hdis
  have n5 := hnew 8 rfl
  have zr5 : Row w2 (p 8) (natC X) 24 := hrw 17 (24, natC X) rfl
  have b5 := Nat.le_trans sb.size n5
  replace sb := sb.trans (hkw.below w.heap.size sb.size (by simp <;> omega))
  clear hkw hrw hnew hdis n5
  generalize p 8 = g5 at *
  have r5 := zr5
  clear zr5
  (repeat ((fail_if_success with_reducible refine rg ?_); go_step))
  refine wp_region_pw ?_
  refine pw_loadm (by rfl) 24 _ rfl _ 0 rfl r5.r _ (part_all _) _ Try.underlying24 rfl size_nat ?_
  simp only [Act.put, pu]
  refine pw_callB (by rfl) 20 _ _ rfl Try.func20 (by kernel_rfl) #[.agg (natC X)] rfl _ (hlo _) ?_
  intro z2001 k
  simp only [Act.put, pu]
  replace r5 := k.row r5 (by simp <;> omega)
  replace sb := sb.trans (k.below w.heap.size sb.size (by simp <;> omega))
  clear k
  refine pw_mv (by rfl) rfl rfl ?_
  simp only [Act.put, pu]
  refine pw_ext (by rfl) rfl rfl rfl ?_
  simp only [Act.put, pu]
  refine pw_ext (by rfl) rfl rfl rfl ?_
  simp only [Act.put, pu]
  refine pw_as (by rfl) rfl rfl ?_
  simp only [Act.put, pu]
  refine pw_as (by rfl) rfl rfl ?_
  simp only [Act.put, pu]
  refine pw_nil ?_
  (repeat ((fail_if_success with_reducible refine rg ?_); go_step))
  refine wp_region_pw ?_
  refine pw_mv (by rfl) rfl rfl ?_
  simp only [Act.put, pu]
  refine pw_as (by rfl) rfl rfl ?_
  simp only [Act.put, pu]
  refine pw_nil ?_
  go_wp2
  go_ret
  exact ⟨rfl, sb⟩
 ·kernel_rfl
/-- A natural by q. -/
theorem rby_any (A q : Nat) (w : World) (hA : A < 2 ^ 256) (h0 : 0 < q) (hq : q < 4611686018427387904) :
  Calls Try.prog 22 #[.agg (natC A), .int .i64 (q : Nat)] w fun e w' => e = .returned (.int .i64 (A % q : Nat)) ∧ Below w.heap.size w w' := by
 have hX := Nat.mod_lt A h0
 refine rby_core A q (A % q) q w (fun w' => ?_) (fun w' => ?_) fun w' => ?_
 ·have := rint_any (q : Int) w' (by omega)
  rw [Int.toNat_natCast] at this
  exact this
 ·have := rrem_any A 0 q w' hA (by decide) (by omega)
  rw [show modZ (0 * 2 ^ 256 + A) q = A % q by unfold modZ; rw [if_neg (by omega), Nat.zero_mul, Nat.zero_add], show errI q = 0 by unfold errI; rw [if_neg (by omega)]] at this
  exact this
 ·have := rlow_any (A % q) w' (by omega)
  rw [show lowI (A % q) = ((A % q : Nat) : Int) from if_pos (by omega), show lowB (A % q) = true from decide_eq_true (by omega)] at this
  exact this
set_option maxRecDepth 100000 in
set_option maxHeartbeats 2000000 in
theorem radd8_any (x y q : Nat) (w : World) (h0 : 0 < q) (hx : x < 4611686018427387904) (hy : y < 4611686018427387904) :
  Calls Try.prog 26 #[.int .i64 (x : Nat), .int .i64 (y : Nat), .int .i64 (q : Nat)] w fun e w' => e = .returned (.int .i64 ((x + y) % q : Nat)) ∧ Below w.heap.size w w' := by
 go_enter Try.func26, Try.ntmps26
 have sb := Below.refl w.heap.size w
 (repeat ((fail_if_success with_reducible refine rg ?_); go_step))
 refine wp_region_pw ?_
 refine pw_value (by rfl) (.int .i64 0) (fun _ => rfl) ?_
 simp only [Act.put, pu]
 refine pw_nil ?_
 (repeat ((fail_if_success with_reducible refine rg ?_); go_step))
 refine wp_region_pw ?_
 refine pw_mv (by rfl) rfl rfl ?_
 simp only [Act.put, pu]
 refine pw_mv (by rfl) rfl rfl ?_
 simp only [Act.put, pu]
 refine pw_value (by rfl) (.int .i64 ((x + y : Nat) : Int)) (exec_add_in _ _ _ _ rfl x y rfl rfl (by omega)) ?_
 simp only [Act.put, pu]
 refine pw_mv (by rfl) rfl rfl ?_
 simp only [Act.put, pu]
 refine pw_value (by rfl) (.int .i64 (((x + y) % q : Nat) : Int)) (exec_rem_i _ _ _ _ rfl (x + y) q rfl rfl h0) ?_
 simp only [Act.put, pu]
 refine pw_as (by rfl) rfl rfl ?_
 simp only [Act.put, pu]
 refine pw_nil ?_
 go_wp2
 go_ret
 exact ⟨rfl, sb⟩
set_option maxRecDepth 100000 in
set_option maxHeartbeats 2000000 in
theorem rsub8_any (x y q : Nat) (w : World) (h0 : 0 < q) (hx : x < q) (hy : y < q) (hq : q < 4611686018427387904) :
  Calls Try.prog 28 #[.int .i64 (x : Nat), .int .i64 (y : Nat), .int .i64 (q : Nat)] w fun e w' => e = .returned (.int .i64 (sbN x y q : Nat)) ∧ Below w.heap.size w w' := by
 have hs : (x + q - y) % q = sbN x y q := sb_of x y q hx hy
 generalize sbN x y q = S at *
 go_enter Try.func28, Try.ntmps28
 have sb := Below.refl w.heap.size w
 (repeat ((fail_if_success with_reducible refine rg ?_); go_step))
 refine wp_region_pw ?_
 refine pw_value (by rfl) (.int .i64 0) (fun _ => rfl) ?_
 simp only [Act.put, pu]
 refine pw_nil ?_
 (repeat ((fail_if_success with_reducible refine rg ?_); go_step))
 refine wp_region_pw ?_
 refine pw_mv (by rfl) rfl rfl ?_
 simp only [Act.put, pu]
 refine pw_mv (by rfl) rfl rfl ?_
 simp only [Act.put, pu]
 refine pw_value (by rfl) (.int .i64 ((x + q : Nat) : Int)) (exec_add_in _ _ _ _ rfl x q rfl rfl (by omega)) ?_
 simp only [Act.put, pu]
 refine pw_mv (by rfl) rfl rfl ?_
 simp only [Act.put, pu]
 refine pw_value (by rfl) (.int .i64 ((x + q - y : Nat) : Int)) (exec_sub_in _ _ _ _ rfl (x + q) y rfl rfl (by omega) (by omega)) ?_
 simp only [Act.put, pu]
 refine pw_mv (by rfl) rfl rfl ?_
 simp only [Act.put, pu]
 refine pw_value (by rfl) (.int .i64 (S : Nat)) (fun w' => (exec_rem_i _ _ _ _ rfl (x + q - y) q rfl rfl h0 w').trans (by rw [hs])) ?_
 simp only [Act.put, pu]
 refine pw_as (by rfl) rfl rfl ?_
 simp only [Act.put, pu]
 refine pw_nil ?_
 go_wp2
 go_ret
 exact ⟨rfl, sb⟩
set_option maxRecDepth 100000 in
set_option maxHeartbeats 2000000 in
theorem rmul8_any (x y q : Nat) (w : World) (h0 : 0 < q) (hq : q < 4611686018427387904) :
  Calls Try.prog 30 #[.int .i64 (x : Nat), .int .i64 (y : Nat), .int .i64 (q : Nat)] w fun e w' => e = .returned (.int .i64 (x * y % q : Nat)) ∧ Below w.heap.size w w' := by
 have hti := fun w' => rtimes_any x y q w' h0 hq
 generalize x * y % q = T at *
 clear h0 hq
 go_enter Try.func30, Try.ntmps30
 have sb := Below.refl w.heap.size w
 (repeat ((fail_if_success with_reducible refine rg ?_); go_step))
 refine wp_region_pw ?_
 refine pw_value (by rfl) (.int .i64 0) (fun _ => rfl) ?_
 simp only [Act.put, pu]
 refine pw_nil ?_
 (repeat ((fail_if_success with_reducible refine rg ?_); go_step))
 refine wp_region_pw ?_
 refine pw_mv (by rfl) rfl rfl ?_
 simp only [Act.put, pu]
 refine pw_mv (by rfl) rfl rfl ?_
 simp only [Act.put, pu]
 refine pw_mv (by rfl) rfl rfl ?_
 simp only [Act.put, pu]
 refine pw_callB (by rfl) 65 _ _ rfl Try.func65 (by kernel_rfl) #[.int .i64 (x : Nat), .int .i64 (y : Nat), .int .i64 (q : Nat)] rfl _ (hti _) ?_
 intro z1003 k
 simp only [Act.put, pu]
 replace sb := sb.trans (k.below w.heap.size sb.size (by simp <;> omega))
 clear k
 refine pw_as (by rfl) rfl rfl ?_
 simp only [Act.put, pu]
 refine pw_nil ?_
 go_wp2
 go_ret
 exact ⟨rfl, sb⟩
set_option maxRecDepth 100000 in
set_option maxHeartbeats 2000000 in
theorem rinv8_zero (q : Nat) (w : World) :
  Calls Try.prog 32 #[.int .i64 ((0 : Nat) : Int), .int .i64 (q : Nat)] w fun e w' => e = .returned (.int .i64 ((0 : Nat) : Int)) ∧ Below w.heap.size w w' := by
 go_enter Try.func32, Try.ntmps32
 have sb := Below.refl w.heap.size w
 (repeat ((fail_if_success with_reducible refine rg ?_); go_step))
 refine wp_region_pw ?_
 refine pw_value (by rfl) (.int .i64 0) (fun _ => rfl) ?_
 simp only [Act.put, pu]
 refine pw_nil ?_
 (repeat ((fail_if_success with_reducible refine rg ?_); go_step))
 refine wp_region_pw ?_
 refine pw_mv (by rfl) rfl rfl ?_
 simp only [Act.put, pu]
 refine pw_value (by rfl) (.bool true) (exec_eql_k .i64 _ _ _ _ rfl ((0 : Nat) : Int) 0 rfl rfl true rfl) ?_
 simp only [Act.put, pu]
 refine pw_nil ?_
 (repeat ((fail_if_success with_reducible refine rg ?_); go_step))
 refine wp_region_pw ?_
 refine pw_value (by rfl) (.int .i64 0) (fun _ => rfl) ?_
 simp only [Act.put, pu]
 refine pw_nil ?_
 go_wp2
 go_ret
 exact ⟨rfl, sb⟩
set_option maxRecDepth 100000 in
set_option maxHeartbeats 2000000 in
theorem rinv8_more (x q : Nat) (w : World) (hx : x ≠ 0) (h2 : 2 ≤ q) (hq : q < 4611686018427387904) :
  Calls Try.prog 32 #[.int .i64 (x : Nat), .int .i64 (q : Nat)] w fun e w' => e = .returned (.int .i64 (x ^ (q - 2) % q : Nat)) ∧ Below w.heap.size w w' := by
 have hin := fun w' => rint_any ((q - 2 : Nat) : Int) w' (by omega)
 rw [Int.toNat_natCast] at hin
 have hpo := fun w' => rpower_any x (q - 2) q w' (by omega) (by omega) hq
 generalize x ^ (q - 2) % q = T at *
 go_enter Try.func32, Try.ntmps32
 have sb := Below.refl w.heap.size w
 (repeat ((fail_if_success with_reducible refine rg ?_); go_step))
 refine wp_region_pw ?_
 refine pw_value (by rfl) (.int .i64 0) (fun _ => rfl) ?_
 simp only [Act.put, pu]
 refine pw_nil ?_
 (repeat ((fail_if_success with_reducible refine rg ?_); go_step))
 refine wp_region_pw ?_
 refine pw_mv (by rfl) rfl rfl ?_
 simp only [Act.put, pu]
 refine pw_value (by rfl) (.bool false) (exec_eql_k .i64 _ _ _ _ rfl (x : Nat) 0 rfl rfl false (decide_eq_false (by omega))) ?_
 simp only [Act.put, pu]
 refine pw_nil ?_
 (repeat ((fail_if_success with_reducible refine rg ?_); go_step))
 refine wp_region_pw ?_
 refine pw_mv (by rfl) rfl rfl ?_
 simp only [Act.put, pu]
 refine pw_mv (by rfl) rfl rfl ?_
 simp only [Act.put, pu]
 refine pw_value (by rfl) (.int .i64 ((q - 2 : Nat) : Int)) (exec_sub_in _ _ _ _ rfl q 2 rfl rfl h2 (by omega)) ?_
 simp only [Act.put, pu]
 refine pw_callB (by rfl) 44 _ _ rfl Try.func44 (by kernel_rfl) #[.int .i64 ((q - 2 : Nat) : Int)] rfl _ (hin _) ?_
 intro z3003 k
 simp only [Act.put, pu]
 replace sb := sb.trans (k.below w.heap.size sb.size (by simp <;> omega))
 clear k
 refine pw_mv (by rfl) rfl rfl ?_
 simp only [Act.put, pu]
 refine pw_callB (by rfl) 66 _ _ rfl Try.func66 (by kernel_rfl) #[.int .i64 (x : Nat), .agg (natC (q - 2)), .int .i64 (q : Nat)] rfl _ (hpo _) ?_
 intro z3005 k
 simp only [Act.put, pu]
 replace sb := sb.trans (k.below w.heap.size sb.size (by simp <;> omega))
 clear k
 refine pw_as (by rfl) rfl rfl ?_
 simp only [Act.put, pu]
 refine pw_nil ?_
 go_wp2
 go_ret
 exact ⟨rfl, sb⟩
theorem rinv8_any (x q : Nat) (w : World) (h2 : 2 ≤ q) (hq : q < 4611686018427387904) :
  Calls Try.prog 32 #[.int .i64 (x : Nat), .int .i64 (q : Nat)] w fun e w' => e = .returned (.int .i64 (ivN x q : Nat)) ∧ Below w.heap.size w w' := by
 unfold ivN
 by_cases h : x = 0
 ·subst h
  exact rinv8_zero q w
 ·rw [if_neg h]
  exact rinv8_more x q w h h2 hq
/-- One of the two small groups. -/
def pk2 {α : Type} (b : Bool) (x y : α) : α := if b = true then x else y
set_option maxRecDepth 100000 in
set_option maxHeartbeats 2000000 in
theorem rpick_1 (a0 z : Int) (w : World) (hz : bits .and .i64 a0 1 = z) (h : decide (z = 1) = true) :
  Calls Try.prog 18 #[.int .i64 a0] w fun e w' => ∃ g, e = .returned (.agg (paC (some ⟨g, 0, none⟩) 3 3 otG)) ∧ w.heap.size ≤ g ∧ Row w' g (lksC 3 (lN otL) twoA) 79 ∧ Below w.heap.size w w' := by
 go_enter Try.func18, Try.ntmps18
 (repeat ((fail_if_success with_reducible refine rg ?_); go_step))
 refine wp_region_pw ?_
 refine pw_new (by rfl) 33 rfl _ zero_pa ?_
 intro g2 z0 n0 r2 k
 simp only [Act.put, pu]
 have b2 : w.heap.size ≤ g2 := n0
 clear n0
 have sb := k.below w.heap.size (Nat.le_refl _) (by simp)
 clear k
 refine pw_nil ?_
 (repeat ((fail_if_success with_reducible refine rg ?_); go_step))
 refine wp_region_pw ?_
 refine pw_mv (by rfl) rfl rfl ?_
 simp only [Act.put, pu]
 refine pw_value (by rfl) (.int .i64 z) (fun w' => (exec_bits_i .and _ _ _ _ (.inl rfl) rfl a0 1 rfl rfl w').trans (by rw [hz])) ?_
 simp only [Act.put, pu]
 refine pw_value (by rfl) (.bool true) (exec_eql_k .i64 _ _ _ _ rfl z 1 rfl rfl true h) ?_
 simp only [Act.put, pu]
 refine pw_nil ?_
 (repeat ((fail_if_success with_reducible refine rg ?_); go_step))
 refine wp_region_pw ?_
 refine pw_callE (by rfl) 36 _ _ rfl Try.func36 (by kernel_rfl) #[] rfl (rother_any _) ?_
 rintro _ z2000 ⟨gL, rfl, nL, rL, hb⟩
 refine ⟨_, rfl, ?_⟩
 simp only [Act.put, pu]
 have d2xL := Nat.lt_of_lt_of_le r2.lt nL
 have bL := Nat.le_trans sb.size nL
 clear nL
 have k := Kept.ofBelow hb
 clear hb
 replace r2 := k.row r2 (by simp <;> omega)
 replace sb := sb.trans (k.below w.heap.size sb.size (by simp <;> omega))
 clear k
 refine pw_put (by rfl) 33 _ _ rfl _ rfl r2 (paC (some ⟨gL, 0, none⟩) 3 3 otG) rfl (by exact size_pa) (by rfl) (pa_one _ _ _ _) ?_
 clear r2
 intro z2001 r2 k
 simp only [Act.put]
 replace rL := k.row rL (by simp <;> omega)
 replace sb := sb.trans (k.below w.heap.size sb.size (by simp <;> omega))
 clear k
 refine pw_nil ?_
 go_wp2
 exact ret_rowd rfl _ rfl r2 _ Try.underlying33 (by exact size_pa) rfl ⟨gL, rfl, bL, rL, sb⟩
set_option maxRecDepth 100000 in
set_option maxHeartbeats 2000000 in
theorem rpick_0 (a0 z : Int) (w : World) (hz : bits .and .i64 a0 1 = z) (h : decide (z = 1) = false) :
  Calls Try.prog 18 #[.int .i64 a0] w fun e w' => ∃ g, e = .returned (.agg (paC (some ⟨g, 0, none⟩) 3 3 leG)) ∧ w.heap.size ≤ g ∧ Row w' g (lksC 3 (lN leL) twoA) 79 ∧ Below w.heap.size w w' := by
 go_enter Try.func18, Try.ntmps18
 (repeat ((fail_if_success with_reducible refine rg ?_); go_step))
 refine wp_region_pw ?_
 refine pw_new (by rfl) 33 rfl _ zero_pa ?_
 intro g2 z0 n0 r2 k
 simp only [Act.put, pu]
 have b2 : w.heap.size ≤ g2 := n0
 clear n0
 have sb := k.below w.heap.size (Nat.le_refl _) (by simp)
 clear k
 refine pw_nil ?_
 (repeat ((fail_if_success with_reducible refine rg ?_); go_step))
 refine wp_region_pw ?_
 refine pw_mv (by rfl) rfl rfl ?_
 simp only [Act.put, pu]
 refine pw_value (by rfl) (.int .i64 z) (fun w' => (exec_bits_i .and _ _ _ _ (.inl rfl) rfl a0 1 rfl rfl w').trans (by rw [hz])) ?_
 simp only [Act.put, pu]
 refine pw_value (by rfl) (.bool false) (exec_eql_k .i64 _ _ _ _ rfl z 1 rfl rfl false h) ?_
 simp only [Act.put, pu]
 refine pw_nil ?_
 (repeat ((fail_if_success with_reducible refine rg ?_); go_step))
 refine wp_region_pw ?_
 refine pw_callE (by rfl) 35 _ _ rfl Try.func35 (by kernel_rfl) #[] rfl (rleast_any _) ?_
 rintro _ z3000 ⟨gL, rfl, nL, rL, hb⟩
 refine ⟨_, rfl, ?_⟩
 simp only [Act.put, pu]
 have d2xL := Nat.lt_of_lt_of_le r2.lt nL
 have bL := Nat.le_trans sb.size nL
 clear nL
 have k := Kept.ofBelow hb
 clear hb
 replace r2 := k.row r2 (by simp <;> omega)
 replace sb := sb.trans (k.below w.heap.size sb.size (by simp <;> omega))
 clear k
 refine pw_put (by rfl) 33 _ _ rfl _ rfl r2 (paC (some ⟨gL, 0, none⟩) 3 3 leG) rfl (by exact size_pa) (by rfl) (pa_one _ _ _ _) ?_
 clear r2
 intro z3001 r2 k
 simp only [Act.put]
 replace rL := k.row rL (by simp <;> omega)
 replace sb := sb.trans (k.below w.heap.size sb.size (by simp <;> omega))
 clear k
 refine pw_nil ?_
 go_wp2
 exact ret_rowd rfl _ rfl r2 _ Try.underlying33 (by exact size_pa) rfl ⟨gL, rfl, bL, rL, sb⟩
/-- Whether the second of the two is picked. -/
def pkB (a0 : Int) : Bool := decide (bits .and .i64 a0 1 = 1)
theorem rpick_any (a0 : Int) (w : World) :
  Calls Try.prog 18 #[.int .i64 a0] w fun e w' => ∃ g, e = .returned (.agg (paC (some ⟨g, 0, none⟩) 3 3 (pk2 (pkB a0) otG leG))) ∧ w.heap.size ≤ g ∧ Row w' g (lksC 3 (lN (pk2 (pkB a0) otL leL)) twoA) 79 ∧ Below w.heap.size w w' := by
 cases h : pkB a0 with
 | true => exact rpick_1 a0 _ w rfl h
 | false => exact rpick_0 a0 _ w rfl h
theorem pk2_gr (b : Bool) : grN 3 (lN (pk2 b otL leL)) twoA (pk2 b otG leG) = true ∧ (∀ i, i < 3 → lN (pk2 b otL leL) i < 2 ^ 256) ∧ pk2 b otG leG < 2 ^ 256 ∧ lN (pk2 b otL leL) (3 - 2) < 4611686018427387904 := by
 cases b with
 | true => exact ⟨other_is, ot_lt, by decide, by decide⟩
 | false => exact ⟨least_is, le_lt, by decide, by decide⟩
end Go.Proofs.Yteddgjoailpgaaa
/- What must come, whatever the arguments are: the check of the laws of layer 8. -/
namespace Go.Proofs.Yteddgjoailpgaaa
open Go.RowKit
set_option maxRecDepth 100000 in
set_option maxHeartbeats 2000000 in
theorem of8_any (n : Nat) (w : World) (h : (n : Int) < 9223372036854775808) :
  Calls Try.prog 25 #[.int .i64 n] w fun e w' => e = .returned (.agg (natC n)) ∧ Below w.heap.size w w' := by
 have hin := fun w' => rint_any (n : Int) w' h
 rw [Int.toNat_natCast] at hin
 clear h
 go_enter Try.func25, Try.ntmps25
 (repeat ((fail_if_success with_reducible refine rg ?_); go_step))
 refine wp_region_pw ?_
 refine pw_new (by rfl) 24 rfl _ zero_nat ?_
 intro g2 z0 n0 r2 k
 simp only [Act.put, pu]
 have b2 : w.heap.size ≤ g2 := n0
 clear n0
 have sb := k.below w.heap.size (Nat.le_refl _) (by simp)
 clear k
 refine pw_nil ?_
 (repeat ((fail_if_success with_reducible refine rg ?_); go_step))
 refine wp_region_pw ?_
 refine pw_mv (by rfl) rfl rfl ?_
 simp only [Act.put, pu]
 refine pw_callB (by rfl) 44 _ _ rfl Try.func44 (by kernel_rfl) #[.int .i64 n] rfl _ (hin _) ?_
 intro z1001 k
 simp only [Act.put, pu]
 replace r2 := k.row r2 (by simp <;> omega)
 replace sb := sb.trans (k.below w.heap.size sb.size (by simp <;> omega))
 clear k
 refine pw_put (by rfl) 24 _ _ rfl _ rfl r2 (natC n) rfl (by exact size_nat) (by simp only [natC_size]) (natC_one _) ?_
 clear r2
 intro z1002 r2 k
 simp only [Act.put]
 replace sb := sb.trans (k.below w.heap.size sb.size (by simp <;> omega))
 clear k
 refine pw_nil ?_
 go_wp2
 exact ret_row rfl _ rfl r2 4 _ Try.underlying24 (by exact size_nat) rfl ⟨rfl, sb⟩
theorem le_fd : FdQ 1966023127 := ⟨⟨by decide, by decide, by decide⟩, (grN_primes least_is).2⟩
theorem le_dot : dotN (two2 2 3) (two2 5 7) 1966023127 2 = 31 := by decide +kernel
theorem le_sb : sbN 1 2 1966023127 = 1966023126 := by decide +kernel
theorem le_inv : invZ 9 1966023127 * 9 % 1966023127 = 1 := (inv_is 9 1966023127 (by decide) (by decide +kernel)).2
set_option maxRecDepth 100000 in
set_option maxHeartbeats 2000000 in
theorem awake8_any (w : World) :
  Calls Try.prog 33 #[] w fun e w' => e = .returned (.bool true) ∧ Below w.heap.size w w' := by
 obtain ⟨ie, hie, hz, hsz, _⟩ := info_nat'
 have hs1 : ¬ 2 * ie.size > 2 ^ 24 := by rw [hsz]; decide
 have hs2 : ¬ 2 * ie.size = 0 := by rw [hsz]; decide
 have hlA := lit_two 2 3 ie.size hsz
 have hlB := lit_two 5 7 ie.size hsz
 have hnw := fun w' g (r : Row w' g (lksC 3 (lN leL) twoA) 79) => gnew_yes 3 3 (some ⟨g, 0, none⟩) leG _ _ g 0 _ _ w' (by decide) (by decide) (lks_links r le_lt) least_is
 rw [le_p, le_q] at hnw
 have hdo := fun w' g gr gf (h : GrpAt w' g gr gf 1055500680322183127 1966023127 leG) gU gV (rU : Row w' gU (natC 2 ++ natC 3) 24) (rV : Row w' gV (natC 5 ++ natC 7) 24) => fDot_ok g gr gf _ _ _ 2 2 2 (some ⟨gU, 0, none⟩) (some ⟨gV, 0, none⟩) _ _ gU 0 gV 0 _ _ _ _ w' le_fd (by decide) (nats_two rU (by decide) (by decide)) (nats_two rV (by decide) (by decide)) h
 rw [le_dot] at hdo
 have had := fun w' g gr gf (h : GrpAt w' g gr gf 1055500680322183127 1966023127 leG) => fAdd_ok 1966023126 3 g gr gf _ _ _ w' (by decide) (by decide) le_fd h
 rw [show (1966023126 + 3) % 1966023127 = 2 from rfl] at had
 have hsb := fun w' g gr gf (h : GrpAt w' g gr gf 1055500680322183127 1966023127 leG) => fSub_ok 1 2 g gr gf _ _ _ w' (by decide) (by decide) le_fd h
 rw [le_sb] at hsb
 have hiv := fun w' g gr gf (h : GrpAt w' g gr gf 1055500680322183127 1966023127 leG) => fInv_ok 9 g gr gf _ _ _ w' (by decide) le_fd h
 have hmu := fun w' g gr gf (h : GrpAt w' g gr gf 1055500680322183127 1966023127 leG) => fMul_ok (invZ 9 1966023127) 9 g gr gf _ _ _ w' (Nat.lt_trans (inv_lt 9 _ le_fd.pr) le_fd.m) (by decide) le_fd h
 rw [le_inv] at hmu
 generalize invZ 9 1966023127 = IV at *
 have hin := fun w' g gr gf (h : GrpAt w' g gr gf 1055500680322183127 1966023127 leG) => fIn_ok 5 g gr gf _ _ _ w' (by decide) le_fd h
 rw [show decide (5 < 1966023127) = true from rfl] at hin
 have o1 := fun w' => of8_any 1 w' (by decide)
 have o2 := fun w' => of8_any 2 w' (by decide)
 have o3 := fun w' => of8_any 3 w' (by decide)
 have o5 := fun w' => of8_any 5 w' (by decide)
 have o7 := fun w' => of8_any 7 w' (by decide)
 have o9 := fun w' => of8_any 9 w' (by decide)
 have o31 := fun w' => of8_any 31 w' (by decide)
 have oM := fun w' => of8_any 1966023126 w' (by decide)
 go_enter Try.func33, Try.ntmps33
 have sb := Below.refl w.heap.size w
 (repeat ((fail_if_success with_reducible refine rg ?_); go_step))
 refine wp_region_pw ?_
 refine pw_value (by rfl) (.bool false) (fun _ => rfl) ?_
 simp only [Act.put, List.setIfInBounds_toArray, List.set_cons_zero]
 refine pw_nil ?_
 (repeat ((fail_if_success with_reducible refine rg ?_); go_step))
 refine wp_region_pw ?_
 refine pw_callE (by rfl) 35 _ _ rfl Try.func35 (by kernel_rfl) #[] rfl (rleast_any _) ?_
 rintro _ z1000 ⟨gL, rfl, nL, rL, hb⟩
 refine ⟨_, rfl, ?_⟩
 simp only [Act.put, pu]
 have bL := Nat.le_trans sb.size nL
 clear nL
 have k := Kept.ofBelow hb
 clear hb
 replace sb := sb.trans (k.below w.heap.size sb.size (by simp <;> omega))
 clear k
 refine pw_callE (by rfl) 19 _ _ rfl Try.func19 (by kernel_rfl) #[.agg (paC (some ⟨gL, 0, none⟩) 3 3 leG)] rfl (hnw _ gL rL) ?_
 rintro _ z1001 ⟨g, gr, gf, rfl, ⟨rG, rR, rF⟩, hb⟩
 refine ⟨_, rfl, ?_⟩
 simp only [Act.put, pu]
 have k := Kept.ofBelow hb
 clear hb
 replace rL := k.row rL (by simp <;> omega)
 replace sb := sb.trans (k.below w.heap.size sb.size (by simp <;> omega))
 clear k
 refine pw_mv (by rfl) rfl rfl ?_
 simp only [Act.put, pu]
 refine pw_ext (by rfl) rfl rfl rfl ?_
 simp only [Act.put, pu]
 refine pw_ext (by rfl) rfl rfl rfl ?_
 simp only [Act.put, pu]
 refine pw_as (by rfl) rfl rfl ?_
 simp only [Act.put, pu]
 refine pw_as (by rfl) rfl rfl ?_
 simp only [Act.put, pu]
 refine pw_nil ?_
 clear hnw rL
 (repeat ((fail_if_success with_reducible refine rg ?_); go_step))
 refine wp_region_pw ?_
 refine pw_mv (by rfl) rfl rfl ?_
 simp only [Act.put, pu]
 refine pw_callB (by rfl) 25 _ _ rfl Try.func25 (by kernel_rfl) #[.int .i64 2] rfl _ (o2 _) ?_
 intro z2001 k
 simp only [Act.put, pu]
 replace rG := k.row rG (by simp <;> omega)
 replace rR := k.row rR (by simp <;> omega)
 replace rF := k.row rF (by simp <;> omega)
 replace sb := sb.trans (k.below w.heap.size sb.size (by simp <;> omega))
 clear k
 refine pw_callB (by rfl) 25 _ _ rfl Try.func25 (by kernel_rfl) #[.int .i64 3] rfl _ (o3 _) ?_
 intro z2002 k
 simp only [Act.put, pu]
 replace rG := k.row rG (by simp <;> omega)
 replace rR := k.row rR (by simp <;> omega)
 replace rF := k.row rF (by simp <;> omega)
 replace sb := sb.trans (k.below w.heap.size sb.size (by simp <;> omega))
 clear k
 refine pw_litr (by rfl) 49 24 2 _ rfl (natC 2 ++ natC 3) ie _ Try.underlying49 hie hz hs1 hs2 [(0, .agg (natC 2)), (1, .agg (natC 3))] rfl hlA ?_
 intro gU z2003 n0 rU k
 simp only [Act.put, pu]
 have dGxU := Nat.lt_of_lt_of_le rG.lt n0
 have dRxU := Nat.lt_of_lt_of_le rR.lt n0
 have dFxU := Nat.lt_of_lt_of_le rF.lt n0
 have bU := Nat.le_trans sb.size n0
 clear n0
 replace rG := k.row rG (by simp <;> omega)
 replace rR := k.row rR (by simp <;> omega)
 replace rF := k.row rF (by simp <;> omega)
 replace sb := sb.trans (k.below w.heap.size sb.size (by simp <;> omega))
 clear k
 refine pw_callB (by rfl) 25 _ _ rfl Try.func25 (by kernel_rfl) #[.int .i64 5] rfl _ (o5 _) ?_
 intro z2004 k
 simp only [Act.put, pu]
 replace rG := k.row rG (by simp <;> omega)
 replace rR := k.row rR (by simp <;> omega)
 replace rF := k.row rF (by simp <;> omega)
 replace rU := k.row rU (by simp <;> omega)
 replace sb := sb.trans (k.below w.heap.size sb.size (by simp <;> omega))
 clear k
 refine pw_callB (by rfl) 25 _ _ rfl Try.func25 (by kernel_rfl) #[.int .i64 7] rfl _ (o7 _) ?_
 intro z2005 k
 simp only [Act.put, pu]
 replace rG := k.row rG (by simp <;> omega)
 replace rR := k.row rR (by simp <;> omega)
 replace rF := k.row rF (by simp <;> omega)
 replace rU := k.row rU (by simp <;> omega)
 replace sb := sb.trans (k.below w.heap.size sb.size (by simp <;> omega))
 clear k
 refine pw_litr (by rfl) 49 24 2 _ rfl (natC 5 ++ natC 7) ie _ Try.underlying49 hie hz hs1 hs2 [(0, .agg (natC 5)), (1, .agg (natC 7))] rfl hlB ?_
 intro gV z2006 n0 rV k
 simp only [Act.put, pu]
 have dGxV := Nat.lt_of_lt_of_le rG.lt n0
 have dRxV := Nat.lt_of_lt_of_le rR.lt n0
 have dFxV := Nat.lt_of_lt_of_le rF.lt n0
 have dUxV := Nat.lt_of_lt_of_le rU.lt n0
 have bV := Nat.le_trans sb.size n0
 clear n0
 replace rG := k.row rG (by simp <;> omega)
 replace rR := k.row rR (by simp <;> omega)
 replace rF := k.row rF (by simp <;> omega)
 replace rU := k.row rU (by simp <;> omega)
 replace sb := sb.trans (k.below w.heap.size sb.size (by simp <;> omega))
 clear k
 refine pw_callB (by rfl) 34 _ _ rfl Try.func34 (by kernel_rfl) #[.pointer (some ⟨g, 0, none⟩), .slice (some ⟨gU, 0, none⟩) 2 2, .slice (some ⟨gV, 0, none⟩) 2 2] rfl _ (hdo _ g gr gf ⟨rG, rR, rF⟩ gU gV rU rV) ?_
 intro z2007 k
 simp only [Act.put, pu]
 replace rG := k.row rG (by simp <;> omega)
 replace rR := k.row rR (by simp <;> omega)
 replace rF := k.row rF (by simp <;> omega)
 replace rU := k.row rU (by simp <;> omega)
 replace rV := k.row rV (by simp <;> omega)
 replace sb := sb.trans (k.below w.heap.size sb.size (by simp <;> omega))
 clear k
 refine pw_mv (by rfl) rfl rfl ?_
 simp only [Act.put, pu]
 refine pw_ext (by rfl) rfl rfl rfl ?_
 simp only [Act.put, pu]
 refine pw_ext (by rfl) rfl rfl rfl ?_
 simp only [Act.put, pu]
 refine pw_new (by rfl) 24 rfl _ zero_nat ?_
 intro g3 z2011 n0 r3 k
 simp only [Act.put, pu]
 have dGx3 := Nat.lt_of_lt_of_le rG.lt n0
 have dRx3 := Nat.lt_of_lt_of_le rR.lt n0
 have dFx3 := Nat.lt_of_lt_of_le rF.lt n0
 have dUx3 := Nat.lt_of_lt_of_le rU.lt n0
 have dVx3 := Nat.lt_of_lt_of_le rV.lt n0
 have b3 := Nat.le_trans sb.size n0
 clear n0
 replace rG := k.row rG (by simp <;> omega)
 replace rR := k.row rR (by simp <;> omega)
 replace rF := k.row rF (by simp <;> omega)
 replace rU := k.row rU (by simp <;> omega)
 replace rV := k.row rV (by simp <;> omega)
 replace sb := sb.trans (k.below w.heap.size sb.size (by simp <;> omega))
 clear k
 refine pw_put (by rfl) 24 _ _ rfl _ rfl r3 (natC 31) rfl (by exact size_nat) (by simp only [natC_size]) (natC_one _) ?_
 clear r3
 intro z2012 r3 k
 simp only [Act.put]
 replace rG := k.row rG (by simp <;> omega)
 replace rR := k.row rR (by simp <;> omega)
 replace rF := k.row rF (by simp <;> omega)
 replace rU := k.row rU (by simp <;> omega)
 replace rV := k.row rV (by simp <;> omega)
 replace sb := sb.trans (k.below w.heap.size sb.size (by simp <;> omega))
 clear k
 refine pw_as (by rfl) rfl rfl ?_
 simp only [Act.put, pu]
 refine pw_nil ?_
 have hg : GrpAt _ g gr gf 1055500680322183127 1966023127 leG := ⟨rG, rR, rF⟩
 clear hlA hlB hdo rG rR rF rU rV hie hz hs1 hs2 hsz o7
 (repeat ((fail_if_success with_reducible refine rg ?_); go_step))
 refine wp_region_qw (by kernel_rfl) (by kernel_rfl) ?_
 refine qw_move (by rfl) rfl rfl ?_
 simp only [Act.put, pu]
 refine qw_value (by rfl) (.bool true) (exec_eql_k .i64 _ _ _ _ rfl 0 0 rfl rfl true rfl) ?_
 simp only [Act.put, pu]
 refine qw_move (by rfl) rfl rfl ?_
 simp only [Act.put, pu]
 refine qw_load (by rfl) 24 _ rfl _ rfl r3 4 _ Try.underlying24 size_nat ?_
 simp only [Act.put, pu]
 refine qw_call (by rfl) 25 _ _ rfl Try.func25 (by kernel_rfl) #[.int .i64 31] rfl _ o31 ?_
 simp only [Act.put, pu]
 refine qw_value (by rfl) (.bool true) (fun w' => (exec_eql_nat _ _ _ rfl 31 31 rfl rfl w').trans (by rw [eqn_yes])) ?_
 simp only [Act.put, pu]
 refine qw_pick true (v := .bool true) (by rfl) rfl rfl rfl ?_
 simp only [Act.put, pu]
 refine qw_move (by rfl) rfl rfl ?_
 simp only [Act.put, pu]
 refine qw_move (by rfl) rfl rfl ?_
 simp only [Act.put, pu]
 refine qw_value (by rfl) (.bool true) (exec_eql_k .i64 _ _ _ _ rfl 0 0 rfl rfl true rfl) ?_
 simp only [Act.put, pu]
 refine qw_pick true (v := .bool true) (by rfl) rfl rfl rfl ?_
 simp only [Act.put, pu]
 refine qw_move (by rfl) rfl rfl ?_
 simp only [Act.put, pu]
 refine qw_move (by rfl) rfl rfl ?_
 simp only [Act.put, pu]
 refine qw_call (by rfl) 25 _ _ rfl Try.func25 (by kernel_rfl) #[.int .i64 1966023126] rfl _ oM ?_
 simp only [Act.put, pu]
 refine qw_call (by rfl) 25 _ _ rfl Try.func25 (by kernel_rfl) #[.int .i64 3] rfl _ o3 ?_
 simp only [Act.put, pu]
 refine qw_callK (by rfl) 24 _ _ rfl Try.func24 (by kernel_rfl) #[.pointer (some ⟨g, 0, none⟩), .agg (natC 1966023126), .agg (natC 3)] rfl _ (fun w' hb => had w' g gr gf (hg.below hb)) ?_
 simp only [Act.put, pu]
 refine qw_call (by rfl) 25 _ _ rfl Try.func25 (by kernel_rfl) #[.int .i64 2] rfl _ o2 ?_
 simp only [Act.put, pu]
 refine qw_value (by rfl) (.bool true) (fun w' => (exec_eql_nat _ _ _ rfl 2 2 rfl rfl w').trans (by rw [eqn_yes])) ?_
 simp only [Act.put, pu]
 refine qw_pick true (v := .bool true) (by rfl) rfl rfl rfl ?_
 simp only [Act.put, pu]
 refine qw_move (by rfl) rfl rfl ?_
 simp only [Act.put, pu]
 refine qw_move (by rfl) rfl rfl ?_
 simp only [Act.put, pu]
 refine qw_call (by rfl) 25 _ _ rfl Try.func25 (by kernel_rfl) #[.int .i64 1] rfl _ o1 ?_
 simp only [Act.put, pu]
 refine qw_call (by rfl) 25 _ _ rfl Try.func25 (by kernel_rfl) #[.int .i64 2] rfl _ o2 ?_
 simp only [Act.put, pu]
 refine qw_callK (by rfl) 27 _ _ rfl Try.func27 (by kernel_rfl) #[.pointer (some ⟨g, 0, none⟩), .agg (natC 1), .agg (natC 2)] rfl _ (fun w' hb => hsb w' g gr gf (hg.below hb)) ?_
 simp only [Act.put, pu]
 refine qw_call (by rfl) 25 _ _ rfl Try.func25 (by kernel_rfl) #[.int .i64 1966023126] rfl _ oM ?_
 simp only [Act.put, pu]
 refine qw_value (by rfl) (.bool true) (fun w' => (exec_eql_nat _ _ _ rfl 1966023126 1966023126 rfl rfl w').trans (by rw [eqn_yes])) ?_
 simp only [Act.put, pu]
 refine qw_pick true (v := .bool true) (by rfl) rfl rfl rfl ?_
 simp only [Act.put, pu]
 refine qw_move (by rfl) rfl rfl ?_
 simp only [Act.put, pu]
 refine qw_move (by rfl) rfl rfl ?_
 simp only [Act.put, pu]
 refine qw_move (by rfl) rfl rfl ?_
 simp only [Act.put, pu]
 refine qw_call (by rfl) 25 _ _ rfl Try.func25 (by kernel_rfl) #[.int .i64 9] rfl _ o9 ?_
 simp only [Act.put, pu]
 refine qw_callK (by rfl) 31 _ _ rfl Try.func31 (by kernel_rfl) #[.pointer (some ⟨g, 0, none⟩), .agg (natC 9)] rfl _ (fun w' hb => hiv w' g gr gf (hg.below hb)) ?_
 simp only [Act.put, pu]
 refine qw_call (by rfl) 25 _ _ rfl Try.func25 (by kernel_rfl) #[.int .i64 9] rfl _ o9 ?_
 simp only [Act.put, pu]
 refine qw_callK (by rfl) 29 _ _ rfl Try.func29 (by kernel_rfl) #[.pointer (some ⟨g, 0, none⟩), .agg (natC IV), .agg (natC 9)] rfl _ (fun w' hb => hmu w' g gr gf (hg.below hb)) ?_
 simp only [Act.put, pu]
 refine qw_call (by rfl) 25 _ _ rfl Try.func25 (by kernel_rfl) #[.int .i64 1] rfl _ o1 ?_
 simp only [Act.put, pu]
 refine qw_value (by rfl) (.bool true) (fun w' => (exec_eql_nat _ _ _ rfl 1 1 rfl rfl w').trans (by rw [eqn_yes])) ?_
 simp only [Act.put, pu]
 refine qw_pick true (v := .bool true) (by rfl) rfl rfl rfl ?_
 simp only [Act.put, pu]
 refine qw_move (by rfl) rfl rfl ?_
 simp only [Act.put, pu]
 refine qw_move (by rfl) rfl rfl ?_
 simp only [Act.put, pu]
 refine qw_call (by rfl) 25 _ _ rfl Try.func25 (by kernel_rfl) #[.int .i64 5] rfl _ o5 ?_
 simp only [Act.put, pu]
 refine qw_callK (by rfl) 23 _ _ rfl Try.func23 (by kernel_rfl) #[.pointer (some ⟨g, 0, none⟩), .agg (natC 5)] rfl _ (fun w' hb => hin w' g gr gf (hg.below hb)) ?_
 simp only [Act.put, pu]
 refine qw_pick true (v := .bool true) (by rfl) rfl rfl rfl ?_
 simp only [Act.put, pu]
 refine qw_asg (by rfl) rfl rfl ?_
 simp only [Act.put, List.setIfInBounds_toArray, List.set_cons_zero]
 refine qw_nil ?_
 intro w9 hqb
 replace sb := below_on sb (Nat.le_refl _) hqb
 clear hqb
 go_wp2
 go_ret
 exact ⟨rfl, sb⟩
end Go.Proofs.Yteddgjoailpgaaa
