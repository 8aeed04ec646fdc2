/- Plain mathematics of layer 8: sums, differences, products and inverses by a prime. -/
import Derived.Test.YtlacmkliofnjcaaDoorGI
import Derived.Test.YtlacmkliofnjcaaDoorGH
import Derived.Test.YtlacmkliofnjcaaDoorPM
import Derived.Test.YtlacmkliofnjcaaDoorGW
import Derived.Test.YtlacmkliofnjcaaDoorMNobody
import Derived.Test.YtlacmkliofnjcaaDoorGT
import Derived.Test.YtlacmkliofnjcaaDoorGAwake
import Derived.Test.YtlacmkliofnjcaaDoorMRExp
import Derived.Test.YtlacmkliofnjcaaDoorGO
namespace Go.Proofs.YtlacmkliofnjcaaDoor
/-- A difference by q. -/
def sbN (A B q : Nat) : Nat := (A % q + (q - B % q)) % q
/-- The sum of products of the first k. -/
def dotN (a b : Nat → Nat) (q : Nat) : Nat → Nat
 | 0 => 0
 | k + 1 => (dotN a b q k + a k * b k % q) % q
theorem dotN_lt (a b : Nat → Nat) (q : Nat) (h : 0 < q) : ∀ k, dotN a b q k < q
 | 0 => h
 | _ + 1 => Nat.mod_lt _ h
theorem subZ_sb (A B q : Nat) (h : 0 < q) : subZ A B q = sbN A B q := if_neg (by omega)
theorem sb_of (x y q : Nat) (hx : x < q) (hy : y < q) : (x + q - y) % q = sbN x y q := by
 unfold sbN
 rw [Nat.mod_eq_of_lt hx, Nat.mod_eq_of_lt hy, Nat.add_sub_assoc (by omega)]
theorem sbN_mod (A B q : Nat) : sbN (A % q) (B % q) q = sbN A B q := by
 unfold sbN
 rw [Nat.mod_mod, Nat.mod_mod]
/-- What is added can be taken away again. -/
theorem sb_add (A B q : Nat) (h : 0 < q) : sbN ((A + B) % q) B q = (A + 0) % q := by
 unfold sbN
 rw [Nat.mod_mod, Nat.add_zero]
 have hb := Nat.mod_lt B h
 have e : (A + B) % q + (q - B % q) = (A + B) % q + (q - B % q) := rfl
 calc ((A + B) % q + (q - B % q)) % q = (A + B + (q - B % q)) % q := Nat.mod_add_mod _ _ _
  _ = (A + q * (B / q) + q) % q := by
   congr 1
   have := Nat.div_add_mod B q
   omega
  _ = A % q := by rw [Nat.add_mod_right, Nat.add_mul_mod_self_left]
theorem add_assoc_q (A B C q : Nat) : ((A + B) % q + C) % q = (A + (B + C) % q) % q := by
 rw [Nat.mod_add_mod, Nat.add_mod_mod, Nat.add_assoc]
theorem mul_assoc_q (A B C q : Nat) : A * B % q * C % q = A * (B * C % q) % q := by
 rw [Nat.mod_mul_mod, Nat.mul_mod_mod, Nat.mul_assoc]
theorem over_q (A B C q : Nat) : A * ((B + C) % q) % q = (A * B % q + A * C % q) % q := by
 rw [Nat.mul_mod_mod, Nat.mul_add, ← Nat.add_mod]
/-- The inverse of what is 0 by a prime. -/
theorem inv_0 {A q : Nat} (hq : IsP q) (h : A % q = 0) : invZ A q = 0 := by
 unfold invZ
 rw [if_neg (by have := hq.1; omega), if_neg]
 intro hg
 have hd : q ∣ Nat.gcd A q := Nat.dvd_gcd (Nat.dvd_of_mod_eq_zero h) (Nat.dvd_refl q)
 rw [hg] at hd
 have := Nat.le_of_dvd (by decide) hd
 have := hq.1
 omega
theorem inv_gcd {A q : Nat} (hq : IsP q) (h : A % q ≠ 0) : Nat.gcd A q = 1 := by
 rw [Nat.gcd_comm]
 exact isP_coprime hq fun hd => h (Nat.mod_eq_zero_of_dvd hd)
/-- The inverse of what is not 0 by a prime. -/
theorem inv_1 {A q : Nat} (hq : IsP q) (h : A % q ≠ 0) : A * invZ A q % q = 1 := by
 rw [Nat.mul_comm]
 exact (inv_is A q hq.1 (inv_gcd hq h)).2
theorem inv_lt (A q : Nat) (hq : IsP q) : invZ A q < q := by
 by_cases h : A % q = 0
 ·rw [inv_0 hq h]
  have := hq.1
  omega
 ·exact (inv_is A q hq.1 (inv_gcd hq h)).1
/-- The document's inverse. -/
def ivN (x q : Nat) : Nat := if x = 0 then 0 else x ^ (q - 2) % q
theorem iv_is {A q : Nat} (hq : IsP q) : invZ A q = ivN (A % q) q := by
 unfold ivN
 by_cases h : A % q = 0
 ·rw [if_pos h, inv_0 hq h]
 ·have h2 := hq.1
  rw [if_neg h]
  have e : invZ A q = invV A q := by
   unfold invZ
   rw [if_neg (by omega), if_pos (inv_gcd hq h)]
  rw [e]
  refine inv_unique A q _ (Nat.mod_lt _ (by omega)) ?_
  have hd : ¬ q ∣ A := fun hd => h (Nat.mod_eq_zero_of_dvd hd)
  rw [← Nat.pow_mod, Nat.mod_mul_mod, ← Nat.pow_succ, show (q - 2).succ = q - 1 by omega]
  exact fermat hq hd
end Go.Proofs.YtlacmkliofnjcaaDoor
/- field's In, Add, Sub, Mul, Inv, Dot: of a group that New has made, and of one that nobody made. -/
namespace Go.Proofs.YtlacmkliofnjcaaDoor
open Go.RowKit
theorem ptr_ring8 : Tryd.prog.underlying 71 = some (.pointer (Tryd.prog.pointee 71)) := by kernel_rfl
/-- A group whose field's ring can be used. -/
structure FdQ (Q : Nat) : Prop extends RgQ Q where
 pr : IsP Q
theorem FdQ.pos {Q : Nat} (h : FdQ Q) : 0 < Q := Nat.lt_of_lt_of_le (by decide) h.two
/-- Of a group that nobody made. -/
def NoG (w : World) (v : Option Addr) : Prop := KnAt w v 0 0 0 none none
theorem NoG.below {w w' : World} {v : Option Addr} (h : NoG w v) (hb : Below w.heap.size w w') : NoG w' v := KnAt.below h hb
end Go.Proofs.YtlacmkliofnjcaaDoor
/- The document's numbers of layer 8: By, Add, Sub, Mul, Inv; its Pick. -/
namespace Go.Proofs.YtlacmkliofnjcaaDoor
open Go.RowKit
set_option maxRecDepth 100000 in
set_option maxHeartbeats 2000000 in
theorem rby_core (A QN X : Nat) (q : Int) (w : World)
  (hin : ∀ w', Calls Tryd.prog 23 #[.int .i64 q] w' fun e w2 => e = .returned (.agg (natC QN)) ∧ Below w'.heap.size w' w2)
  (hrm : ∀ w', Calls Tryd.prog 39 #[.agg (natC A), .agg (natC 0), .agg (natC QN)] w' fun e w2 => e = .returned (.tuple #[.agg (natC X), .int .i64 0]) ∧ Below w'.heap.size w' w2)
  (hlo : ∀ w', Calls Tryd.prog 21 #[.agg (natC X)] w' fun e w2 => e = .returned (.tuple #[.int .i64 (X : Nat), .bool true]) ∧ Below w'.heap.size w' w2) :
  Calls Tryd.prog 22 #[.agg (natC A), .int .i64 q] w fun e w' => e = .returned (.int .i64 (X : Nat)) ∧ Below w.heap.size w w' := by
 go_enter Tryd.func22, Tryd.ntmps22
 (repeat ((fail_if_success with_reducible refine rg ?_); go_step))
 refine wp_region_pw ?_
 refine pw_boxr (by rfl) 35 _ rfl (_) rfl ?_
 intro g2 z0 n0 r2 k
 simp only [Act.put, pu]
 have b2 : w.heap.size ≤ g2 := n0
 clear n0
 have sb := k.below w.heap.size (Nat.le_refl _) (by simp)
 clear k
 refine pw_value (by rfl) (.int .i64 0) (fun _ => rfl) ?_
 simp only [Act.put, pu]
 refine pw_nil ?_
 (repeat ((fail_if_success with_reducible refine rg ?_); go_step))
 apply wp_region_mix (by kernel_rfl) [] [_, _, _, _, _, _, _, _, _, _, _] trivial List.nodup_nil
 ·intro p
  refine mx_load 35 _ rfl _ rfl r2 (by simp <;> omega) 4 _ Tryd.underlying35 size_nat ?_
  simp only [Act.put, pu]
  refine mx_val (.agg (natC 0)) (exec_build0 _ rfl _ built_nat) ?_
  simp only [Act.put, pu]
  refine mx_move rfl rfl ?_
  simp only [Act.put, pu]
  refine mx_call 23 _ _ rfl Tryd.func23 (by kernel_rfl) #[.int .i64 q] rfl _ hin ?_
  simp only [Act.put, pu]
  refine mx_call 39 _ _ rfl Tryd.func39 (by kernel_rfl) #[.agg (natC A), .agg (natC 0), .agg (natC QN)] rfl _ hrm ?_
  simp only [Act.put, pu]
  refine mx_move rfl rfl ?_
  simp only [Act.put, pu]
  refine mx_ext rfl rfl rfl ?_
  simp only [Act.put, pu]
  refine mx_ext rfl rfl rfl ?_
  simp only [Act.put, pu]
  refine mx_new 35 rfl _ zero_nat ?_
  simp only [Act.put, pu]
  refine mx_put 17 35 _ _ rfl rfl rfl (natC X) rfl (by exact size_nat) (by simp only [natC_size]) (natC_one _) ?_
  simp only [Act.put]
  refine mx_asg rfl rfl ?_
  simp only [Act.put, pu]
  refine mx_end ?_
  intro w2 hkw hrw hnew hdis
  have n5 := hnew 8 rfl
  have zr5 : Row w2 (p 8) (natC X) 35 := hrw 17 (35, natC X) rfl
  have b5 := Nat.le_trans sb.size n5
  replace sb := sb.trans (hkw.below w.heap.size sb.size (by simp <;> omega))
  clear hkw hrw hnew hdis n5
  generalize p 8 = g5 at *
  have r5 := zr5
  clear zr5
  (repeat ((fail_if_success with_reducible refine rg ?_); go_step))
  refine wp_region_pw ?_
  refine pw_loadm (by rfl) 35 _ rfl _ 0 rfl r5.r _ (part_all _) _ Tryd.underlying35 rfl size_nat ?_
  simp only [Act.put, pu]
  refine pw_callB (by rfl) 21 _ _ rfl Tryd.func21 (by kernel_rfl) #[.agg (natC X)] rfl _ (hlo _) ?_
  intro z2001 k
  simp only [Act.put, pu]
  replace r5 := k.row r5 (by simp <;> omega)
  replace sb := sb.trans (k.below w.heap.size sb.size (by simp <;> omega))
  clear k
  refine pw_mv (by rfl) rfl rfl ?_
  simp only [Act.put, pu]
  refine pw_ext (by rfl) rfl rfl rfl ?_
  simp only [Act.put, pu]
  refine pw_ext (by rfl) rfl rfl rfl ?_
  simp only [Act.put, pu]
  refine pw_as (by rfl) rfl rfl ?_
  simp only [Act.put, pu]
  refine pw_as (by rfl) rfl rfl ?_
  simp only [Act.put, pu]
  refine pw_nil ?_
  (repeat ((fail_if_success with_reducible refine rg ?_); go_step))
  refine wp_region_pw ?_
  refine pw_mv (by rfl) rfl rfl ?_
  simp only [Act.put, pu]
  refine pw_as (by rfl) rfl rfl ?_
  simp only [Act.put, pu]
  refine pw_nil ?_
  go_wp2
  go_ret
  exact ⟨rfl, sb⟩
 ·kernel_rfl
/-- A natural by q. -/
theorem rby_any (A q : Nat) (w : World) (hA : A < 2 ^ 256) (h0 : 0 < q) (hq : q < 4611686018427387904) :
  Calls Tryd.prog 22 #[.agg (natC A), .int .i64 (q : Nat)] w fun e w' => e = .returned (.int .i64 (A % q : Nat)) ∧ Below w.heap.size w w' := by
 have hX := Nat.mod_lt A h0
 refine rby_core A q (A % q) q w (fun w' => ?_) (fun w' => ?_) fun w' => ?_
 ·have := rint_any (q : Int) w' (by omega)
  rw [Int.toNat_natCast] at this
  exact this
 ·have := rrem_any A 0 q w' hA (by decide) (by omega)
  rw [show modZ (0 * 2 ^ 256 + A) q = A % q by unfold modZ; rw [if_neg (by omega), Nat.zero_mul, Nat.zero_add], show errI q = 0 by unfold errI; rw [if_neg (by omega)]] at this
  exact this
 ·have := rlow_any (A % q) w' (by omega)
  rw [show lowI (A % q) = ((A % q : Nat) : Int) from if_pos (by omega), show lowB (A % q) = true from decide_eq_true (by omega)] at this
  exact this
/-- One of the two small groups. -/
def pk2 {α : Type} (b : Bool) (x y : α) : α := if b = true then x else y
set_option maxRecDepth 100000 in
set_option maxHeartbeats 2000000 in
theorem rpick_1 (a0 z : Int) (w : World) (hz : bits .and .i64 a0 1 = z) (h : decide (z = 1) = true) :
  Calls Tryd.prog 20 #[.int .i64 a0] w fun e w' => ∃ g, e = .returned (.agg (paC (some ⟨g, 0, none⟩) 3 3 otG)) ∧ w.heap.size ≤ g ∧ Row w' g (lksC 3 (lN otL) twoA) 66 ∧ Below w.heap.size w w' := by
 go_enter Tryd.func20, Tryd.ntmps20
 (repeat ((fail_if_success with_reducible refine rg ?_); go_step))
 refine wp_region_pw ?_
 refine pw_new (by rfl) 37 rfl _ zero_pa ?_
 intro g2 z0 n0 r2 k
 simp only [Act.put, pu]
 have b2 : w.heap.size ≤ g2 := n0
 clear n0
 have sb := k.below w.heap.size (Nat.le_refl _) (by simp)
 clear k
 refine pw_nil ?_
 (repeat ((fail_if_success with_reducible refine rg ?_); go_step))
 refine wp_region_pw ?_
 refine pw_mv (by rfl) rfl rfl ?_
 simp only [Act.put, pu]
 refine pw_value (by rfl) (.int .i64 z) (fun w' => (exec_bits_i .and _ _ _ _ (.inl rfl) rfl a0 1 rfl rfl w').trans (by rw [hz])) ?_
 simp only [Act.put, pu]
 refine pw_value (by rfl) (.bool true) (exec_eql_k .i64 _ _ _ _ rfl z 1 rfl rfl true h) ?_
 simp only [Act.put, pu]
 refine pw_nil ?_
 (repeat ((fail_if_success with_reducible refine rg ?_); go_step))
 refine wp_region_pw ?_
 refine pw_callE (by rfl) 12 _ _ rfl Tryd.func12 (by kernel_rfl) #[] rfl (rother_any _) ?_
 rintro _ z2000 ⟨gL, rfl, nL, rL, hb⟩
 refine ⟨_, rfl, ?_⟩
 simp only [Act.put, pu]
 have d2xL := Nat.lt_of_lt_of_le r2.lt nL
 have bL := Nat.le_trans sb.size nL
 clear nL
 have k := Kept.ofBelow hb
 clear hb
 replace r2 := k.row r2 (by simp <;> omega)
 replace sb := sb.trans (k.below w.heap.size sb.size (by simp <;> omega))
 clear k
 refine pw_put (by rfl) 37 _ _ rfl _ rfl r2 (paC (some ⟨gL, 0, none⟩) 3 3 otG) rfl (by exact size_pa) (by rfl) (pa_one _ _ _ _) ?_
 clear r2
 intro z2001 r2 k
 simp only [Act.put]
 replace rL := k.row rL (by simp <;> omega)
 replace sb := sb.trans (k.below w.heap.size sb.size (by simp <;> omega))
 clear k
 refine pw_nil ?_
 go_wp2
 exact ret_rowd rfl _ rfl r2 _ Tryd.underlying37 (by exact size_pa) rfl ⟨gL, rfl, bL, rL, sb⟩
set_option maxRecDepth 100000 in
set_option maxHeartbeats 2000000 in
theorem rpick_0 (a0 z : Int) (w : World) (hz : bits .and .i64 a0 1 = z) (h : decide (z = 1) = false) :
  Calls Tryd.prog 20 #[.int .i64 a0] w fun e w' => ∃ g, e = .returned (.agg (paC (some ⟨g, 0, none⟩) 3 3 leG)) ∧ w.heap.size ≤ g ∧ Row w' g (lksC 3 (lN leL) twoA) 66 ∧ Below w.heap.size w w' := by
 go_enter Tryd.func20, Tryd.ntmps20
 (repeat ((fail_if_success with_reducible refine rg ?_); go_step))
 refine wp_region_pw ?_
 refine pw_new (by rfl) 37 rfl _ zero_pa ?_
 intro g2 z0 n0 r2 k
 simp only [Act.put, pu]
 have b2 : w.heap.size ≤ g2 := n0
 clear n0
 have sb := k.below w.heap.size (Nat.le_refl _) (by simp)
 clear k
 refine pw_nil ?_
 (repeat ((fail_if_success with_reducible refine rg ?_); go_step))
 refine wp_region_pw ?_
 refine pw_mv (by rfl) rfl rfl ?_
 simp only [Act.put, pu]
 refine pw_value (by rfl) (.int .i64 z) (fun w' => (exec_bits_i .and _ _ _ _ (.inl rfl) rfl a0 1 rfl rfl w').trans (by rw [hz])) ?_
 simp only [Act.put, pu]
 refine pw_value (by rfl) (.bool false) (exec_eql_k .i64 _ _ _ _ rfl z 1 rfl rfl false h) ?_
 simp only [Act.put, pu]
 refine pw_nil ?_
 (repeat ((fail_if_success with_reducible refine rg ?_); go_step))
 refine wp_region_pw ?_
 refine pw_callE (by rfl) 11 _ _ rfl Tryd.func11 (by kernel_rfl) #[] rfl (rleast_any _) ?_
 rintro _ z3000 ⟨gL, rfl, nL, rL, hb⟩
 refine ⟨_, rfl, ?_⟩
 simp only [Act.put, pu]
 have d2xL := Nat.lt_of_lt_of_le r2.lt nL
 have bL := Nat.le_trans sb.size nL
 clear nL
 have k := Kept.ofBelow hb
 clear hb
 replace r2 := k.row r2 (by simp <;> omega)
 replace sb := sb.trans (k.below w.heap.size sb.size (by simp <;> omega))
 clear k
 refine pw_put (by rfl) 37 _ _ rfl _ rfl r2 (paC (some ⟨gL, 0, none⟩) 3 3 leG) rfl (by exact size_pa) (by rfl) (pa_one _ _ _ _) ?_
 clear r2
 intro z3001 r2 k
 simp only [Act.put]
 replace rL := k.row rL (by simp <;> omega)
 replace sb := sb.trans (k.below w.heap.size sb.size (by simp <;> omega))
 clear k
 refine pw_nil ?_
 go_wp2
 exact ret_rowd rfl _ rfl r2 _ Tryd.underlying37 (by exact size_pa) rfl ⟨gL, rfl, bL, rL, sb⟩
/-- Whether the second of the two is picked. -/
def pkB (a0 : Int) : Bool := decide (bits .and .i64 a0 1 = 1)
theorem rpick_any (a0 : Int) (w : World) :
  Calls Tryd.prog 20 #[.int .i64 a0] w fun e w' => ∃ g, e = .returned (.agg (paC (some ⟨g, 0, none⟩) 3 3 (pk2 (pkB a0) otG leG))) ∧ w.heap.size ≤ g ∧ Row w' g (lksC 3 (lN (pk2 (pkB a0) otL leL)) twoA) 66 ∧ Below w.heap.size w w' := by
 cases h : pkB a0 with
 | true => exact rpick_1 a0 _ w rfl h
 | false => exact rpick_0 a0 _ w rfl h
theorem pk2_gr (b : Bool) : grN 3 (lN (pk2 b otL leL)) twoA (pk2 b otG leG) = true ∧ (∀ i, i < 3 → lN (pk2 b otL leL) i < 2 ^ 256) ∧ pk2 b otG leG < 2 ^ 256 ∧ lN (pk2 b otL leL) (3 - 2) < 4611686018427387904 := by
 cases b with
 | true => exact ⟨other_is, ot_lt, by decide, by decide⟩
 | false => exact ⟨least_is, le_lt, by decide, by decide⟩
end Go.Proofs.YtlacmkliofnjcaaDoor
/- What must come, whatever the arguments are: the check of the laws of layer 8. -/
namespace Go.Proofs.YtlacmkliofnjcaaDoor
open Go.RowKit
theorem le_fd : FdQ 1966023127 := ⟨⟨by decide, by decide, by decide⟩, (grN_primes least_is).2⟩
theorem le_dot : dotN (two2 2 3) (two2 5 7) 1966023127 2 = 31 := by decide +kernel
theorem le_sb : sbN 1 2 1966023127 = 1966023126 := by decide +kernel
theorem le_inv : invZ 9 1966023127 * 9 % 1966023127 = 1 := (inv_is 9 1966023127 (by decide) (by decide +kernel)).2
end Go.Proofs.YtlacmkliofnjcaaDoor
