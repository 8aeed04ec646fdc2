/- Plain mathematics of layer 8: sums, differences, products and inverses by a prime. -/
import Derived.Test.YtdemabfpcepnfaaDoorGI
import Derived.Test.YtdemabfpcepnfaaDoorGH
import Derived.Test.YtdemabfpcepnfaaDoorPM
import Derived.Test.YtdemabfpcepnfaaDoorGW
import Derived.Test.YtdemabfpcepnfaaDoorMNobody
import Derived.Test.YtdemabfpcepnfaaDoorGT
import Derived.Test.YtdemabfpcepnfaaDoorWI
import Derived.Test.YtdemabfpcepnfaaDoorMPow
import Derived.Test.YtdemabfpcepnfaaDoorGO
import Derived.Test.YtdemabfpcepnfaaDoorGAwake
namespace Go.Proofs.YtdemabfpcepnfaaDoor
/-- A difference by q. -/
def sbN (A B q : Nat) : Nat := (A % q + (q - B % q)) % q
/-- The sum of products of the first k. -/
def dotN (a b : Nat → Nat) (q : Nat) : Nat → Nat
 | 0 => 0
 | k + 1 => (dotN a b q k + a k * b k % q) % q
theorem dotN_lt (a b : Nat → Nat) (q : Nat) (h : 0 < q) : ∀ k, dotN a b q k < q
 | 0 => h
 | _ + 1 => Nat.mod_lt _ h
theorem subZ_sb (A B q : Nat) (h : 0 < q) : subZ A B q = sbN A B q := if_neg (by omega)
theorem sb_of (x y q : Nat) (hx : x < q) (hy : y < q) : (x + q - y) % q = sbN x y q := by
 unfold sbN
 rw [Nat.mod_eq_of_lt hx, Nat.mod_eq_of_lt hy, Nat.add_sub_assoc (by omega)]
theorem sbN_mod (A B q : Nat) : sbN (A % q) (B % q) q = sbN A B q := by
 unfold sbN
 rw [Nat.mod_mod, Nat.mod_mod]
/-- What is added can be taken away again. -/
theorem sb_add (A B q : Nat) (h : 0 < q) : sbN ((A + B) % q) B q = (A + 0) % q := by
 unfold sbN
 rw [Nat.mod_mod, Nat.add_zero]
 have hb := Nat.mod_lt B h
 have e : (A + B) % q + (q - B % q) = (A + B) % q + (q - B % q) := rfl
 calc ((A + B) % q + (q - B % q)) % q = (A + B + (q - B % q)) % q := Nat.mod_add_mod _ _ _
  _ = (A + q * (B / q) + q) % q := by
   congr 1
   have := Nat.div_add_mod B q
   omega
  _ = A % q := by rw [Nat.add_mod_right, Nat.add_mul_mod_self_left]
theorem add_assoc_q (A B C q : Nat) : ((A + B) % q + C) % q = (A + (B + C) % q) % q := by
 rw [Nat.mod_add_mod, Nat.add_mod_mod, Nat.add_assoc]
theorem mul_assoc_q (A B C q : Nat) : A * B % q * C % q = A * (B * C % q) % q := by
 rw [Nat.mod_mul_mod, Nat.mul_mod_mod, Nat.mul_assoc]
theorem over_q (A B C q : Nat) : A * ((B + C) % q) % q = (A * B % q + A * C % q) % q := by
 rw [Nat.mul_mod_mod, Nat.mul_add, ← Nat.add_mod]
/-- The inverse of what is 0 by a prime. -/
theorem inv_0 {A q : Nat} (hq : IsP q) (h : A % q = 0) : invZ A q = 0 := by
 unfold invZ
 rw [if_neg (by have := hq.1; omega), if_neg]
 intro hg
 have hd : q ∣ Nat.gcd A q := Nat.dvd_gcd (Nat.dvd_of_mod_eq_zero h) (Nat.dvd_refl q)
 rw [hg] at hd
 have := Nat.le_of_dvd (by decide) hd
 have := hq.1
 omega
theorem inv_gcd {A q : Nat} (hq : IsP q) (h : A % q ≠ 0) : Nat.gcd A q = 1 := by
 rw [Nat.gcd_comm]
 exact isP_coprime hq fun hd => h (Nat.mod_eq_zero_of_dvd hd)
/-- The inverse of what is not 0 by a prime. -/
theorem inv_1 {A q : Nat} (hq : IsP q) (h : A % q ≠ 0) : A * invZ A q % q = 1 := by
 rw [Nat.mul_comm]
 exact (inv_is A q hq.1 (inv_gcd hq h)).2
theorem inv_lt (A q : Nat) (hq : IsP q) : invZ A q < q := by
 by_cases h : A % q = 0
 ·rw [inv_0 hq h]
  have := hq.1
  omega
 ·exact (inv_is A q hq.1 (inv_gcd hq h)).1
/-- The document's inverse. -/
def ivN (x q : Nat) : Nat := if x = 0 then 0 else x ^ (q - 2) % q
theorem iv_is {A q : Nat} (hq : IsP q) : invZ A q = ivN (A % q) q := by
 unfold ivN
 by_cases h : A % q = 0
 ·rw [if_pos h, inv_0 hq h]
 ·have h2 := hq.1
  rw [if_neg h]
  have e : invZ A q = invV A q := by
   unfold invZ
   rw [if_neg (by omega), if_pos (inv_gcd hq h)]
  rw [e]
  refine inv_unique A q _ (Nat.mod_lt _ (by omega)) ?_
  have hd : ¬ q ∣ A := fun hd => h (Nat.mod_eq_zero_of_dvd hd)
  rw [← Nat.pow_mod, Nat.mod_mul_mod, ← Nat.pow_succ, show (q - 2).succ = q - 1 by omega]
  exact fermat hq hd
end Go.Proofs.YtdemabfpcepnfaaDoor
/- field's In, Add, Sub, Mul, Inv, Dot: of a group that New has made, and of one that nobody made. -/
namespace Go.Proofs.YtdemabfpcepnfaaDoor
open Go.RowKit
theorem ptr_ring8 : Tryd.prog.underlying 30 = some (.pointer (Tryd.prog.pointee 30)) := by kernel_rfl
/-- A group whose field's ring can be used. -/
structure FdQ (Q : Nat) : Prop extends RgQ Q where
 pr : IsP Q
theorem FdQ.pos {Q : Nat} (h : FdQ Q) : 0 < Q := Nat.lt_of_lt_of_le (by decide) h.two
/-- Of a group that nobody made. -/
def NoG (w : World) (v : Option Addr) : Prop := KnAt w v 0 0 0 none none
theorem NoG.below {w w' : World} {v : Option Addr} (h : NoG w v) (hb : Below w.heap.size w w') : NoG w' v := KnAt.below h hb
end Go.Proofs.YtdemabfpcepnfaaDoor
/- The document's numbers of layer 8: By, Add, Sub, Mul, Inv; its Pick. -/
namespace Go.Proofs.YtdemabfpcepnfaaDoor
open Go.RowKit
/-- One of the two small groups. -/
def pk2 {α : Type} (b : Bool) (x y : α) : α := if b = true then x else y
/-- Whether the second of the two is picked. -/
def pkB (a0 : Int) : Bool := decide (bits .and .i64 a0 1 = 1)
theorem pk2_gr (b : Bool) : grN 3 (lN (pk2 b otL leL)) twoA (pk2 b otG leG) = true ∧ (∀ i, i < 3 → lN (pk2 b otL leL) i < 2 ^ 256) ∧ pk2 b otG leG < 2 ^ 256 ∧ lN (pk2 b otL leL) (3 - 2) < 4611686018427387904 := by
 cases b with
 | true => exact ⟨other_is, ot_lt, by decide, by decide⟩
 | false => exact ⟨least_is, le_lt, by decide, by decide⟩
end Go.Proofs.YtdemabfpcepnfaaDoor
/- What must come, whatever the arguments are: the check of the laws of layer 8. -/
namespace Go.Proofs.YtdemabfpcepnfaaDoor
open Go.RowKit
theorem le_fd : FdQ 1966023127 := ⟨⟨by decide, by decide, by decide⟩, (grN_primes least_is).2⟩
theorem le_dot : dotN (two2 2 3) (two2 5 7) 1966023127 2 = 31 := by decide +kernel
theorem le_sb : sbN 1 2 1966023127 = 1966023126 := by decide +kernel
theorem le_inv : invZ 9 1966023127 * 9 % 1966023127 = 1 := (inv_is 9 1966023127 (by decide) (by decide +kernel)).2
end Go.Proofs.YtdemabfpcepnfaaDoor
