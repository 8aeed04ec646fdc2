/- Floats by their bits: which are no numbers, their ranks, and that Ieee's order goes by ranks. -/
import Ieee.Arith
namespace Go.Proofs.Ytonppckllfamiaa
set_option linter.unusedVariables false
open Ieee
/-- Are bits those of no number? -/
def nn (b : Nat) : Bool := decide (9218868437227405312 < b % 9223372036854775808)
/-- The rank of the float of bits. -/
def rnk (b : Nat) : Int := if nn b = true then 9223372036854775807 else if b < 9223372036854775808 then b else -1 - ((b - 9223372036854775808 : Nat) : Int)
/-- How great a float is, without its sign, in least steps. -/
def mgn (r : Nat) : Nat := if r < 4503599627370496 then r else (4503599627370496 + r % 4503599627370496) * 2 ^ (r / 4503599627370496 - 1)
theorem mgn_mono {r s : Nat} (h : r ≤ s) : mgn r ≤ mgn s := by
 unfold mgn
 by_cases h1 : s < 4503599627370496
 ·rw [if_pos h1, if_pos (by omega)]; exact h
 ·rw [if_neg h1]
  have hp : 0 < 2 ^ (s / 4503599627370496 - 1) := Nat.two_pow_pos _
  by_cases h2 : r < 4503599627370496
  ·rw [if_pos h2]
   exact Nat.le_trans (by omega) (Nat.le_mul_of_pos_right (4503599627370496 + s % 4503599627370496) hp)
  ·rw [if_neg h2]
   by_cases e : r / 4503599627370496 = s / 4503599627370496
   ·rw [e]; exact Nat.mul_le_mul_right _ (by omega)
   ·have hlt : r / 4503599627370496 - 1 + 1 ≤ s / 4503599627370496 - 1 := by omega
    have h3 : 2 ^ (r / 4503599627370496 - 1 + 1) ≤ 2 ^ (s / 4503599627370496 - 1) := Nat.pow_le_pow_right (by decide) hlt
    rw [Nat.pow_succ] at h3
    calc (4503599627370496 + r % 4503599627370496) * 2 ^ (r / 4503599627370496 - 1)
      ≤ (4503599627370496 * 2) * 2 ^ (r / 4503599627370496 - 1) := Nat.mul_le_mul_right _ (by omega)
     _ = 4503599627370496 * (2 ^ (r / 4503599627370496 - 1) * 2) := by rw [Nat.mul_assoc, Nat.mul_comm 2]
     _ ≤ 4503599627370496 * 2 ^ (s / 4503599627370496 - 1) := Nat.mul_le_mul_left _ h3
     _ ≤ (4503599627370496 + s % 4503599627370496) * 2 ^ (s / 4503599627370496 - 1) := Nat.mul_le_mul_right _ (by omega)
theorem mgn_lt {r s : Nat} (h : mgn r < mgn s) : r < s := by
 rcases Nat.lt_or_ge r s with h1 | h1
 ·exact h1
 ·exact absurd (mgn_mono h1) (by omega)
def sgn (b : Nat) : Bool := b / 9223372036854775808 % 2 == 1
theorem dbl_sw : double.signWeight = 9223372036854775808 := by decide
theorem dbl_bin : double.binade = 4503599627370496 := by decide
theorem dbl_inf : double.infRung = 9218868437227405312 := by decide
theorem read_num (b : Nat) (h : b % 9223372036854775808 < 9218868437227405312) : ∃ m x : Nat, double.read b = .number (sgn b) m (double.leastPlace + (x : Int)) ∧ m * 2 ^ x = mgn (b % 9223372036854775808) := by
 unfold Format.read mgn
 simp only [dbl_sw, dbl_bin, dbl_inf]
 by_cases h1 : b % 9223372036854775808 < 4503599627370496
 ·rw [if_pos h1, if_pos h1]
  exact ⟨b % 9223372036854775808, 0, by simp [sgn], by simp⟩
 ·rw [if_neg h1, if_pos h, if_neg h1]
  exact ⟨_, _, rfl, rfl⟩
theorem read_inf (b : Nat) (h : b % 9223372036854775808 = 9218868437227405312) : double.read b = .infinity (sgn b) := by
 unfold Format.read
 simp only [dbl_sw, dbl_bin, dbl_inf, h]
 simp [sgn]
theorem read_nan (b : Nat) (h : 9218868437227405312 < b % 9223372036854775808) : ∃ s f, double.read b = .nan s f := by
 unfold Format.read
 simp only [dbl_sw, dbl_bin, dbl_inf]
 rw [if_neg (by omega), if_neg (by omega), if_neg (by omega)]
 exact ⟨_, _, rfl⟩
theorem sgn_lt {b : Nat} (hb : b < 18446744073709551616) : sgn b = decide (9223372036854775808 ≤ b) := by
 unfold sgn
 by_cases h : 9223372036854775808 ≤ b
 ·rw [show b / 9223372036854775808 = 1 by omega]; simp [h]
 ·rw [show b / 9223372036854775808 = 0 by omega]; simp [h]
theorem rnk_pos {b : Nat} (hn : nn b = false) (h : b < 9223372036854775808) : rnk b = ((b % 9223372036854775808 : Nat) : Int) := by
 unfold rnk
 rw [hn, if_neg (by decide), if_pos h, Nat.mod_eq_of_lt h]
theorem rnk_neg {b : Nat} (hn : nn b = false) (h : 9223372036854775808 ≤ b) (hb : b < 18446744073709551616) : rnk b = -1 - ((b % 9223372036854775808 : Nat) : Int) := by
 unfold rnk
 rw [hn, if_neg (by decide), if_neg (by omega), show b % 9223372036854775808 = b - 9223372036854775808 by omega]
theorem rnk_nan {b : Nat} (hn : nn b = true) : rnk b = 9223372036854775807 := if_pos hn
theorem nn_le {b : Nat} (hn : nn b = false) : b % 9223372036854775808 ≤ 9218868437227405312 := by
 have := of_decide_eq_false hn
 omega
theorem nn_lt {b : Nat} (hn : nn b = true) : 9218868437227405312 < b % 9223372036854775808 := of_decide_eq_true hn
theorem scaled (s : Bool) (m x k : Nat) (hk : k ≤ x) : signed s m (x - k) * ((2 ^ k : Nat) : Int) = if s then -((m * 2 ^ x : Nat) : Int) else ((m * 2 ^ x : Nat) : Int) := by
 unfold signed
 have e : m <<< (x - k) * 2 ^ k = m * 2 ^ x := by
  rw [Nat.shiftLeft_eq, Nat.mul_assoc, ← Nat.pow_add, show x - k + k = x by omega]
 cases s
 ·simp only [Bool.false_eq_true, if_false]
  rw [← Int.natCast_mul, e]
 ·simp only [if_true]
  rw [Int.neg_mul, ← Int.natCast_mul, e]
theorem ord_num (s t : Bool) (m n x y : Nat) (L : Int) : (Datum.number s m (L + (x : Int))).order (.number t n (L + (y : Int))) = some (compare (if s then -((m * 2 ^ x : Nat) : Int) else ((m * 2 ^ x : Nat) : Int)) (if t then -((n * 2 ^ y : Nat) : Int) else ((n * 2 ^ y : Nat) : Int))) := by
 have hp : (0 : Int) < ((2 ^ min x y : Nat) : Int) := by exact Int.natCast_pos.2 (Nat.two_pow_pos _)
 unfold Datum.order
 dsimp only
 rw [show L + (x : Int) - min (L + (x : Int)) (L + (y : Int)) = ((x - min x y : Nat) : Int) by omega, show L + (y : Int) - min (L + (x : Int)) (L + (y : Int)) = ((y - min x y : Nat) : Int) by omega, Int.toNat_natCast, Int.toNat_natCast]
 rw [← scaled s m x (min x y) (Nat.min_le_left _ _), ← scaled t n y (min x y) (Nat.min_le_right _ _)]
 congr 1
 generalize signed s m (x - min x y) = A
 generalize signed t n (y - min x y) = B
 generalize ((2 ^ min x y : Nat) : Int) = p at hp
 rcases Int.lt_trichotomy A B with h | h | h
 ·rw [Int.compare_eq_lt.2 h, Int.compare_eq_lt.2 (Int.mul_lt_mul_of_pos_right h hp)]
 ·rw [h]; simp
 ·rw [Int.compare_eq_gt.2 h, Int.compare_eq_gt.2 (Int.mul_lt_mul_of_pos_right h hp)]
/-- How ranks stand. -/
theorem ord_rnk {a b : Nat} (ha : a < 18446744073709551616) (hb : b < 18446744073709551616) : (double.order a b = some .lt → rnk a < rnk b) ∧ (double.order a b = some .gt → rnk b < rnk a) := by
 unfold Format.order
 cases na : nn a with
 | true =>
  obtain ⟨s, f, e⟩ := read_nan a (nn_lt na)
  rw [e]
  simp [Datum.order]
 | false =>
 cases nb : nn b with
 | true =>
  obtain ⟨s, f, e⟩ := read_nan b (nn_lt nb)
  rw [e]
  cases double.read a <;> simp [Datum.order]
 | false =>
 have la := nn_le na
 have lb := nn_le nb
 have ra : rnk a = if sgn a = true then -1 - ((a % 9223372036854775808 : Nat) : Int) else ((a % 9223372036854775808 : Nat) : Int) := by
  rw [sgn_lt ha]
  by_cases h : 9223372036854775808 ≤ a
  ·rw [rnk_neg na h ha]; simp [h]
  ·rw [rnk_pos na (by omega)]; simp [h]
 have rb : rnk b = if sgn b = true then -1 - ((b % 9223372036854775808 : Nat) : Int) else ((b % 9223372036854775808 : Nat) : Int) := by
  rw [sgn_lt hb]
  by_cases h : 9223372036854775808 ≤ b
  ·rw [rnk_neg nb h hb]; simp [h]
  ·rw [rnk_pos nb (by omega)]; simp [h]
 rw [ra, rb]
 generalize hra : a % 9223372036854775808 = r at *
 generalize hrb : b % 9223372036854775808 = q at *
 generalize hsa : sgn a = s at *
 generalize hsb : sgn b = t at *
 by_cases ia : r = 9218868437227405312
 ·have e1 := read_inf a (by omega)
  rw [e1, hsa]
  by_cases ib : q = 9218868437227405312
  ·rw [read_inf b (by omega), hsb]
   have c1 : (compare 1 0 : Ordering) = .gt := by decide
   have c2 : (compare 0 1 : Ordering) = .lt := by decide
   cases s <;> cases t <;> simp [Datum.order, c1, c2] <;> omega
  ·obtain ⟨m, x, e2, _⟩ := read_num b (by omega)
   rw [e2, hsb]
   cases s <;> cases t <;> simp [Datum.order] <;> omega
 ·obtain ⟨m, x, e1, hm⟩ := read_num a (by omega)
  rw [e1, hsa]
  by_cases ib : q = 9218868437227405312
  ·rw [read_inf b (by omega), hsb]
   cases s <;> cases t <;> simp [Datum.order] <;> omega
  ·obtain ⟨n, y, e2, hn⟩ := read_num b (by omega)
   rw [e2, hsb, ord_num, hm, hn, hra, hrb]
   have h1 : mgn r < mgn q → r < q := mgn_lt
   have h2 : mgn q < mgn r → q < r := mgn_lt
   simp only [Option.some.injEq, Int.compare_eq_lt, Int.compare_eq_gt]
   generalize mgn r = A at *
   generalize mgn q = B at *
   cases s <;> cases t <;> simp <;> omega
theorem ord_nan {a b : Nat} (h : nn a = true) : double.order a b = none := by
 unfold Format.order
 obtain ⟨s, f, e⟩ := read_nan a (nn_lt h)
 rw [e]
 rfl
theorem ord_self {a : Nat} (h : nn a = false) : double.order a a = some .eq := by
 unfold Format.order
 by_cases ia : a % 9223372036854775808 = 9218868437227405312
 ·rw [read_inf a ia]
  simp [Datum.order]
 ·obtain ⟨m, x, e1, hm⟩ := read_num a (by have := nn_le h; omega)
  rw [e1, ord_num]
  simp
/-- A float is not itself just if it is no number. -/
theorem neq_self (a : Nat) : (double.order a a != some .eq) = nn a := by
 cases h : nn a with
 | true => rw [ord_nan h]; rfl
 | false => rw [ord_self h]; rfl
theorem eql_self (a : Nat) : (double.order a a == some .eq) = !nn a := by
 rw [← neq_self]; simp [bne]
theorem rnk_lt {b : Nat} (hb : b < 18446744073709551616) : -9218868437227405313 ≤ rnk b ∧ (nn b = false → rnk b ≤ 9218868437227405312) ∧ rnk b ≤ 9223372036854775807 := by
 cases h : nn b with
 | true => rw [rnk_nan h]; exact ⟨by decide, (fun e => Bool.noConfusion e), by decide⟩
 | false =>
  have hl := nn_le h
  by_cases h1 : b < 9223372036854775808
  ·rw [rnk_pos h h1]; omega
  ·rw [rnk_neg h (by omega) hb]; omega
/-- Floats of one rank that are numbers have the same bits. -/
theorem rnk_inj {a b : Nat} (ha : a < 18446744073709551616) (hb : b < 18446744073709551616) (hn : nn a = false) (h : rnk a = rnk b) : a = b := by
 cases nb : nn b with
 | true =>
  have := (rnk_lt ha).2.1 hn
  rw [h, rnk_nan nb] at this
  omega
 | false =>
  by_cases h1 : a < 9223372036854775808 <;> by_cases h2 : b < 9223372036854775808
  ·rw [rnk_pos hn h1, rnk_pos nb h2] at h; omega
  ·rw [rnk_pos hn h1, rnk_neg nb (by omega) hb] at h; omega
  ·rw [rnk_neg hn (by omega) ha, rnk_pos nb h2] at h; omega
  ·rw [rnk_neg hn (by omega) ha, rnk_neg nb (by omega) hb] at h; omega
theorem nn_inf : nn 9218868437227405312 = false := by decide
/-- Above the greatest number is just the infinity. -/
theorem gt_max {b : Nat} (hb : b < 18446744073709551616) : (double.order b 9218868437227405311 == some .gt) = decide (b = 9218868437227405312) := by
 by_cases h : b = 9218868437227405312
 ·subst h; decide
 ·rw [decide_eq_false h]
  cases nb : nn b with
  | true => rw [ord_nan nb]; rfl
  | false =>
   rw [beq_eq_false_iff_ne]
   intro e
   have h1 := (ord_rnk hb (by decide)).2 e
   have h2 : rnk 9218868437227405311 = 9218868437227405311 := by decide
   rw [h2] at h1
   have h3 := (rnk_lt hb).2.1 nb
   by_cases h4 : b < 9223372036854775808
   ·rw [rnk_pos nb h4] at h1 h3; omega
   ·rw [rnk_neg nb (by omega) hb] at h1; omega
/-- The bits of the float of a rank. -/
def ofr (z : Int) : Nat := if 0 ≤ z then z.toNat else 9223372036854775808 + (-1 - z).toNat
theorem ofr_lt {z : Int} (h1 : -9218868437227405313 ≤ z) (h2 : z ≤ 9218868437227405312) : ofr z < 18446744073709551616 := by
 unfold ofr
 split <;> omega
theorem ofr_nn {z : Int} (h1 : -9218868437227405313 ≤ z) (h2 : z ≤ 9218868437227405312) : nn (ofr z) = false := by
 unfold ofr nn
 rw [decide_eq_false_iff_not]
 split <;> omega
theorem ofr_rnk {z : Int} (h1 : -9218868437227405313 ≤ z) (h2 : z ≤ 9218868437227405312) : rnk (ofr z) = z := by
 have hn := ofr_nn h1 h2
 by_cases h : 0 ≤ z
 ·have e : ofr z = z.toNat := if_pos h
  rw [rnk_pos hn (by rw [e]; omega), e]; omega
 ·have e : ofr z = 9223372036854775808 + (-1 - z).toNat := if_neg h
  rw [rnk_neg hn (by rw [e]; omega) (ofr_lt h1 h2), e]; omega
/-- Which stands ahead: -1, 0, 1. -/
def cpz (x y : Int) : Int := if x < y then -1 else if x > y then 1 else 0
theorem cpz_lt (x y : Int) : cpz x y < 0 ↔ x < y := by unfold cpz; repeat' split <;> omega
end Go.Proofs.Ytonppckllfamiaa
