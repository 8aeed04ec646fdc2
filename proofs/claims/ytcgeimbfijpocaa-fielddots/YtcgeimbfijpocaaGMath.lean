/- Plain mathematics of layer 7: powers by squaring, parameters of a group, the three given ones, the order of G. -/
import Derived.Test.YtcgeimbfijpocaaPMath
import Derived.KernelRfl
namespace Go.Proofs.Ytcgeimbfijpocaa
set_option linter.unusedVariables false
/-- A power by squaring. -/
def pwf (n : Nat) : Nat → Nat → Nat → Nat
 | 0, _, _ => 1 % n
 | f + 1, a, e => if e % 2 = 1 then pwf n f (a * a % n) (e / 2) * a % n else pwf n f (a * a % n) (e / 2)
theorem pwf_eq (n : Nat) : ∀ f a e, e < 2 ^ f → pwf n f a e = a ^ e % n
 | 0, a, e, h => by
  obtain rfl : e = 0 := by simp at h; omega
  unfold pwf
  rw [Nat.pow_zero]
 | f + 1, a, e, h => by
  have h2 : e / 2 < 2 ^ f := by rw [Nat.pow_succ] at h; omega
  unfold pwf
  rw [pwf_eq n f _ _ h2, ← Nat.pow_mod]
  have hsq : (a * a) ^ (e / 2) = a ^ (2 * (e / 2)) := by rw [Nat.pow_mul, Nat.pow_two]
  by_cases ho : e % 2 = 1
  ·rw [if_pos ho, hsq, Nat.mod_mul_mod, ← Nat.pow_succ, show (2 * (e / 2)).succ = e by omega]
  ·rw [if_neg ho, hsq, show 2 * (e / 2) = e by omega]
/-- Step, by squaring. -/
def stC (N F a : Nat) : Bool := decide (2 ≤ a) && (decide (a ≤ 65535) && (mayN N F && (decide (pwf N 256 (pwf N 256 a ((N - 1) / F)) F = 1) && decide (Nat.gcd N (pwf N 256 a ((N - 1) / F) - 1) = 1))))
theorem stN_of {N F a : Nat} (hN : N < 2 ^ 256) (hF : F < 2 ^ 256) (h : stC N F a = true) : stN N F (a : Int) = true := by
 unfold stC at h
 rw [pwf_eq N 256 _ F hF, pwf_eq N 256 a _ (Nat.lt_of_le_of_lt (Nat.le_trans (Nat.div_le_self _ _) (Nat.sub_le _ _)) hN)] at h
 unfold stN shN
 rw [Int.toNat_natCast, show decide ((2 : Int) ≤ (a : Int)) = decide (2 ≤ a) from decide_eq_decide.2 (by omega), show decide ((a : Int) ≤ 65535) = decide (a ≤ 65535) from decide_eq_decide.2 (by omega)]
 exact h
/-- Are parameters a group's? -/
def grN (n : Nat) (N : Nat → Nat) (A : Nat → Int) (G : Nat) : Bool :=
 decide (2 ≤ n) && (chN n N A && (decide (512 ≤ N (n - 2)) && (decide (G ≠ 0) && (decide (G ≠ 1) && (decide (G < N (n - 1)) && decide (G ^ N (n - 2) % N (n - 1) = 1))))))
theorem grN_iff (n : Nat) (N : Nat → Nat) (A : Nat → Int) (G : Nat) : grN n N A G = true ↔ 2 ≤ n ∧ chN n N A = true ∧ 512 ≤ N (n - 2) ∧ G ≠ 0 ∧ G ≠ 1 ∧ G < N (n - 1) ∧ G ^ N (n - 2) % N (n - 1) = 1 := by
 unfold grN
 simp only [Bool.and_eq_true, decide_eq_true_iff]
/-- The three given chains. -/
def leL : List Nat := [65521, 1966023127, 1055500680322183127]
def otL : List Nat := [64817, 1815135269, 487269091447081429]
def grL : List Nat := [65519, 1313918027, 88175567203779761, 6353719225633997551192976661815171, 128868735840905246597005622286753383510486359307609845843856143183]
def leG : Nat := 316543771439780984
def otG : Nat := 54624333139524128
def grG : Nat := 9151157341667469615800997130231454865425018181917904921479972729
def lN (l : List Nat) (k : Nat) : Nat := l.getD k 0
def twoA (k : Nat) : Int := if k = 0 then 0 else 2
/-- What is reckoned of a given chain. -/
def lkB (l : List Nat) : Nat → Bool
 | 0 => true
 | k + 1 => lkB l k && (decide (lN l (k + 1) < 2 ^ 256) && (decide (lN l k < 2 ^ 256) && stC (lN l (k + 1)) (lN l k) 2))
theorem lkN_of (l : List Nat) : ∀ n, lkB l n = true → lkN (lN l) twoA n = true
 | 0, _ => rfl
 | n + 1, h => by
  unfold lkB at h
  rw [Bool.and_eq_true, Bool.and_eq_true, Bool.and_eq_true, decide_eq_true_iff, decide_eq_true_iff] at h
  unfold lkN
  rw [lkN_of l n h.1]
  have := stN_of h.2.1 h.2.2.1 h.2.2.2
  show (true && stN (lN l (n + 1)) (lN l n) ((2 : Nat) : Int)) = true
  rw [this]; rfl
def grC (l : List Nat) (G : Nat) : Bool :=
 decide (2 ≤ l.length) && (decide (l.length ≤ 8) && (smN (lN l 0) && (lkB l (l.length - 1) && (decide (512 ≤ lN l (l.length - 2)) && (decide (lN l (l.length - 2) < 2 ^ 256) && (decide (G ≠ 0) && (decide (G ≠ 1) && (decide (G < lN l (l.length - 1)) && decide (pwf (lN l (l.length - 1)) 256 G (lN l (l.length - 2)) = 1)))))))))
theorem grN_of (l : List Nat) (G : Nat) (h : grC l G = true) : grN l.length (lN l) twoA G = true := by
 unfold grC at h
 simp only [Bool.and_eq_true, decide_eq_true_iff] at h
 obtain ⟨h1, h2, h3, h4, h5, h6, h7, h8, h9, h10⟩ := h
 rw [pwf_eq _ 256 _ _ h6] at h10
 rw [grN_iff]
 refine ⟨h1, ?_, h5, h7, h8, h9, h10⟩
 unfold chN
 rw [h3, lkN_of l _ h4, decide_eq_true h2, decide_eq_true (show 1 ≤ l.length by omega), decide_eq_true (show twoA 0 = 0 from rfl)]
 rfl
set_option maxRecDepth 1000000 in
theorem least_is : grN 3 (lN leL) twoA leG = true := grN_of leL leG (by kernel_rfl)
set_option maxRecDepth 1000000 in
theorem other_is : grN 3 (lN otL) twoA otG = true := grN_of otL otG (by kernel_rfl)
set_option maxRecDepth 1000000 in
theorem great_is : grN 5 (lN grL) twoA grG = true := grN_of grL grG (by kernel_rfl)
/-- The numbers of a group are primes. -/
theorem grN_primes {n : Nat} {N : Nat → Nat} {A : Nat → Int} {G : Nat} (h : grN n N A G = true) : IsP (N (n - 1)) ∧ IsP (N (n - 2)) := by
 obtain ⟨h1, h2, _⟩ := (grN_iff n N A G).1 h
 exact ⟨chN_isP h2 _ (by omega), chN_isP h2 _ (by omega)⟩
/-- Powers by the order. -/
theorem pow_by {p q g : Nat} (hp : 2 ≤ p) (h : g ^ q % p = 1) (a : Nat) : g ^ a % p = g ^ (a % q) % p := by
 have h1 : g ^ q % p = 1 % p := by rw [h, Nat.mod_eq_of_lt (by omega)]
 have e : g ^ a = g ^ (q * (a / q)) * g ^ (a % q) := by rw [← Nat.pow_add, Nat.div_add_mod]
 rw [e, Nat.mul_mod, pow_mod_one h1, ← Nat.mul_mod, Nat.one_mul]
theorem pow_order {p q g : Nat} (hp : 2 ≤ p) (h : g ^ q % p = 1) (a : Nat) : (g ^ a % p) ^ q % p = 1 := by
 have h1 : g ^ q % p = 1 % p := by rw [h, Nat.mod_eq_of_lt (by omega)]
 rw [← Nat.pow_mod, ← Nat.pow_mul, Nat.mul_comm, pow_mod_one h1, Nat.mod_eq_of_lt (by omega)]
theorem gr_order {p q g : Nat} (hp : IsP p) (hq : IsP q) (h0 : g ≠ 0) (h1 : g ≠ 1) (hlt : g < p) (hpow : g ^ q % p = 1) (a b : Nat) : g ^ a % p = g ^ b % p ↔ a % q = b % q := by
 have hp2 := hp.1
 have hone : 1 % p = 1 := Nat.mod_eq_of_lt hp2
 have hnd : ¬ p ∣ g := fun h => by have := Nat.le_of_dvd (by omega) h; omega
 have hndp : ∀ k, ¬ p ∣ g ^ k := by
  intro k
  induction k with
  | zero => intro h; have := Nat.le_of_dvd (by simp) h; simp at this; omega
  | succ k ih =>
   intro h
   rw [Nat.pow_succ] at h
   rcases isP_mul hp h with h | h
   ·exact ih h
   ·exact hnd h
 have key : ∀ {a b : Nat}, a ≤ b → g ^ a % p = g ^ b % p → a % q = b % q := by
  intro a b hab he
  have h2 : g ^ (b - a) % p = 1 := by
   have e : 1 * g ^ a % p = g ^ (b - a) * g ^ a % p := by rw [Nat.one_mul, ← Nat.pow_add, show b - a + a = b by omega]; exact he
   rw [← hone]; exact (mod_cancel hp (hndp a) e).symm
  rw [mod_dvd hab]
  rcases hq.2 _ (Nat.gcd_dvd_left q (b - a)) with hg | hg
  ·have h3 := pow_gcd (b := g) (q := p) q (b - a) (by rw [hpow, hone]) (by rw [h2, hone])
   rw [hg, Nat.pow_one, hone, Nat.mod_eq_of_lt hlt] at h3
   exact absurd h3 h1
  ·rw [← hg]; exact Nat.gcd_dvd_right q (b - a)
 constructor
 ·intro he
  rcases Nat.le_total a b with hab | hab
  ·exact key hab he
  ·exact (key hab he.symm).symm
 ·intro he
  rw [pow_by hp2 hpow a, pow_by hp2 hpow b, he]
end Go.Proofs.Ytcgeimbfijpocaa
