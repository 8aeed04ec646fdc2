/- Polynomials over the numbers below a prime, as lists of coefficients (the one of the 0th power first): plain mathematics. -/
import Derived.Test.YtojobffihlmfgaaPM
import Derived.Test.YtojobffihlmfgaaFA
namespace Go.Proofs.Ytojobffihlmfgaa
set_option linter.unusedSectionVars false
section
variable {q : Nat} [NeZero q]
/-- A polynomial at a place. -/
def pev (x : Fin q) : List (Fin q) → Fin q
 | [] => 0
 | c :: t => c + x * pev x t
/-- What is left where the root a is taken out. -/
def pdv (a : Fin q) : List (Fin q) → List (Fin q)
 | [] => []
 | [_] => []
 | _ :: d :: t => pev a (d :: t) :: pdv a (d :: t)
/-- A coefficient; 0, if there is none. -/
def pco (f : List (Fin q)) (i : Nat) : Fin q := f.getD i 0
/-- A sum of polynomials. -/
def padd : List (Fin q) → List (Fin q) → List (Fin q)
 | [], g => g
 | f, [] => f
 | c :: t, d :: u => (c + d) :: padd t u
/-- A polynomial times a number. -/
def pscl (c : Fin q) (f : List (Fin q)) : List (Fin q) := f.map (c * ·)
/-- A polynomial, trimmed. -/
def ptrim : List (Fin q) → List (Fin q)
 | [] => []
 | c :: t => if ptrim t = [] ∧ c = 0 then [] else c :: ptrim t
/-- A product of polynomials, not trimmed. -/
def pcv : List (Fin q) → List (Fin q) → List (Fin q)
 | [], _ => []
 | c :: t, g => padd (pscl c g) (0 :: pcv t g)
/-- A sum of the first n. -/
def psm (f : Nat → Fin q) : Nat → Fin q
 | 0 => 0
 | n + 1 => psm f n + f n
end
end Go.Proofs.Ytojobffihlmfgaa
/- The polynomial through places: the document's sum of those that are 0 at all places but one; it is the only one. Plain mathematics. -/
namespace Go.Proofs.Ytojobffihlmfgaa
set_option linter.unusedSectionVars false
section
variable {q : Nat} [NeZero q]
/-- A product, trimmed. -/
def pmul (f g : List (Fin q)) : List (Fin q) := if f = [] ∨ g = [] then [] else ptrim (pcv f g)
/-- A sum, trimmed. -/
def psum (f g : List (Fin q)) : List (Fin q) := ptrim (padd f g)
/-- The one that is y at the i-th place, and 0 at all others of the first k. -/
def plg (iv : Fin q → Fin q) (xs : Nat → Fin q) (y : Fin q) (i : Nat) : Nat → List (Fin q)
 | 0 => [y]
 | k + 1 => if k = i then plg iv xs y i k else pmul (plg iv xs y i k) [(0 - xs k) * iv (xs i - xs k), iv (xs i - xs k)]
/-- The sum of the first m of these, of n places. -/
def pthr (iv : Fin q → Fin q) (xs ys : Nat → Fin q) (n : Nat) : Nat → List (Fin q)
 | 0 => []
 | i + 1 => psum (pthr iv xs ys n i) (plg iv xs (ys i) i n)
end
end Go.Proofs.Ytojobffihlmfgaa
/- Polynomials that are the same as given numbers at all places but few: there is at most one. The numbers below q as naturals. Plain mathematics. -/
namespace Go.Proofs.Ytojobffihlmfgaa
set_option linter.unusedSectionVars false
section
variable {q : Nat} [NeZero q]
/-- At how many of the first n places a polynomial is not what it ought to be. -/
def poff (xs ys : Nat → Fin q) (n : Nat) (f : List (Fin q)) : Nat := (List.range n).countP fun j => decide (pev (xs j) f ≠ ys j)
/-- A natural, by q. -/
def fi (A : Nat) : Fin q := Fin.ofNat q A
/-- Naturals by q, as a list. -/
def fl (n : Nat) (f : Nat → Nat) : List (Fin q) := (List.range n).map fun i => fi (f i)
/-- A polynomial at a place, as a sum. -/
def ppw (x : Fin q) : Nat → Fin q
 | 0 => 1
 | n + 1 => ppw x n * x
end
end Go.Proofs.Ytojobffihlmfgaa
/- Polynomials as the code makes them, number by number, and what they are over the numbers below a prime: plain mathematics. -/
namespace Go.Proofs.Ytojobffihlmfgaa
set_option linter.unusedSectionVars false
/-- What a layer below tells of numbers: sums, products, differences, inverses. -/
structure FO where
 ad : Nat → Nat → Nat
 mu : Nat → Nat → Nat
/-- How many coefficients are left where those at the end that are 0 are left out. -/
def yTn (F : Nat → Nat) : Nat → Nat
 | 0 => 0
 | n + 1 => if F n = 0 then yTn F n else n + 1
/-- What a polynomial of n is at x, behind k steps. -/
def yHv (o : FO) (F : Nat → Nat) (n x : Nat) : Nat → Nat
 | 0 => 0
 | k + 1 => o.ad (o.mu (yHv o F n x k) x) (F (n - 1 - k))
/-- A coefficient: 0 behind the last one. -/
def yCf (n : Nat) (F : Nat → Nat) (k : Nat) : Nat := if k < n then F k else 0
/-- A sum of j products, from lo on. -/
def yCv (o : FO) (F G : Nat → Nat) (k lo : Nat) : Nat → Nat
 | 0 => 0
 | j + 1 => o.ad (yCv o F G k lo j) (o.mu (F (lo + j)) (G (k - (lo + j))))
/-- Coefficients as Trim tells them; as Add does; as Mul does. -/
def yTm (o : FO) (F : Nat → Nat) (k : Nat) : Nat := o.ad (F k) 0
def ySm (o : FO) (n : Nat) (F : Nat → Nat) (m : Nat) (G : Nat → Nat) (k : Nat) : Nat := o.ad (yCf n F k) (yCf m G k)
def yMl (o : FO) (n : Nat) (F : Nat → Nat) (m : Nat) (G : Nat → Nat) (k : Nat) : Nat := yCv o F G k (k + 1 - m) (min n (k + 1) - (k + 1 - m))
/-- By q; nobody's. -/
def fO (q : Nat) : FO := ⟨fun A B => (A + B) % q, fun A B => A * B % q⟩
def nO : FO := ⟨fun _ _ => 0, fun _ _ => 0⟩
section
variable {q : Nat} [NeZero q]
/-- A division's steps: what is left, and how often. -/
def yDv (q m d : Nat) (B : Nat → Nat) (iv : Nat) (R0 : Nat → Nat) : Nat → (Nat → Nat) × (Nat → Nat)
 | 0 => (R0, fun _ => 0)
 | k + 1 => ((fun i => if d - 1 - k ≤ i ∧ i < d - 1 - k + m then sbN ((yDv q m d B iv R0 k).1 i) (B (i - (d - 1 - k)) * ((yDv q m d B iv R0 k).1 (d - 1 - k + m - 1) * iv % q) % q) q else (yDv q m d B iv R0 k).1 i),
  (fun i => if i = d - 1 - k then (yDv q m d B iv R0 k).1 (d - 1 - k + m - 1) * iv % q else (yDv q m d B iv R0 k).2 i))
/-- The polynomial that is 0 at the first k places; the one through them. -/
def tGo (xs : Nat → Fin q) : Nat → List (Fin q)
 | 0 => [1]
 | k + 1 => pmul (tGo xs k) [0 - xs k, 1]
def tTh (iv : Fin q → Fin q) (xs ys : Nat → Fin q) : Nat → List (Fin q)
 | 0 => []
 | k + 1 => psum (tTh iv xs ys k) (pmul (tGo xs k) [(ys k - pev (xs k) (tTh iv xs ys k)) * iv (pev (xs k) (tGo xs k))])
end
end Go.Proofs.Ytojobffihlmfgaa
