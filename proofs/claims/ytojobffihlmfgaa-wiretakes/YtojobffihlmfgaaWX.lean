/- Equations over the numbers below a prime: the rows are turned into one another, column by column; there is a solution, just if the right side adds no row. Plain mathematics (ahead of layer 15). -/
import Derived.Test.YtojobffihlmfgaaUD
namespace Go.Proofs.Ytojobffihlmfgaa
set_option linter.unusedSectionVars false
section
variable {q : Nat} [NeZero q]
/-- Numbers by rows and columns. -/
abbrev Mx (q : Nat) := Nat → Nat → Fin q
/-- Is x a solution of the first m rows, with c columns, the right side in the column c? -/
def Sol (A : Mx q) (m c : Nat) (x : Nat → Fin q) : Prop := ∀ i, i < m → psm (fun k => A i k * x k) c = A i c
/-- Two rows in one another's place. -/
def mSwp (A : Mx q) (a b : Nat) : Mx q := fun r => if r = a then A b else if r = b then A a else A r
/-- From the row r so many times the row n. -/
def mSub (A : Mx q) (r n : Nat) (t : Fin q) : Mx q := fun i k => if i = r then A i k - t * A n k else A i k
/-- A row, so many times. -/
def mScl (A : Mx q) (r : Nat) (t : Fin q) : Mx q := fun i k => if i = r then t * A i k else A i k
/-- From each of the rows lo to hi - 1 so many times the row n. -/
def mElim (A : Mx q) (n col : Nat) (iv : Fin q → Fin q) : Mx q := fun i k => if n < i then A i k - A i col * iv (A n col) * A n k else A i k
/-- The first row from n on, below m, that has no 0 in the column; m if there is none (s of them are to be looked at). -/
def mAt (A : Mx q) (col : Nat) : Nat → Nat → Nat
 | n, 0 => n
 | n, s + 1 => if A n col = 0 then mAt A col (n + 1) s else n
/-- One column's turn. -/
def rkS (iv : Fin q → Fin q) (m col : Nat) (S : Mx q × Nat) : Mx q × Nat :=
 let a := mAt S.1 col S.2 (m - S.2)
 if m ≤ a then S else (mElim (mSwp S.1 S.2 a) S.2 col iv, S.2 + 1)
/-- The rows behind the first c columns' turns, and how many have had theirs. -/
def rkC (iv : Fin q → Fin q) (m : Nat) (A : Mx q) : Nat → Mx q × Nat
 | 0 => (A, 0)
 | c + 1 => rkS iv m c (rkC iv m A c)
end
end Go.Proofs.Ytojobffihlmfgaa
/- Equations, by the way of Gauss and Jordan: column by column each row that begins there is turned into one that begins with 1, and taken off all others. Plain mathematics. -/
namespace Go.Proofs.Ytojobffihlmfgaa
set_option linter.unusedSectionVars false
section
variable {q : Nat} [NeZero q]
/-- The rows r and s in one another's place, the one that is now r times what makes it begin with 1, and so many times it taken off all others. -/
def gjE (A : Mx q) (r s c : Nat) (iv : Fin q → Fin q) : Mx q := fun i k => if i = r then A s k * iv (A s c) else mSwp A r s i k - A s k * iv (A s c) * mSwp A r s i c
/-- Of the m rows the first r begin with 1, each in a column of its own before c, in which all others are 0; the others are 0 up to c. -/
structure GJ (A0 A : Mx q) (m n c r : Nat) (L : Nat → Nat) : Prop where
 rm : r ≤ m
 sol : ∀ x, Sol A m n x ↔ Sol A0 m n x
 one : ∀ i, i < r → ∀ j, j < m → A j (L i) = if j = i then 1 else 0
 low : ∀ i, i < r → ∀ k, k < L i → A i k = 0
 out : ∀ i, r ≤ i → i < m → ∀ k, k < c → A i k = 0
 ltc : ∀ i, i < r → L i < c
/-- What is told of the first j rows. -/
def gjX (A : Mx q) (n : Nat) (L : Nat → Nat) : Nat → Nat → Fin q
 | 0, _ => 0
 | j + 1, k => if k = L j then A j n else gjX A n L j k
end
end Go.Proofs.Ytojobffihlmfgaa
/- A polynomial that is off at few places: the way of Berlekamp and Welch finds it, and so does trying as many places as it has coefficients, whichever. Plain mathematics (ahead of layer 15). -/
namespace Go.Proofs.Ytojobffihlmfgaa
set_option linter.unusedSectionVars false
section
variable {q : Nat} [NeZero q]
/-- The polynomial with these roots, whose last coefficient is 1. -/
def pmo : List (Fin q) → List (Fin q)
 | [] => [1]
 | a :: t => pcv [-a, 1] (pmo t)
/-- The places that a number's bits choose. -/
def bkL (s n : Nat) : List Nat := (List.range n).filter fun i => decide (s / 2 ^ i % 2 = 1)
/-- The polynomial through them (the document's Through). -/
def mkT (iv : Fin q → Fin q) (xs ys : Nat → Fin q) (s n : Nat) : List (Fin q) := pthr iv (fun k => xs ((bkL s n).getD k 0)) (fun k => ys ((bkL s n).getD k 0)) (bkL s n).length (bkL s n).length
end
end Go.Proofs.Ytojobffihlmfgaa
/- Berlekamp and Welch's equations: what a solution of them says of the two polynomials. Plain mathematics. -/
namespace Go.Proofs.Ytojobffihlmfgaa
set_option linter.unusedSectionVars false
section
variable {q : Nat} [NeZero q]
/-- A row of the equations: of the place x, and what is told there. -/
def eqR (x y : Fin q) (ct k : Nat) : Fin q := if k < ct then ppw x k else 0 - ppw x (k - ct) * y
/-- All rows, and the right side in the column behind them. -/
def eqM (xs ys : Nat → Fin q) (ct e : Nat) : Mx q := fun i k => if k = ct + e then ppw (xs i) e * ys i else eqR (xs i) (ys i) ct k
/-- The coefficients of the second polynomial that a solution tells; the last one is 1. -/
def eqE (X : Nat → Fin q) (ct e k : Nat) : Nat := if k < e then (X (ct + k)).val else 1
end
end Go.Proofs.Ytojobffihlmfgaa
