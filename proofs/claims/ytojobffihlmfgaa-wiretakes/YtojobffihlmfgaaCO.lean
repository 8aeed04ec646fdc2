/- Weights of places: the polynomial through places is linear in what it is there; the one through some of the places. Plain mathematics. -/
import Derived.Test.YtojobffihlmfgaaUD
import Derived.Test.YtojobffihlmfgaaPM
import Derived.Test.YtojobffihlmfgaaGS
import Derived.Test.YtojobffihlmfgaaSB
import Derived.Test.YtojobffihlmfgaaQA
import Derived.Test.YtojobffihlmfgaaCW
import Derived.Test.YtojobffihlmfgaaPZ
namespace Go.Proofs.Ytojobffihlmfgaa
set_option linter.unusedSectionVars false
section
variable {q : Nat} [NeZero q]
end
end Go.Proofs.Ytojobffihlmfgaa
/- Commitments: products of powers whose exponents are a polynomial's. Plain mathematics. -/
namespace Go.Proofs.Ytojobffihlmfgaa
set_option linter.unusedSectionVars false
/-- The sum of the first n. -/
def smA (f : Nat → Nat) : Nat → Nat
 | 0 => 0
 | n + 1 => smA f n + f n
section
variable {q : Nat} [NeZero q]
end
end Go.Proofs.Ytojobffihlmfgaa
/- What weights tell: a polynomial's coefficients, by its values at the places. -/
namespace Go.Proofs.Ytojobffihlmfgaa
set_option linter.unusedSectionVars false
section
variable {Q : Nat} [NeZero Q]
end
end Go.Proofs.Ytojobffihlmfgaa
/- commit's isGroup, told, To, At, May, Holds; the search through naturals. -/
namespace Go.Proofs.Ytojobffihlmfgaa
open Go.RowKit
set_option linter.unusedVariables false
set_option linter.unusedSectionVars false
set_option linter.unusedSimpArgs false
section
variable {Q : Nat} [NeZero Q] {g gr gf P G : Nat} {w : World}
end
end Go.Proofs.Ytojobffihlmfgaa
/- commit's From. -/
namespace Go.Proofs.Ytojobffihlmfgaa
open Go.RowKit
set_option linter.unusedVariables false
set_option linter.unusedSectionVars false
set_option linter.unusedSimpArgs false
/-- 0, and then others. -/
def Zx (I : Nat → Int) : Nat → Int
 | 0 => 0
 | j + 1 => I j
/-- Where those of a row from the second on lie. -/
def oOf (n : Nat) : Nat := if n + 1 = 1 then 0 else 0 + 1 * 4
end Go.Proofs.Ytojobffihlmfgaa
/- commit's functions, of a group that New has made: what they answer, whatever they are handed. -/
namespace Go.Proofs.Ytojobffihlmfgaa
open Go.RowKit
set_option linter.unusedVariables false
set_option linter.unusedSectionVars false
/-- What a group's numbers are. -/
structure GF (P Q G : Nat) : Prop where
 pP : IsP P
 pQ : IsP Q
 rP : RgQ P
 rQ : FdQ Q
 lt : G < P
 n0 : G ≠ 0
 n1 : G ≠ 1
 ord : G ^ Q % P = 1
 big : 512 ≤ Q
/-- The commitment to what is at a place. -/
def cAt (P : Nat) (C : Nat → Nat) (n : Nat) (i : Int) : Nat := if 0 ≤ i ∧ i ≤ 7 ∧ n ≤ 7 then prd (fun j => C j ^ (i.toNat ^ j)) n % P else 0
def cMay (P Q : Nat) (C : Nat → Nat) (n : Nat) : Bool := decide (1 ≤ n) && decide (n ≤ 7) && !anB (fun k => !memN P Q (C k)) n
def cHol (P Q G : Nat) (C : Nat → Nat) (n : Nat) (i : Int) (Y : Nat) : Bool := decide (1 ≤ i) && decide (i ≤ 7) && decide (Y < Q) && (decide (G ^ Y % P = cAt P C n i) && cMay P Q C n)
section
variable {Q : Nat} [NeZero Q] {g gr gf P G : Nat} {w : World} {ab : Option Addr} {n c : Nat} {C : Nat → Nat} {gb ob : Nat} {bcs : Array Value} {tb : TypeId}
/-- 0, and then other naturals. -/
def Zn (I : Nat → Nat) : Nat → Nat
 | 0 => 0
 | j + 1 => I j
/-- What From tells, by weights. -/
def frS (P Q G A : Nat) (W : Nat → Nat → Nat) (Y : Nat → Nat) (n j : Nat) : Nat := A ^ W j 0 * G ^ dotN (fun i => W j (i + 1)) Y Q n % P
variable {A : Nat} {I : Nat → Int} {Y : Nat → Nat}
end
end Go.Proofs.Ytojobffihlmfgaa
/- What must come, whatever the arguments are: the check of the laws of layer 14; its small groups. -/
namespace Go.Proofs.Ytojobffihlmfgaa
open Go.RowKit
set_option linter.unusedVariables false
set_option linter.unusedSimpArgs false
/-- The polynomial of the check. -/
def coF : List (Fin 1966023127) := [fi 5, fi 2]
end Go.Proofs.Ytojobffihlmfgaa
