/- matrix's Deal. -/
import Derived.Test.YtnkpfcbcmfhjkaaMA
namespace Go.Proofs.Ytnkpfcbcmfhjkaa
open Go.RowKit
set_option linter.unusedVariables false
set_option linter.unusedSectionVars false
set_option linter.unusedSimpArgs false
/-- Slices of naturals, each in a block of its own. -/
structure PolAt (w : World) (base n : Nat) (V : Nat → Value) (B : Nat → Nat) (F : Nat → Nat → Nat) (m : Nat) : Prop where
 at' : ∀ j, j < m → ∃ ab c cur, V j = .slice ab n c ∧ NatsAt w ab n (F j) (B j) 0 cur 52
 low : ∀ j, j < m → base ≤ B j
 lt' : ∀ j, j < m → B j < w.heap.size
section
variable {w w2 : World} {base n m : Nat} {V : Nat → Value} {B : Nat → Nat} {F : Nat → Nat → Nat}
theorem PolAt.lt (h : PolAt w base n V B F m) {j : Nat} (hj : j < m) : B j < w.heap.size := h.lt' j hj
theorem PolAt.below (h : PolAt w base n V B F m) (hb : Below w.heap.size w w2) : PolAt w2 base n V B F m :=
 ⟨fun j hj => by
  obtain ⟨ab, c, cur, e, hn⟩ := h.at' j hj
  exact ⟨ab, c, cur, e, hn.below hb⟩, h.low, fun j hj => Nat.lt_of_lt_of_le (h.lt' j hj) hb.size⟩
theorem PolAt.on (h : PolAt w base n V B F m) {S : List Nat} (k : Kept S w w2) (hS : ∀ j, j < m → B j ∉ S) : PolAt w2 base n V B F m :=
 ⟨fun j hj => by
  obtain ⟨ab, c, cur, e, hn⟩ := h.at' j hj
  exact ⟨ab, c, cur, e, hn.at'.imp id fun ⟨h1, h2, h3⟩ => ⟨h1, k.rowR h2 (hS j hj), h3⟩, hn.lt⟩, h.low, fun j hj => Nat.lt_of_lt_of_le (h.lt' j hj) k.size⟩
def uxV (V : Nat → Value) (m : Nat) (v : Value) : Nat → Value := fun j => if j = m then v else V j
theorem uxV_at (V : Nat → Value) (m : Nat) (v : Value) : uxV V m v m = v := if_pos rfl
theorem uxV_lt (V : Nat → Value) {m j : Nat} (v : Value) (h : j < m) : uxV V m v j = V j := if_neg (by omega)
theorem PolAt.add (h : PolAt w base n V B F m) {v : Value} {b c : Nat} {ab : Option Addr} {cur : Array Value} (e : v = .slice ab n c) (hn : NatsAt w ab n (F m) b 0 cur 52) (h1 : base ≤ b) (h2 : b < w.heap.size) : PolAt w base n (uxV V m v) (upR B m b) F (m + 1) := by
 refine ⟨fun j hj => ?_, fun j hj => ?_, fun j hj => ?_⟩
 all_goals by_cases hjm : j = m
 ·subst hjm; rw [uxV_at, upR_at]; exact ⟨ab, c, cur, e, hn⟩
 ·rw [uxV_lt V v (by omega), upR_lt B (by omega)]; exact h.at' j (by omega)
 ·subst hjm; rw [upR_at]; exact h1
 ·rw [upR_lt B (by omega)]; exact h.low j (by omega)
 ·subst hjm; rw [upR_at]; exact h2
 ·rw [upR_lt B (by omega)]; exact h.lt' j (by omega)
theorem PolAt.pl {Q : Nat} [NeZero Q] (h : PolAt w base n V B F m) {j : Nat} (hj : j < m) (hn : n ≤ 1000) : PlA w (V j) (fl n (F j) : List (Fin Q)) := by
 obtain ⟨ab, c, cur, e, hna⟩ := h.at' j hj
 exact ⟨ab, n, c, F j, B j, 0, cur, 52, e, hn, hna, rfl⟩
end
/-- The coefficients of the polynomial of a number. -/
def dlF (t : Nat) (F1 F2 : Nat → Nat) (k j : Nat) : Nat := if j = 0 then F1 k else F2 (t * k + (j - 1))
section
variable {Q : Nat} [NeZero Q] {g gr gf P G : Nat} {w : World}
/-- A number's polynomial, as a list. -/
def dlL (Q : Nat) [NeZero Q] (t : Nat) (F1 F2 : Nat → Nat) (k : Nat) : List (Fin Q) := fl (t + 1) (dlF t F1 F2 k)
end
end Go.Proofs.Ytnkpfcbcmfhjkaa
/- matrix's holding; the search through parts. -/
namespace Go.Proofs.Ytnkpfcbcmfhjkaa
open Go.RowKit
set_option linter.unusedVariables false
set_option linter.unusedSectionVars false
set_option linter.unusedSimpArgs false
/-- Those that are taken of the first k: by their numbers, at most e, whose I is none of those ahead. -/
def hsL (I : Nat → Int) (HB : Nat → Bool) (e : Nat) : Nat → List Nat
 | 0 => []
 | k + 1 => if (!decide ((hsL I HB e k).length = e) && (!anB (fun j => decide (I ((hsL I HB e k).getD j 0) = I k)) (hsL I HB e k).length && HB k)) = true then hsL I HB e k ++ [k] else hsL I HB e k
section
variable {I : Nat → Int} {HB : Nat → Bool} {e : Nat}
end
end Go.Proofs.Ytnkpfcbcmfhjkaa
/- matrix's Recover. -/
namespace Go.Proofs.Ytnkpfcbcmfhjkaa
open Go.RowKit
set_option linter.unusedVariables false
set_option linter.unusedSectionVars false
set_option linter.unusedSimpArgs false
theorem FamAt.zero {w : World} {base n m : Nat} {R : Nat → Nat} {V : Nat → Nat → Nat} (h : FamAt w base n R V m) : FamAt w 0 n R V m := ⟨h.row, h.dis, fun _ _ => Nat.zero_le _⟩
section
variable {Q : Nat} [NeZero Q] {g gr gf P G : Nat} {w : World}
/-- The polynomials that are told, coefficient by coefficient. -/
def rcD (Q : Nat) [NeZero Q] (X : Nat → Nat) (Y : Nat → Nat → Nat) (N k j : Nat) : Nat := dotN (wtV (Q := Q) X N N 0 j) (fun i => Y i k) Q N
end
end Go.Proofs.Ytnkpfcbcmfhjkaa
