/- poly's Through, of places that are apart: its answer lies in a row of its own. -/
import Derived.Test.YtojobffihlmfgaaPY
import Derived.Test.YtojobffihlmfgaaEW
namespace Go.Proofs.Ytojobffihlmfgaa
open Go.RowKit
set_option linter.unusedVariables false
set_option linter.unusedSectionVars false
section
variable {Q : Nat} [NeZero Q]
/-- A result: a list's numbers, in a row of its own from a base on. -/
def PlN (w : World) (base : Nat) (v : Value) (L : List (Fin Q)) : Prop := ∃ gT N, v = .slice (some ⟨gT, 0, none⟩) L.length N ∧ base ≤ gT ∧ L.length ≤ N ∧ Row w gT (nsC N (fun i => (pco L i).val)) 51
theorem PlN.below {w w' : World} {base : Nat} {v : Value} {L : List (Fin Q)} (h : PlN w base v L) (hb : Below w.heap.size w w') : PlN w' base v L := by
 obtain ⟨gT, N, h1, h2, h3, h4⟩ := h
 exact ⟨gT, N, h1, h2, h3, h4.belowAll hb⟩
theorem PlN.low {w : World} {base base' : Nat} {v : Value} {L : List (Fin Q)} (h : PlN w base v L) (hb : base' ≤ base) : PlN w base' v L := by
 obtain ⟨gT, N, h1, h2, h3, h4⟩ := h
 exact ⟨gT, N, h1, Nat.le_trans hb h2, h3, h4⟩
theorem PlN.at' {w : World} {base : Nat} {v : Value} {L : List (Fin Q)} (h : PlN w base v L) (hQ : Q < 2 ^ 256) : PlAt w v L := by
 obtain ⟨gT, N, h1, h2, h3, h4⟩ := h
 exact ⟨_, _, gT, 0, _, _, h1, (nats_row h4 fun i _ => Nat.lt_trans (pco L i).isLt hQ).take h3⟩
end
end Go.Proofs.Ytojobffihlmfgaa
/- share's isGroup, areApart, shareOf, Deal; the search through shares; Recover's closures. -/
namespace Go.Proofs.Ytojobffihlmfgaa
open Go.RowKit
set_option linter.unusedVariables false
set_option linter.unusedSectionVars false
section
variable {Q : Nat} [NeZero Q] {g gr gf P G : Nat} {w : World}
end
/-- Is one of the first n told? -/
def anB (B : Nat → Bool) : Nat → Bool
 | 0 => false
 | n + 1 => anB B n || B n
theorem anB_iff (B : Nat → Bool) : ∀ n, anB B n = true ↔ ∃ k, k < n ∧ B k = true
 | 0 => ⟨fun h => (by cases h), fun ⟨k, hk, _⟩ => absurd hk (by omega)⟩
 | n + 1 => by
  show (anB B n || B n) = true ↔ _
  rw [Bool.or_eq_true, anB_iff B n]
  constructor
  ·rintro (⟨k, hk, e⟩ | e)
   ·exact ⟨k, by omega, e⟩
   ·exact ⟨n, by omega, e⟩
  ·rintro ⟨k, hk, e⟩
   by_cases h : k = n
   ·exact .inr (h ▸ e)
   ·exact .inl ⟨k, by omega, e⟩
section
variable {Q : Nat} [NeZero Q] {g gr gf P G : Nat} {w : World}
end
end Go.Proofs.Ytojobffihlmfgaa
/- share's through, Recover. -/
namespace Go.Proofs.Ytojobffihlmfgaa
open Go.RowKit
set_option linter.unusedVariables false
set_option linter.unusedSectionVars false
section
variable {Q : Nat} [NeZero Q] {g gr gf P G : Nat} {w : World}
/-- The error's number: 4, if one of them is another. -/
def e4 (b : Bool) : Int := if b then 4 else 0
def RcP (b : Bool) (w : World) (v : Value) (L : List (Fin Q)) : Prop := (b = false → PlAt w v L) ∧ (b = true → v = .slice none 0 0)
end
end Go.Proofs.Ytojobffihlmfgaa
/- share's Weights. -/
namespace Go.Proofs.Ytojobffihlmfgaa
open Go.RowKit
set_option linter.unusedVariables false
set_option linter.unusedSectionVars false
/-- Ints, whatever they are. -/
structure ZsAt (w : World) (ab : Option Addr) (n : Nat) (Z : Nat → Int) (gb ob : Nat) (bcs : Array Value) (tb : TypeId) : Prop where
 at' : n = 0 ∨ (ab = some ⟨gb, ob, none⟩ ∧ RowR w gb bcs tb ∧ ∀ i, i < n → bcs[ob + i * 1]? = some (.int .i64 (Z i)))
theorem ZsAt.below {w w2 : World} {ab : Option Addr} {n : Nat} {Z : Nat → Int} {gb ob : Nat} {bcs : Array Value} {tb : TypeId} (h : ZsAt w ab n Z gb ob bcs tb) (hb : Below w.heap.size w w2) : ZsAt w2 ab n Z gb ob bcs tb :=
 ⟨h.at'.imp id fun ⟨h1, h2, h3⟩ => ⟨h1, h2.belowAll hb, h3⟩⟩
theorem ZsAt.congr {w : World} {ab : Option Addr} {n : Nat} {Z Z' : Nat → Int} {gb ob : Nat} {bcs : Array Value} {tb : TypeId} (h : ZsAt w ab n Z gb ob bcs tb) (he : ∀ i, i < n → Z i = Z' i) : ZsAt w ab n Z' gb ob bcs tb :=
 ⟨h.at'.imp id fun ⟨h1, h2, h3⟩ => ⟨h1, h2, fun i hi => by rw [← he i hi]; exact h3 i hi⟩⟩
theorem NumsAt.zs {w : World} {ab : Option Addr} {n : Nat} {u : Nat → Nat} {gb ob : Nat} {bcs : Array Value} {tb : TypeId} (h : NumsAt w ab n u gb ob bcs tb) : ZsAt w ab n (fun i => ((u i : Nat) : Int)) gb ob bcs tb := ⟨h.at'⟩
theorem info_slx : (Try.prog.info? 27).map (fun i => (i.zero, i.size, i.bytes)) = some (some (.slice none 0 0), 1, 24) := by kernel_rfl
theorem info_slb : ∃ i, Try.prog.info? 27 = some i ∧ i.zero = some (.slice none 0 0) ∧ i.size = 1 ∧ i.bytes = 24 := by
 have h := info_slx
 cases hi : Try.prog.info? 27 with
 | none => rw [hi] at h; cases h
 | some i =>
  rw [hi] at h
  simp only [Option.map_some, Option.some.injEq, Prod.mk.injEq] at h
  exact ⟨i, rfl, h.1, h.2.1, h.2.2⟩
section
variable {Q : Nat} [NeZero Q] {g gr gf P G : Nat} {w : World}
/-- The naturals that are 1 at one place alone. -/
def onK (k i : Nat) : Nat := if i = k then 1 else 0
/-- The polynomial that is 1 at one of the places, and 0 at the others. -/
def wtP (I : Nat → Nat) (n k : Nat) : List (Fin Q) := tTh ivF (fun i => (fi (I i) : Fin Q)) (fun i => (fi (onK k i) : Fin Q)) n
/-- What weights are, where those of the first k places are told; and of the next one the first j. -/
def wtV (I : Nat → Nat) (n k j : Nat) : Nat → Nat → Nat := fun a b => if b < k ∨ (b = k ∧ a < j) then (pco (wtP I n b : List (Fin Q)) a).val else 0
end
end Go.Proofs.Ytojobffihlmfgaa
