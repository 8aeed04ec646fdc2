/- welch's isGroup, the search through rows, areEquations, turn and the closures. -/
import Derived.Test.YtojobffihlmfgaaSB
import Derived.Test.YtojobffihlmfgaaCW
import Derived.Test.YtojobffihlmfgaaWX
namespace Go.Proofs.Ytojobffihlmfgaa
open Go.RowKit
set_option linter.unusedVariables false
set_option linter.unusedSectionVars false
set_option linter.unusedSimpArgs false
section
variable {P : Program} {ops : Array Oper} {C : World → Prop} {Q : Act → World → Prop} {fn : Nat → Bool} {i : Nat} {L : DL} {a : Act} {w : World} {o : Oper}
end
/-- A slice of values of one cell each. -/
structure VsAt (w : World) (ab : Option Addr) (n : Nat) (S : Nat → Value) (gb ob : Nat) (bcs : Array Value) (tb : TypeId) : Prop where
 at' : n = 0 ∨ (ab = some ⟨gb, ob, none⟩ ∧ RowR w gb bcs tb ∧ ∀ i, i < n → bcs[ob + i * 1]? = some (S i))
theorem VsAt.below {w w2 : World} {ab : Option Addr} {n : Nat} {S : Nat → Value} {gb ob : Nat} {bcs : Array Value} {tb : TypeId} (h : VsAt w ab n S gb ob bcs tb) (hb : Below w.heap.size w w2) : VsAt w2 ab n S gb ob bcs tb :=
 ⟨h.at'.imp id fun ⟨h1, h2, h3⟩ => ⟨h1, h2.belowAll hb, h3⟩⟩
/-- Where the rest of a list begins. -/
def rsO (n r : Nat) : Nat := if n = r then 0 else 0 + r * 1
/-- A slice of naturals, whatever of it is whose. -/
def NrAt (w : World) (v : Value) (n : Nat) (F : Nat → Nat) : Prop := ∃ ab c gb ob bcs tb, v = .slice ab n c ∧ NatsAt w ab n F gb ob bcs tb
theorem NrAt.below {w w2 : World} {v : Value} {n : Nat} {F : Nat → Nat} (h : NrAt w v n F) (hb : Below w.heap.size w w2) : NrAt w2 v n F := by
 obtain ⟨ab, c, gb, ob, bcs, tb, h1, h2⟩ := h
 exact ⟨ab, c, gb, ob, bcs, tb, h1, h2.below hb⟩
section
variable {Q : Nat} [NeZero Q] {g gr gf P G : Nat} {w : World}
end
end Go.Proofs.Ytojobffihlmfgaa
