import Derived.Test.YtgdalihjpemjiaaGreatSC
import Derived.Test.YtgdalihjpemjiaaGreatFA
set_option maxRecDepth 100000
set_option maxHeartbeats 2000000
namespace Go.Proofs.YtgdalihjpemjiaaGreat
open Go.RowKit
set_option linter.unusedVariables false
set_option linter.unusedSectionVars false
theorem sl_intsX : Tryz.prog.underlying 30 = some (.slice (Tryz.prog.elem 30)) := by kernel_rfl
theorem lit_i1 (a : Int) (k : Nat) (hk : k = 1) : Instr.fill (fun i => some (i * k, k)) ((Array.range (1 * k)).map ((Value.int .i64 0).cells[· % (Value.int .i64 0).cells.size]!)) [(0, .int .i64 a)] = some #[.int .i64 a] := by
 subst hk
 kernel_rfl
section
variable {Q : Nat} [NeZero Q]
def IlAt (w : World) (v : Value) (L : List (Fin Q)) : Prop := ∃ ab c gb ob bcs tb, v = .slice ab L.length c ∧ L.length ≤ c ∧ NumsAt w ab L.length (fun i => (pco L i).val) gb ob bcs tb
theorem IlAt.below {w w' : World} {v : Value} {L : List (Fin Q)} (h : IlAt w v L) (hb : Below w.heap.size w w') : IlAt w' v L := by
 obtain ⟨ab, c, gb, ob, bcs, tb, h1, h2, h3⟩ := h
 exact ⟨ab, c, gb, ob, bcs, tb, h1, h2, h3.below hb⟩
end
def rEv (q : Nat) (u : Nat → Nat) (x : Nat) : Nat → Nat × Nat
 | 0 => (0, 1)
 | k + 1 => (((rEv q u x k).1 + u k * (rEv q u x k).2 % q) % q, (rEv q u x k).2 * x % q)
def rOut (q m : Nat) (A B : Nat → Nat) : Nat → Nat → Nat
 | 0, _ => 0
 | i + 1, j => if i ≤ j ∧ j < i + m then (rOut q m A B i j + A i * B (j - i) % q) % q else rOut q m A B i j
def rIn (q m : Nat) (A B : Nat → Nat) (i k j : Nat) : Nat := if i ≤ j ∧ j < i + k then (rOut q m A B i j + A i * B (j - i) % q) % q else rOut q m A B i j
section
variable {Q : Nat} [NeZero Q]
end
end Go.Proofs.YtgdalihjpemjiaaGreat
