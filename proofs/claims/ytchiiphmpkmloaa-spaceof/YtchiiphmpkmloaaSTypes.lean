/- The array types of package sha: their zero values, sizes, literals. -/
import Derived.Test.YtchiiphmpkmloaaSSmall
namespace Go.Proofs.Ytchiiphmpkmloaa
open Go.RowKit
set_option linter.unusedVariables false
theorem lt8 {n : Nat} (h : n < 256) : n < 4294967296 := by omega
/-- A literal. -/
theorem exec_build {P : Program} {o : Oper} {ρ : Operand → Value} (t : TypeId) (l : List (Nat × Operand)) (ho : o.op = .build t l.toArray) (vs : List (Nat × Value)) (hv : l.map (fun q => (q.1, ρ q.2)) = vs) (c : Array Value) (hb : P.built t vs = some c) (w : World) :
  (execOp ρ o).run P w = .ok (.value (.agg c)) w := by
 unfold execOp
 simp only [ho, List.map_toArray, Sem.run_bind]
 rw [show (l.map fun x => match x with | (i, y) => (i, ρ y)) = vs from hv, run_build w t vs.toArray c (by simpa using hb)]
 rfl
/-- Up to a place, and nothing behind it. -/
def upto (F : Nat → Nat) (i j : Nat) : Nat := if j < i then F j else 0
theorem upto_put (F : Nat → Nat) (i N : Nat) (hN : F i = N) (n : Nat) : ∀ j, j < n → upto F (i + 1) j = if j = i then N else upto F i j := by
 intro j _
 unfold upto
 by_cases e : j = i
 ·subst e; rw [if_pos rfl, if_pos (by omega), hN]
 ·rw [if_neg e]
  by_cases h : j < i
  ·rw [if_pos h, if_pos (by omega)]
  ·rw [if_neg h, if_neg (by omega)]
theorem upto_lt (F : Nat → Nat) (i j : Nat) (h : j < i) : upto F i j = F j := if_pos h
theorem upto_zero (F : Nat → Nat) : upto F 0 = fun _ => 0 := by funext j; unfold upto; rw [if_neg (by omega)]
end Go.Proofs.Ytchiiphmpkmloaa
