/- The document's even, Bytes. -/
import Derived.Test.YtojobffihlmfgaaMA
import Derived.Test.YtojobffihlmfgaaBT
import Derived.Laws.Concat
namespace Go.Proofs.Ytojobffihlmfgaa
open Go.RowKit
set_option linter.unusedVariables false
set_option linter.unusedSectionVars false
set_option linter.unusedSimpArgs false
theorem yx_cat {P : Program} {o : Oper} {ρ : Operand → Value} (t : TypeId) (x y : Operand) (u : TypeId) (ho : o.op = .binOp .add t x y u) (a b : List UInt8) (hx : ρ x = .string ⟨a.toArray⟩) (hy : ρ y = .string ⟨b.toArray⟩) (h : a.length + b.length ≤ 9223372036854775807) (w : World) :
  (execOp ρ o).run P w = .ok (.value (.string ⟨(a ++ b).toArray⟩)) w := by
 have hr := run_string_add_sum (P := P) w ⟨a.toArray⟩ ⟨b.toArray⟩ (by simpa [ByteArray.size] using h)
 rw [ByteArray.mk_append_mk] at hr
 unfold execOp
 simp only [ho, hx, hy]
 simp [eqGuard, binOp, hr]
theorem tbB_end {n : Nat} {N : Nat → Nat} (h : ∀ j, j < n → N j = N 0 ∧ 1 ≤ N j ∧ N j ≤ 7) : tbB n N = (decide ((1 : Int) ≤ n) && decide ((n : Int) ≤ 25)) := by
 unfold tbB ccB
 by_cases h0 : 1 ≤ n
 ·have h1 := h 0 (by omega)
  rw [decide_eq_true (show (1 : Int) ≤ (N 0 : Nat) by omega), decide_eq_true (show ((N 0 : Nat) : Int) ≤ 7 by omega), Bool.and_true, Bool.and_true]
  have : anB (fun k => !decide ((N k : Int) = N 0)) n = false := by
   cases ha : anB (fun k => !decide ((N k : Int) = N 0)) n
   ·rfl
   ·obtain ⟨k, hk, e⟩ := (anB_iff _ n).1 ha
    have := (h k hk).1
    rw [this, decide_eq_true rfl] at e
    cases e
  rw [this, Bool.not_false, Bool.and_true]
 ·rw [decide_eq_false (show ¬ (1 : Int) ≤ n by omega)]
  rfl
end Go.Proofs.Ytojobffihlmfgaa
