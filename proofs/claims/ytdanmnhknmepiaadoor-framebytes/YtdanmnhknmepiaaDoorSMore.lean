/- More single operations: texts that are the same, texts joined. -/
import Derived.Test.YtdanmnhknmepiaaDoorSLaw
import Derived.Laws.Concat
namespace Go.Proofs.YtdanmnhknmepiaaDoor
open Go.RowKit
set_option linter.unusedVariables false
theorem sha_length (l : List UInt8) : (sha l).length = 32 := outL_length _
theorem x_eqS {P : Program} {o : Oper} {ρ : Operand → Value} (t : TypeId) (x y : Operand) (u : TypeId) (ho : o.op = .binOp .eql t x y u) (n m : ByteArray) (hx : ρ x = .string n) (hy : ρ y = .string m) (h : n = m) (w : World) :
  (execOp ρ o).run P w = .ok (.value (.bool true)) w := by
 subst h
 exact exec_eql_str t x y u ho n hx hy w
theorem x_le {P : Program} {o : Oper} {ρ : Operand → Value} (t : TypeId) (x y : Operand) (u : TypeId) (ho : o.op = .binOp .leq t x y u) (n m : Int) (hx : ρ x = .int .i64 n) (hy : ρ y = .int .i64 m) (b : Bool) (hb : decide (n ≤ m) = b) (w : World) :
  (execOp ρ o).run P w = .ok (.value (.bool b)) w := by
 subst hb
 unfold execOp
 simp only [ho, hx, hy]
 simp [go_sem]
theorem x_cat {P : Program} {o : Oper} {ρ : Operand → Value} (t : TypeId) (x y : Operand) (u : TypeId) (ho : o.op = .binOp .add t x y u) (a b : List UInt8) (hx : ρ x = .string ⟨a.toArray⟩) (hy : ρ y = .string ⟨b.toArray⟩) (h : a.length + b.length ≤ 9223372036854775807) (w : World) :
  (execOp ρ o).run P w = .ok (.value (.string ⟨(a ++ b).toArray⟩)) w := by
 have hr := run_string_add_sum (P := P) w ⟨a.toArray⟩ ⟨b.toArray⟩ (by simpa [ByteArray.size] using h)
 rw [ByteArray.mk_append_mk] at hr
 unfold execOp
 simp only [ho, hx, hy]
 simp [eqGuard, binOp, hr]
end Go.Proofs.YtdanmnhknmepiaaDoor
