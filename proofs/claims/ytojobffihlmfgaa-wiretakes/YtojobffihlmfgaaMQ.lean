/- The document's Times, Power and Exp: powers by any natural. -/
import Derived.Test.YtojobffihlmfgaaMP
import Derived.Test.YtojobffihlmfgaaGT
namespace Go.Proofs.Ytojobffihlmfgaa
open Go.RowKit
theorem exec_geq_i {P : Program} {o : Oper} {ρ : Operand → Value} (t : TypeId) (x y : Operand) (u : TypeId) (ho : o.op = .binOp .geq t x y u) (n m : Int) (hx : ρ x = .int .i64 n) (hy : ρ y = .int .i64 m) (b : Bool) (hb : decide (m ≤ n) = b) (w : World) :
  (execOp ρ o).run P w = .ok (.value (.bool b)) w := by
 subst hb
 unfold execOp
 simp only [ho, hx, hy]
 simp [go_sem]
end Go.Proofs.Ytojobffihlmfgaa
/- The document's Exp: a power by any natural. -/
namespace Go.Proofs.Ytojobffihlmfgaa
open Go.RowKit
end Go.Proofs.Ytojobffihlmfgaa
