/- poly's told, trimmed, coefficient, Trim, Eval, Add, Mul: of numbers as layer 8 tells them. -/
import Derived.Test.YtojobffihlmfgaaUD
import Derived.Test.YtojobffihlmfgaaEW
import Derived.Test.YtojobffihlmfgaaFA
import Derived.Test.YtojobffihlmfgaaTA
namespace Go.Proofs.Ytojobffihlmfgaa
open Go.RowKit
set_option linter.unusedVariables false
theorem size1tapiat : (Try.prog.info? 27).map (·.size) = some 1 := by kernel_rfl
end Go.Proofs.Ytojobffihlmfgaa
