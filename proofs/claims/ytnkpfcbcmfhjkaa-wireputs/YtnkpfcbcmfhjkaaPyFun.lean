/- poly's told, trimmed, coefficient, Trim, Eval, Add, Mul: of numbers as layer 8 tells them. -/
import Derived.Test.YtnkpfcbcmfhjkaaUD
import Derived.Test.YtnkpfcbcmfhjkaaEW
import Derived.Test.YtnkpfcbcmfhjkaaTA
namespace Go.Proofs.Ytnkpfcbcmfhjkaa
open Go.RowKit
set_option linter.unusedVariables false
end Go.Proofs.Ytnkpfcbcmfhjkaa
