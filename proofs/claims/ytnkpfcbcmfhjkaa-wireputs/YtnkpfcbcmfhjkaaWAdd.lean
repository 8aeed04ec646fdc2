/- wide.AddMod: of two that are below m the sum, m taken off once where it is not below. -/
import Derived.Test.YtnkpfcbcmfhjkaaGH
import Derived.Test.YtnkpfcbcmfhjkaaGWalk
namespace Go.Proofs.Ytnkpfcbcmfhjkaa
open Go.RowKit
set_option linter.unusedVariables false
end Go.Proofs.Ytnkpfcbcmfhjkaa
