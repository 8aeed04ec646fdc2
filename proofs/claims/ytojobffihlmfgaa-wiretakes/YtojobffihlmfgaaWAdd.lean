/- wide.AddMod: of two that are below m the sum, m taken off once where it is not below. -/
import Derived.Test.YtojobffihlmfgaaGH
import Derived.Test.YtojobffihlmfgaaGWalk
namespace Go.Proofs.Ytojobffihlmfgaa
open Go.RowKit
set_option linter.unusedVariables false
end Go.Proofs.Ytojobffihlmfgaa
