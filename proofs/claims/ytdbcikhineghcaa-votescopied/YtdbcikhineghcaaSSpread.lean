/- sha's spreadOf: a word for each round. -/
import Derived.Test.YtdbcikhineghcaaSTypes
namespace Go.Proofs.Ytdbcikhineghcaa
open Go.RowKit
set_option linter.unusedVariables false
end Go.Proofs.Ytdbcikhineghcaa
