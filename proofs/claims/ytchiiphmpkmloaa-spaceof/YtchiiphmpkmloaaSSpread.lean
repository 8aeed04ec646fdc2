/- sha's spreadOf: a word for each round. -/
import Derived.Test.YtchiiphmpkmloaaSTypes
namespace Go.Proofs.Ytchiiphmpkmloaa
open Go.RowKit
set_option linter.unusedVariables false
end Go.Proofs.Ytchiiphmpkmloaa
