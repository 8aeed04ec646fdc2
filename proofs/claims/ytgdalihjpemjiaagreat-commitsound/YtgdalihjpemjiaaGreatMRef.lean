import Derived.Test.YtgdalihjpemjiaaGreatGT
namespace Go.Proofs.YtgdalihjpemjiaaGreat
set_option linter.unusedVariables false
open Go.RowKit
end Go.Proofs.YtgdalihjpemjiaaGreat
