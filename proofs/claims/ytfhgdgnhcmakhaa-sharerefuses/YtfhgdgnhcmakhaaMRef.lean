/- The document's functions of layer 3 that need no loop: May and Form. -/
import Derived.Test.YtfhgdgnhcmakhaaGT
namespace Go.Proofs.Ytfhgdgnhcmakhaa
open Go.RowKit
end Go.Proofs.Ytfhgdgnhcmakhaa
