/- The document's parted: how often digits go into others, and what is left, bit by bit. -/
import Derived.Test.YtfhgdgnhcmakhaaGM
import Derived.Test.YtfhgdgnhcmakhaaGN
import Derived.Test.YtfhgdgnhcmakhaaGI
import Derived.Test.YtfhgdgnhcmakhaaWDiv
namespace Go.Proofs.Ytfhgdgnhcmakhaa
open Go.RowKit
end Go.Proofs.Ytfhgdgnhcmakhaa
/- The document's Rem and Div. -/
namespace Go.Proofs.Ytfhgdgnhcmakhaa
open Go.RowKit
end Go.Proofs.Ytfhgdgnhcmakhaa
