/- The document's parted: how often digits go into others, and what is left, bit by bit. -/
import Derived.Test.YthnpeebnmommbaaGM
import Derived.Test.YthnpeebnmommbaaGN
import Derived.Test.YthnpeebnmommbaaGI
import Derived.Test.YthnpeebnmommbaaWDiv
namespace Go.Proofs.Ythnpeebnmommbaa
open Go.RowKit
end Go.Proofs.Ythnpeebnmommbaa
/- The document's Rem and Div. -/
namespace Go.Proofs.Ythnpeebnmommbaa
open Go.RowKit
end Go.Proofs.Ythnpeebnmommbaa
