/- The document's functions of layer 3 that need no loop: May and Form. -/
import Derived.Test.YthnpeebnmommbaaGT
namespace Go.Proofs.Ythnpeebnmommbaa
open Go.RowKit
end Go.Proofs.Ythnpeebnmommbaa
