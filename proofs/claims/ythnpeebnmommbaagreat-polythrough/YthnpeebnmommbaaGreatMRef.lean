/- The document's functions of layer 3 that need no loop: May and Form. -/
import Derived.Test.YthnpeebnmommbaaGreatGT
namespace Go.Proofs.YthnpeebnmommbaaGreat
open Go.RowKit
end Go.Proofs.YthnpeebnmommbaaGreat
