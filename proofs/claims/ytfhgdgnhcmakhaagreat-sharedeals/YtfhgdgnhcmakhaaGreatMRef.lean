import Derived.Test.YtfhgdgnhcmakhaaGreatGT
namespace Go.Proofs.YtfhgdgnhcmakhaaGreat
open Go.RowKit
end Go.Proofs.YtfhgdgnhcmakhaaGreat
