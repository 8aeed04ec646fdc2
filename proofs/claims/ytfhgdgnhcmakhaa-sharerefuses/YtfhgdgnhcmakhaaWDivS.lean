/- bits.Div64 for any divisor, with what is left; bits.LeadingZeros64 of any. -/
import Derived.Test.YtfhgdgnhcmakhaaWDiv64
import Derived.Test.YtfhgdgnhcmakhaaGS
namespace Go.Proofs.Ytfhgdgnhcmakhaa
open Go.RowKit
section
variable {P : Program} {o : Oper} {ρ : Operand → Value}
end
end Go.Proofs.Ytfhgdgnhcmakhaa
