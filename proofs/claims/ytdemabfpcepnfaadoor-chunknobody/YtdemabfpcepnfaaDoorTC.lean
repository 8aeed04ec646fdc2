/- tape's Draw, Draws. -/
import Derived.Test.YtdemabfpcepnfaaDoorTB
namespace Go.Proofs.YtdemabfpcepnfaaDoor
open Go.RowKit
set_option linter.unusedVariables false
theorem bitLen_256 {q : Nat} (h : q < 2 ^ 256) : bitLen q ≤ 256 := by
 unfold bitLen
 split
 ·exact Nat.zero_le _
 ·rename_i h0
  have := (Nat.log2_lt h0).2 h
  omega
end Go.Proofs.YtdemabfpcepnfaaDoor
/- tape's Draws. -/
namespace Go.Proofs.YtdemabfpcepnfaaDoor
open Go.RowKit
set_option linter.unusedVariables false
theorem sl_natsX : Tryd.prog.underlying 22 = some (.slice (Tryd.prog.elem 22)) := by kernel_rfl
end Go.Proofs.YtdemabfpcepnfaaDoor
