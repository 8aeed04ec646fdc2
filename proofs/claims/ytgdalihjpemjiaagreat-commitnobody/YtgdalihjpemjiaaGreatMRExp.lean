import Derived.Test.YtgdalihjpemjiaaGreatMPow
namespace Go.Proofs.YtgdalihjpemjiaaGreat
set_option linter.unusedVariables false
open Go.RowKit
theorem low_small (M : Nat) (h : M < 9223372036854775808) : lowI M = (M : Int) ∧ lowB M = true := by
 unfold lowI lowB
 rw [if_pos h, decide_eq_true h]
 exact ⟨rfl, rfl⟩
end Go.Proofs.YtgdalihjpemjiaaGreat
