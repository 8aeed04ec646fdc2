/- The document's Exp: a power by any natural. -/
import Derived.Test.YthnpeebnmommbaaGreatMPow
namespace Go.Proofs.YthnpeebnmommbaaGreat
open Go.RowKit
theorem low_small (M : Nat) (h : M < 9223372036854775808) : lowI M = (M : Int) ∧ lowB M = true := by
 unfold lowI lowB
 rw [if_pos h, decide_eq_true h]
 exact ⟨rfl, rfl⟩
theorem low_great (M : Nat) (h : ¬ M < 9223372036854775808) : lowI M = 0 ∧ lowB M = false := by
 unfold lowI lowB
 rw [if_neg h, decide_eq_false h]
 exact ⟨rfl, rfl⟩
end Go.Proofs.YthnpeebnmommbaaGreat
