/- The document's parted: how often digits go into others, and what is left, bit by bit. -/
import Derived.Test.YthnpeebnmommbaaGM
import Derived.Test.YthnpeebnmommbaaGN
import Derived.Test.YthnpeebnmommbaaGI
import Derived.Test.YthnpeebnmommbaaWDiv
namespace Go.Proofs.Ythnpeebnmommbaa
open Go.RowKit
end Go.Proofs.Ythnpeebnmommbaa
/- The document's Rem and Div. -/
namespace Go.Proofs.Ythnpeebnmommbaa
open Go.RowKit
theorem eqz_true {M : Nat} (h : M = 0) : decide (M % 2 ^ 256 = 0 % 2 ^ 256) = true := by subst h; rfl
theorem eqz_false {M : Nat} (h : M ≠ 0) (hM : M < 2 ^ 256) : decide (M % 2 ^ 256 = 0 % 2 ^ 256) = false := by
 rw [Nat.mod_eq_of_lt hM]
 exact decide_eq_false (by simp; omega)
end Go.Proofs.Ythnpeebnmommbaa
