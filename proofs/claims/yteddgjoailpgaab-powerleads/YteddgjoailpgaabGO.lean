/- The document's parted: how often digits go into others, and what is left, bit by bit. -/
import Derived.Test.YteddgjoailpgaabGM
import Derived.Test.YteddgjoailpgaabGN
import Derived.Test.YteddgjoailpgaabGI
import Derived.Test.YteddgjoailpgaabWDiv
namespace Go.Proofs.Yteddgjoailpgaab
open Go.RowKit
end Go.Proofs.Yteddgjoailpgaab
/- The document's Rem and Div. -/
namespace Go.Proofs.Yteddgjoailpgaab
open Go.RowKit
theorem eqz_true {M : Nat} (h : M = 0) : decide (M % 2 ^ 256 = 0 % 2 ^ 256) = true := by subst h; rfl
theorem eqz_false {M : Nat} (h : M ≠ 0) (hM : M < 2 ^ 256) : decide (M % 2 ^ 256 = 0 % 2 ^ 256) = false := by
 rw [Nat.mod_eq_of_lt hM]
 exact decide_eq_false (by simp; omega)
end Go.Proofs.Yteddgjoailpgaab
