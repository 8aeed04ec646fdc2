/- The document's Up and Down: a natural times two, by two, so often. -/
import Derived.Test.YtmmjjohnejimdaaRNat
import Derived.Test.YtmmjjohnejimdaaROf
namespace Go.Proofs.Ytmmjjohnejimdaa
open Go.RowKit

theorem up_bit (A n k : Nat) : (A * 2 ^ n).testBit k = (decide (n ≤ k) && A.testBit (k - n)) := by
  rw [Nat.mul_comm, Nat.testBit_two_pow_mul]
theorem down_bit (A n k : Nat) : (A / 2 ^ n).testBit k = A.testBit (k + n) := by
  rw [Nat.testBit_div_two_pow, Nat.add_comm]

end Go.Proofs.Ytmmjjohnejimdaa
