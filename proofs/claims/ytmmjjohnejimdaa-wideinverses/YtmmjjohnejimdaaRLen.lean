/- The document's Len, Bit and Low. -/
import Derived.Test.YtmmjjohnejimdaaRNat
import Derived.Test.YtmmjjohnejimdaaROf
namespace Go.Proofs.Ytmmjjohnejimdaa
open Go.RowKit

theorem bitLen_eq (A g : Nat) (h1 : 2 ^ g ≤ A) (h2 : A < 2 ^ (g + 1)) : bitLen A = g + 1 := by
  have h0 : A ≠ 0 := by have := Nat.two_pow_pos g; omega
  unfold bitLen
  rw [if_neg h0, (Nat.log2_eq_iff h0).2 ⟨h1, h2⟩]
theorem bit_top (A g : Nat) (h2 : A < 2 ^ (g + 1)) : (A.testBit g = true → 2 ^ g ≤ A) ∧ (A.testBit g = false → A < 2 ^ g) := by
  constructor
  · intro h
    exact Nat.ge_two_pow_of_testBit h
  · intro h
    rcases bit_cases A g with ⟨_, _, h3⟩ | ⟨h3, _⟩
    · rw [Nat.mod_eq_of_lt h2] at h3
      rw [h3]
      exact Nat.mod_lt _ (Nat.two_pow_pos g)
    · rw [h] at h3; cases h3
/-- One bit, as an int. -/
def bitI (A : Nat) (k : Int) : Int := if 0 ≤ k ∧ k < 256 ∧ A.testBit k.toNat = true then 1 else 0

end Go.Proofs.Ytmmjjohnejimdaa
