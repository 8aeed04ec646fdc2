/- The rows of powers: naturals side by side, and how far they are kept. -/
import Derived.Test.YtojobffihlmfgaaGJ
import Derived.Test.YtojobffihlmfgaaGK
import Derived.Test.YtojobffihlmfgaaGL
namespace Go.Proofs.Ytojobffihlmfgaa
open Go.RowKit
/-- Naturals, four cells each. -/
def nsC (n : Nat) (f : Nat → Nat) : Array Value := Array.ofFn (n := 4 * n) fun i => .int .u64 (lm (f (i / 4)) (i % 4) : Nat)
theorem nsC_size (n : Nat) (f : Nat → Nat) : (nsC n f).size = 4 * n := by simp [nsC]
theorem nsC_get (n : Nat) (f : Nat → Nat) (i : Nat) (h : i < 4 * n) : (nsC n f)[i]? = some (.int .u64 (lm (f (i / 4)) (i % 4) : Nat)) := by simp [nsC, h]
theorem nsC_part (n : Nat) (f : Nat → Nat) (k : Nat) (h : k < n) (off : Nat) (ho : off = 4 * k) : ∀ j v, (natC (f k)).toList[j]? = some v → (nsC n f)[off + j]? = some v := by
 subst ho
 refine part4 ?_ ?_ ?_ ?_
 ·rw [nsC_get n f _ (by omega), show (4 * k + 0) / 4 = k by omega, show (4 * k + 0) % 4 = 0 by omega]
 ·rw [nsC_get n f _ (by omega), show (4 * k + 1) / 4 = k by omega, show (4 * k + 1) % 4 = 1 by omega]
 ·rw [nsC_get n f _ (by omega), show (4 * k + 2) / 4 = k by omega, show (4 * k + 2) % 4 = 2 by omega]
 ·rw [nsC_get n f _ (by omega), show (4 * k + 3) / 4 = k by omega, show (4 * k + 3) % 4 = 3 by omega]
theorem nsC_congr (n : Nat) (f g : Nat → Nat) (h : ∀ k, k < n → f k = g k) : nsC n f = nsC n g := by
 apply Array.ext_getElem?
 intro i
 by_cases hi : i < 4 * n
 ·rw [nsC_get n f i hi, nsC_get n g i hi, h _ (by omega)]
 ·rw [Array.getElem?_eq_none (by rw [nsC_size]; omega), Array.getElem?_eq_none (by rw [nsC_size]; omega)]
theorem nsC_put (n : Nat) (f g : Nat → Nat) (k : Nat) (h : k < n) (off : Nat) (ho : off = 4 * k) (N : Nat) (hg : ∀ j, j < n → g j = if j = k then N else f j) : putL (nsC n f) off (natC N).toList = nsC n g := by
 subst ho
 apply Array.ext_getElem?
 intro i
 rw [putL_get _ _ _ _ (by rw [nsC_size, natC_list]; simp; omega)]
 have hl : (natC N).toList.length = 4 := rfl
 rw [hl]
 by_cases hi : i < 4 * n
 ·rw [nsC_get n g i hi, hg _ (by omega)]
  by_cases e : i / 4 = k
  ·rw [if_pos (by omega), if_pos e]
   have hj : i - 4 * k < 4 := by omega
   rw [show i % 4 = i - 4 * k by omega, Array.getElem?_toList]
   exact natC_get N _ hj
  ·rw [if_neg (by omega), if_neg e, nsC_get n f i hi]
 ·rw [if_neg (by omega), Array.getElem?_eq_none (by rw [nsC_size]; omega), Array.getElem?_eq_none (by rw [nsC_size]; omega)]
/-- Integers, one cell each. -/
def isC (n : Nat) (u : Nat → Nat) : Array Value := Array.ofFn (n := n) fun i => .int .i64 (u i : Nat)
/-- The form of a power. -/
def fpw (M b j : Nat) : Nat := b ^ j * 2 ^ 256 % M
/-- What is kept: the forms of the powers up to u. -/
def kfU (M : Nat) (b u : Nat → Nat) (i : Nat) : Nat := if 1 ≤ i % 16 ∧ i % 16 ≤ u (i / 16) then fpw M (b (i / 16)) (i % 16) else 0
end Go.Proofs.Ytojobffihlmfgaa
/- mont's powers: the closure that tells the form of a base to a digit, and keeps it. -/
namespace Go.Proofs.Ytojobffihlmfgaa
open Go.RowKit
theorem size_nat4 (w : World) : (sizeOf 51).run Try.prog w = .ok 4 w := Try.sizeOf51 w
end Go.Proofs.Ytojobffihlmfgaa
