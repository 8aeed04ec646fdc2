/- A Hash's filled and Add. -/
import Derived.Test.YtchiiphmpkmloaaSHash
namespace Go.Proofs.Ytchiiphmpkmloaa
open Go.RowKit
set_option linter.unusedVariables false
theorem bf_take (l : List UInt8) (n i : Nat) (h : i < n) : bf (l.take n) i = bf l i := by
 unfold bf; rw [List.getD_eq_getElem?_getD, List.getD_eq_getElem?_getD, List.getElem?_take_of_lt h]
theorem cp_full (L : List UInt8) (B : Nat → Nat) (F j : Nat) (hF : F < 64) (hle : 64 * (j + 1) ≤ L.length) (hB : ∀ i, i < F → B i = bf L (64 * j + i)) :
  ∀ i, i < 64 → cpB B F ((L.drop (64 * j + F)).take (64 - F)) i = bf L (64 * j + i) := by
 intro i hi
 have hl : ((L.drop (64 * j + F)).take (64 - F)).length = 64 - F := by rw [List.length_take, List.length_drop]; omega
 unfold cpB
 rw [hl]
 by_cases h : F ≤ i
 ·rw [if_pos (by omega), bf_take _ _ _ (by omega), bf_drop, show 64 * j + F + (i - F) = 64 * j + i by omega]
 ·rw [if_neg (by omega), hB i (by omega)]
theorem cp_rest (L : List UInt8) (B : Nat → Nat) (F j q : Nat) (hq : 64 * j + F + q = L.length) (hB : ∀ i, i < F → B i = bf L (64 * j + i)) :
  ∀ i, i < F + q → cpB B F ((L.drop (64 * j + F)).take q) i = bf L (64 * j + i) := by
 intro i hi
 have hl : ((L.drop (64 * j + F)).take q).length = q := by rw [List.length_take, List.length_drop]; omega
 unfold cpB
 rw [hl]
 by_cases h : F ≤ i
 ·rw [if_pos (by omega), bf_take _ _ _ (by omega), bf_drop, show 64 * j + F + (i - F) = 64 * j + i by omega]
 ·rw [if_neg (by omega), hB i (by omega)]
theorem cpB_lt {B : Nat → Nat} (h : ∀ i, B i < 256) (F : Nat) (l : List UInt8) (i : Nat) : cpB B F l i < 256 := by
 unfold cpB
 split
 ·exact bf_lt _ _
 ·exact h i
/-- The block holds what stands behind the full blocks of a text. -/
structure HS (l : List UInt8) (B : Nat → Nat) : Prop where
 b : ∀ i, i < l.length % 64 → B i = bf l (64 * (l.length / 64) + i)
 lt : ∀ i, B i < 256
end Go.Proofs.Ytchiiphmpkmloaa
