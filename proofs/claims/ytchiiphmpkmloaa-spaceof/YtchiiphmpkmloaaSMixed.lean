/- sha's mixed: the eight words behind one more block. -/
import Derived.Test.YtchiiphmpkmloaaSSpread
namespace Go.Proofs.Ytchiiphmpkmloaa
open Go.RowKit
set_option linter.unusedVariables false
/-- The constants lie where the program's variable lies. -/
def KT (w : World) : Prop := ∃ cs t, RowR w 0 cs t ∧ ∀ i, i < 64 → cs[i]? = some (.int .u32 (kf i : Nat))
theorem KT.below {w w2 : World} (h : KT w) (hb : Below w.heap.size w w2) : KT w2 := by
 obtain ⟨cs, t, r, hk⟩ := h
 exact ⟨cs, t, r.belowAll hb, hk⟩
theorem KT.kept {w w2 : World} {S : List Nat} (h : KT w) (hk : Kept S w w2) (hS : 0 ∉ S) : KT w2 := by
 obtain ⟨cs, t, r, hc⟩ := h
 exact ⟨cs, t, hk.rowR r hS, hc⟩
theorem KT.lt {w : World} (h : KT w) : 0 < w.heap.size := by
 obtain ⟨cs, t, r, hc⟩ := h
 exact r.lt
/-- One up to a place, the other one behind it. -/
def mixu (F G : Nat → Nat) (i j : Nat) : Nat := if j < i then F j else G j
theorem mixu_put (F G : Nat → Nat) (i N : Nat) (hN : F i = N) (n : Nat) : ∀ j, j < n → mixu F G (i + 1) j = if j = i then N else mixu F G i j := by
 intro j _
 unfold mixu
 by_cases e : j = i
 ·subst e; rw [if_pos rfl, if_pos (by omega), hN]
 ·rw [if_neg e]
  by_cases h : j < i
  ·rw [if_pos h, if_pos (by omega)]
  ·rw [if_neg h, if_neg (by omega)]
theorem mixu_lt (F G : Nat → Nat) (i j : Nat) (h : j < i) : mixu F G i j = F j := if_pos h
theorem mixu_ge (F G : Nat → Nat) (i j : Nat) (h : i ≤ j) : mixu F G i j = G j := if_neg (by omega)
theorem mixu_zero (F G : Nat → Nat) : mixu F G 0 = G := by funext j; unfold mixu; rw [if_neg (by omega)]
theorem stp_a (v : Nat → Nat) (k w : Nat) : stp v k w 0 = ((((((v 7 + bs1 (v 4)) % 4294967296 + chf (v 4) (v 5) (v 6)) % 4294967296 + k) % 4294967296 + w) % 4294967296) + (bs0 (v 0) + mjf (v 0) (v 1) (v 2)) % 4294967296) % 4294967296 := by
 show (t1f v k w + t2f v) % 4294967296 = _
 unfold t1f t2f
 generalize bs1 (v 4) = y1
 generalize chf (v 4) (v 5) (v 6) = y2
 generalize bs0 (v 0) = y3
 generalize mjf (v 0) (v 1) (v 2) = y4
 omega
theorem stp_e (v : Nat → Nat) (k w : Nat) : stp v k w 4 = (v 3 + ((((v 7 + bs1 (v 4)) % 4294967296 + chf (v 4) (v 5) (v 6)) % 4294967296 + k) % 4294967296 + w) % 4294967296) % 4294967296 := by
 show (v 3 + t1f v k w) % 4294967296 = _
 unfold t1f
 generalize bs1 (v 4) = y1
 generalize chf (v 4) (v 5) (v 6) = y2
 omega
end Go.Proofs.Ytchiiphmpkmloaa
