/- A natural that came in as an argument: its number; the facts that every law's frame asks. -/
import Derived.Test.YtdanmnhknmepiaaDoorSA
import Derived.ProofKit
import Derived.OpenShut
import Derived.ShutString
import Derived.ChangeOld
import Derived.Below
import Derived.Laws.IdiomArrays
namespace Go.Proofs.YtdanmnhknmepiaaDoor
open Go.ChangeShapes Go.WideShapes Go.ChangeAt Go.RowKit
theorem own : ownKnob Tryd.prog.godebug = none := by kernel_rfl
theorem laidOut : laidOutB Tryd.prog = true := by kernel_rfl
theorem cellsU : Tryd.prog.cellsOf 54 = 1 := by kernel_rfl
theorem natC_of4 (a b c d : Nat) (ha : a < 18446744073709551616) (hb : b < 18446744073709551616) (hc : c < 18446744073709551616) (hd : d < 18446744073709551616) :
  natC (a + 18446744073709551616 * (b + 18446744073709551616 * (c + 18446744073709551616 * d))) = #[.int .u64 a, .int .u64 b, .int .u64 c, .int .u64 d] ∧
  a + 18446744073709551616 * (b + 18446744073709551616 * (c + 18446744073709551616 * d)) < 2 ^ 256 := by
 refine ⟨?_, by omega⟩
 unfold natC lm
 rw [show 2 ^ (64 * 0) = 1 from rfl, show 2 ^ (64 * 1) = 18446744073709551616 from rfl, show 2 ^ (64 * 2) = 18446744073709551616 * 18446744073709551616 from rfl, show 2 ^ (64 * 3) = 18446744073709551616 * (18446744073709551616 * 18446744073709551616) from rfl,
  Nat.div_one, ← Nat.div_div_eq_div_mul, ← Nat.div_div_eq_div_mul, ← Nat.div_div_eq_div_mul]
 rw [show (a + 18446744073709551616 * (b + 18446744073709551616 * (c + 18446744073709551616 * d))) / 18446744073709551616 = b + 18446744073709551616 * (c + 18446744073709551616 * d) by omega,
  show (b + 18446744073709551616 * (c + 18446744073709551616 * d)) / 18446744073709551616 = c + 18446744073709551616 * d by omega,
  show (c + 18446744073709551616 * d) / 18446744073709551616 = d by omega,
  show (a + 18446744073709551616 * (b + 18446744073709551616 * (c + 18446744073709551616 * d))) % 2 ^ 64 = a by omega,
  show (b + 18446744073709551616 * (c + 18446744073709551616 * d)) % 2 ^ 64 = b by omega,
  show (c + 18446744073709551616 * d) % 2 ^ 64 = c by omega,
  show d % 2 ^ 64 = d by omega]
theorem list4 : ∀ (l : List Value), l.toArray.size = 4 → ∃ a b c d, l = [a, b, c, d]
 | [a, b, c, d], _ => ⟨a, b, c, d, rfl⟩
 | [], h => by simp at h
 | [_], h => by simp at h
 | [_, _], h => by simp at h
 | [_, _, _], h => by simp at h
 | _ :: _ :: _ :: _ :: _ :: _, h => by simp at h
theorem lt_of_trod {H : Type} {enc : TypeId × Value → H} {W : World} {t : TypeId} {v : Value} {d : DataW H} {p : List MemPlace} (h : DataW.Trod enc Tryd.prog W 0 (fun _ => true) true t v d p) : ∀ x ∈ p, x.block < W.heap.size := by
 obtain ⟨m, hm⟩ := h
 exact DataW.trod_lt m _ _ _ hm
end Go.Proofs.YtdanmnhknmepiaaDoor
