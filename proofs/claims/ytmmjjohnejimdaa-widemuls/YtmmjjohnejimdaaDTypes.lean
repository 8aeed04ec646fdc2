/- The array type of digits: its zero value, its size, its literal. -/
import Derived.Test.YtmmjjohnejimdaaTypes
import Derived.Test.YtmmjjohnejimdaaDMath
namespace Go.Proofs.Ytmmjjohnejimdaa
open Go.RowKit

theorem info_dig : (Try.prog.info? 50).map (fun i => (i.zero, i.size)) = some (some (.agg (Array.replicate 32 (.int .i64 0))), 32) := by kernel_rfl
theorem zero_dig (w : World) : (zeroValue 50).run Try.prog w = .ok (.agg (digC 0)) w := by rw [digC_zero]; exact (zero_of_info info_dig).1 w
theorem size_dig : (Try.prog.info? 50).map (·.size) = some 32 := (zero_of_info info_dig).2
theorem built_dig : Try.prog.built 50 [] = some (digC 0) := by rw [digC_zero]; kernel_rfl
theorem cell_dig {w : World} {b N : Nat} (h : Row w b (digC N) 50) (i : Nat) (hi : i < 32) : w.cell? ⟨b, i, none⟩ = some (.int .i64 (dg N i : Nat)) := by rw [h.cell]; exact digC_get _ _ hi
theorem cell_digF {w : World} {b : Nat} {f : Nat → Nat} (h : Row w b (digF f) 50) (i : Nat) (hi : i < 32) : w.cell? ⟨b, i, none⟩ = some (.int .i64 (f i : Nat)) := by rw [h.cell]; exact digF_get _ _ hi
theorem below_dn {B : Nat} {a w : World} (h : Below B a w) (n : Nat) : Below B a (w.drewN n) := h.trans ⟨rfl, rfl, rfl, Nat.le_refl _, fun _ _ => rfl⟩
end Go.Proofs.Ytmmjjohnejimdaa
