/- The two array types of the program: their zero values, sizes, literals. -/
import Derived.Test.YtmmjjohnejimdaaRows
import Derived.Test.YtmmjjohnejimdaaKit
import Derived.Test.YtmmjjohnejimdaaVal
namespace Go.Proofs.Ytmmjjohnejimdaa
open Go.RowKit

theorem info_bits : (Try.prog.info? 58).map (fun i => (i.zero, i.size)) = some (some (.agg (Array.replicate 256 (.bool false))), 256) := by kernel_rfl
theorem zero_bits (w : World) : (zeroValue 58).run Try.prog w = .ok (.agg (bitC 0)) w := by rw [bitC_zero]; exact (zero_of_info info_bits).1 w
theorem size_bits : (Try.prog.info? 58).map (·.size) = some 256 := (zero_of_info info_bits).2
theorem built_bits : Try.prog.built 58 [] = some (bitC 0) := by rw [bitC_zero]; kernel_rfl
theorem info_nat : (Try.prog.info? 24).map (fun i => (i.zero, i.size)) = some (some (.agg (natC 0)), 4) := by kernel_rfl
theorem zero_nat (w : World) : (zeroValue 24).run Try.prog w = .ok (.agg (natC 0)) w := (zero_of_info info_nat).1 w
theorem size_nat : (Try.prog.info? 24).map (·.size) = some 4 := (zero_of_info info_nat).2
theorem built_nat : Try.prog.built 24 [] = some (natC 0) := by kernel_rfl
theorem cell_nat {w : World} {b N : Nat} (h : Row w b (natC N) 24) (i : Nat) (hi : i < 4) : w.cell? ⟨b, i, none⟩ = some (.int .u64 (lm N i)) := by rw [h.cell]; exact natC_get _ _ hi
theorem cell_bits {w : World} {b N : Nat} (h : Row w b (bitC N) 58) (i : Nat) (hi : i < 256) : w.cell? ⟨b, i, none⟩ = some (.bool (N.testBit i)) := by rw [h.cell]; exact bitC_get _ _ hi
end Go.Proofs.Ytmmjjohnejimdaa
