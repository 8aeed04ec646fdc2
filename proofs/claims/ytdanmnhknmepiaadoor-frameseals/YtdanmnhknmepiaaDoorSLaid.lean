/- The constants where the program's own text has laid them. -/
import Derived.Test.YtdanmnhknmepiaaDoorSSum2
import Derived.Test.YtdanmnhknmepiaaDoorOpenSl
import Derived.Test.YtdanmnhknmepiaaDoorTie
import Derived.Test.YtdanmnhknmepiaaDoorCards
import Derived.LaidMore
import Derived.Lib.LaidTab
import Derived.SevenTiedAt
namespace Go.Proofs.YtdanmnhknmepiaaDoor
open Go.ChangeShapes Go.WideShapes Go.ChangeAt Go.RowKit
set_option linter.unusedVariables false
/-- What the rows list. -/
def lk : List (String × DataW Unit) := [("sacristy/sha.constants", Rows.laid_sacristy_sha_constants)]
theorem gConst : Tryd.prog.globalNamed "sacristy/sha.constants" = some 0 := by kernel_rfl
theorem tConst : (Tryd.prog.globals[0]?).map (·.type) = some 64 := by kernel_rfl
theorem cells_w : Tryd.prog.cellsOf 52 = 1 := by kernel_rfl
theorem cells_64w : Tryd.prog.cellsOf 64 = 64 := by kernel_rfl
theorem door_met (os : Os) (args : Array Value) : laidMetH Tryd.prog lk ((World.doorLaid Tryd.prog 14 os).forCall (fun _ _ => 0) ⟨#[], args, []⟩).memory :=
 laidMetH_of_parts3 (fuel := 8) (laidMet_of_run' 8 (by kernel_rfl) (by kernel_rfl)) (by kernel_rfl) (by kernel_rfl)
theorem tab_kL : (Rows.laid_sacristy_sha_constants : DataW Unit) = Lib.tabData .u32 (kL.map fun (n : Nat) => (n : Int)) := by kernel_rfl
theorem kt_of_laid {W : World} (h : laidMetH Tryd.prog lk W) : KT W := by
 rw [MakeChecks.laidMetH_plain _ _ _ (by kernel_rfl)] at h
 unfold lk at h
 rw [tab_kL] at h
 have hT := Lib.tabIs_of_head gConst tConst Tryd.underlying64 Tryd.underlying52 cells_w cells_64w h
 have hc : ∀ i, i < 64 → W.cell? ⟨0, i, none⟩ = some (.int .u32 (kf i : Nat)) := by
  intro i hi
  have hl : i < (kL.map fun (n : Nat) => (n : Int)).length := by rw [List.length_map]; exact hi
  rw [hT.cell gConst i hl]
  unfold kf
  rw [List.getD_eq_getElem?_getD, List.getElem?_map, List.getD_eq_getElem?_getD]
  cases kL[i]? <;> rfl
 obtain ⟨_, cs, t, hR⟩ := row_of_cell (hc 0 (by decide))
 exact ⟨cs, t, hR, fun i hi => by rw [← hR.cell]; exact hc i hi⟩
end Go.Proofs.YtdanmnhknmepiaaDoor
