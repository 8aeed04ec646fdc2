/- The tag of what do ya want for nothing? under the key Jefe. -/
import Derived.Test.YtiihgomjgdmabaaDoorHMath
import Derived.Test.YtiihgomjgdmabaaDoorSHexL
import Derived.KernelRfl
namespace Go.Proofs.YtiihgomjgdmabaaDoor
def kJ : List UInt8 := [74, 101, 102, 101]
def sJ : List UInt8 := [119, 104, 97, 116, 32, 100, 111, 32, 121, 97, 32, 119, 97, 110, 116, 32, 102, 111, 114, 32, 110, 111, 116, 104, 105, 110, 103, 63]
def iJ : List UInt8 := [124, 83, 80, 83, 54, 54, 54, 54, 54, 54, 54, 54, 54, 54, 54, 54, 54, 54, 54, 54, 54, 54, 54, 54, 54, 54, 54, 54, 54, 54, 54, 54, 54, 54, 54, 54, 54, 54, 54, 54, 54, 54, 54, 54, 54, 54, 54, 54, 54, 54, 54, 54, 54, 54, 54, 54, 54, 54, 54, 54, 54, 54, 54, 54]
def oJ : List UInt8 := [22, 57, 58, 57, 92, 92, 92, 92, 92, 92, 92, 92, 92, 92, 92, 92, 92, 92, 92, 92, 92, 92, 92, 92, 92, 92, 92, 92, 92, 92, 92, 92, 92, 92, 92, 92, 92, 92, 92, 92, 92, 92, 92, 92, 92, 92, 92, 92, 92, 92, 92, 92, 92, 92, 92, 92, 92, 92, 92, 92, 92, 92, 92, 92]
def dJ : List UInt8 := [162, 228, 133, 134, 61, 39, 249, 216, 100, 172, 141, 128, 36, 50, 161, 237, 71, 125, 140, 76, 111, 52, 157, 22, 212, 231, 233, 23, 198, 41, 202, 215]
def tJ : List UInt8 := [91, 220, 193, 70, 191, 96, 117, 78, 106, 4, 36, 38, 8, 149, 117, 199, 90, 0, 63, 8, 157, 39, 57, 131, 157, 236, 88, 185, 100, 236, 56, 67]
theorem turn_iJ : turnL kJ 54 = iJ := by kernel_rfl
theorem turn_oJ : turnL kJ 92 = oJ := by kernel_rfl
set_option maxRecDepth 1000000 in
theorem sha_iJ : sha (iJ ++ sJ) = dJ := by kernel_rfl
set_option maxRecDepth 1000000 in
theorem sha_oJ : sha (oJ ++ dJ) = tJ := by kernel_rfl
theorem hm_jefe : hm kJ sJ = tJ := by unfold hm; rw [turn_iJ, turn_oJ, sha_iJ, sha_oJ]
theorem hex_jefe : hexL tJ = [53, 98, 100, 99, 99, 49, 52, 54, 98, 102, 54, 48, 55, 53, 52, 101, 54, 97, 48, 52, 50, 52, 50, 54, 48, 56, 57, 53, 55, 53, 99, 55, 53, 97, 48, 48, 51, 102, 48, 56, 57, 100, 50, 55, 51, 57, 56, 51, 57, 100, 101, 99, 53, 56, 98, 57, 54, 52, 101, 99, 51, 56, 52, 51] := by kernel_rfl
end Go.Proofs.YtiihgomjgdmabaaDoor
