import Derived.Test.YtgdalihjpemjiaaGreatSA
import Derived.Test.YtgdalihjpemjiaaGreatGU
set_option maxRecDepth 100000
set_option maxHeartbeats 2000000
namespace Go.Proofs.YtgdalihjpemjiaaGreat
set_option linter.unusedVariables false
open Go.ChangeShapes Go.WideShapes Go.ChangeAt Go.RowKit
theorem cells_sh : Tryz.prog.cellsOf 48 = 5 := by kernel_rfl
theorem cells_si : Tryz.prog.cellsOf 3 = 1 := by kernel_rfl
theorem lst5 : ∀ (l : List Value), l.length = 5 → ∃ a b c d e, l = [a, b, c, d, e]
 | [a, b, c, d, e], _ => ⟨a, b, c, d, e, rfl⟩
 | [], h => by simp at h
 | [_], h => by simp at h
 | [_, _], h => by simp at h
 | [_, _, _], h => by simp at h
 | [_, _, _, _], h => by simp at h
 | _ :: _ :: _ :: _ :: _ :: _ :: _, h => by simp at h
theorem sh_of_trod {H : Type} {enc : TypeId × Value → H} {W : World} {fuel : Nat} {l : List Value} {x : DataW H × List MemPlace} (hl : l.length = 5)
  (h : DataW.trod enc Tryz.prog W 0 (fun _ => true) true fuel 48 l = some x) : ∃ (z : Int) (N : Nat), N < 2 ^ 256 ∧ (-9223372036854775808 ≤ z ∧ z < 9223372036854775808) ∧ l = (shC z N).toList := by
 obtain ⟨c0, c1, c2, c3, c4, rfl⟩ := lst5 l hl
 obtain ⟨y0, y1, n, _, _, h0, h1⟩ := trod_struct2 Tryz.underlying48 h
 dsimp only at h0 h1
 rw [cells_si] at h0
 rw [cellsNat] at h1
 obtain ⟨z, e1, _, hw⟩ := DataW.trod_int Tryz.underlying3 h0
 obtain ⟨N, hN, hl0⟩ := nat_of_trod (l := [c1, c2, c3, c4]) rfl h1
 refine ⟨z, N, hN, by have := bounds_i64 hw; omega, ?_⟩
 have e2 : c0 = .int .i64 z := by simpa using e1
 have e3 : [c1, c2, c3, c4] = [.int .u64 (lm N 0), .int .u64 (lm N 1), .int .u64 (lm N 2), .int .u64 (lm N 3)] := hl0
 simp only [List.cons.injEq, and_true] at e3
 obtain ⟨rfl, rfl, rfl, rfl⟩ := e3
 subst e2
 rfl
theorem open_sh {H : Type} {enc : TypeId × Value → H} {W : World} {base : Nat} {v0 : Value} {d0 : DataW H} {p0 : List MemPlace}
  (hv : Value.okWide Tryz.prog W .any base 48 v0) (h0 : DataW.Trod enc Tryz.prog W 0 (fun _ => true) true 48 v0 d0 p0) :
  ∃ (z : Int) (N : Nat), v0 = .agg (shC z N) ∧ N < 2 ^ 256 ∧ -9223372036854775808 ≤ z ∧ z < 9223372036854775808 := by
 obtain ⟨cs, rfl, hsz⟩ := okWide_struct Tryz.underlying48 hv
 rw [cells_sh] at hsz
 obtain ⟨l⟩ := cs
 obtain ⟨fuel, hf⟩ := h0
 obtain ⟨z, N, hN, hz, e⟩ := sh_of_trod (l := l) (by simpa using hsz) hf
 exact ⟨z, N, by rw [show (shC z N) = ⟨l⟩ by apply Array.ext'; exact e.symm], hN, hz⟩
end Go.Proofs.YtgdalihjpemjiaaGreat
