/- Frames, and two numbers, that came in as arguments, opened. -/
import Derived.Test.YtdanmnhknmepiaaDoorFrFun
import Derived.Test.YtdanmnhknmepiaaDoorSLaid
import Derived.Lib.SmallJoins
namespace Go.Proofs.YtdanmnhknmepiaaDoor
open Go.ChangeShapes Go.WideShapes Go.ChangeAt Go.RowKit
set_option linter.unusedVariables false
theorem cells_fr : Tryd.prog.cellsOf 25 = 4 := by kernel_rfl
theorem cells_fi : Tryd.prog.cellsOf 3 = 1 := by kernel_rfl
theorem cells_fs : Tryd.prog.cellsOf 9 = 1 := by kernel_rfl
theorem str_of {c : Value} {s : ByteArray} (h : [c] = [Value.string s]) : ∃ l : List UInt8, c = .string ⟨l.toArray⟩ := by
 obtain ⟨⟨l⟩⟩ := s
 exact ⟨l, by simpa using h⟩
/-- A frame. -/
theorem open_fr {H : Type} {enc : TypeId × Value → H} {W : World} {base : Nat} {v0 : Value} {d0 : DataW H} {p0 : List MemPlace}
  (hv : Value.okWide Tryd.prog W .any base 25 v0) (h0 : DataW.Trod enc Tryd.prog W 0 (fun _ => true) true 25 v0 d0 p0) :
  ∃ (x y : Int) (b t : List UInt8), v0 = .agg (frC x y b t) := by
 obtain ⟨cs, rfl, hsz⟩ := okWide_struct Tryd.underlying25 hv
 rw [cells_fr] at hsz
 obtain ⟨c0, c1, c2, c3, rfl⟩ := Go.Joins.array4 hsz
 obtain ⟨fuel, hf⟩ := h0
 obtain ⟨y0, y1, y2, y3, m, _, _, hy0, hy1, hy2, hy3⟩ := Go.Joins.trod_struct4 Tryd.underlying25 hf
 dsimp only at hy0 hy1 hy2 hy3
 rw [cells_fi] at hy0 hy1
 rw [cells_fs] at hy2 hy3
 obtain ⟨x, e0, _, _⟩ := DataW.trod_int Tryd.underlying3 hy0
 obtain ⟨y, e1, _, _⟩ := DataW.trod_int Tryd.underlying3 hy1
 obtain ⟨sb, e2, _, _⟩ := DataW.trod_string Tryd.underlying9 hy2
 obtain ⟨st, e3, _, _⟩ := DataW.trod_string Tryd.underlying9 hy3
 have i0 : c0 = .int .i64 x := by simpa [Value.cells] using e0
 have i1 : c1 = .int .i64 y := by simpa [Value.cells] using e1
 obtain ⟨b, i2⟩ := str_of (c := c2) (s := sb) (by simpa [Value.cells] using e2)
 obtain ⟨t, i3⟩ := str_of (c := c3) (s := st) (by simpa [Value.cells] using e3)
 exact ⟨x, y, b, t, by rw [i0, i1, i2, i3]; rfl⟩
theorem cells_fi2 : Tryd.prog.cellsOf 22 = 2 := by kernel_rfl
theorem open_i2F {H : Type} {enc : TypeId × Value → H} {W : World} {base : Nat} {v0 : Value} {d0 : DataW H} {p0 : List MemPlace}
  (hv : Value.okWide Tryd.prog W .any base 22 v0) (h0 : DataW.Trod enc Tryd.prog W 0 (fun _ => true) true 22 v0 d0 p0) :
  ∃ x y : Int, v0 = .agg #[.int .i64 x, .int .i64 y] := by
 obtain ⟨cs, rfl, hsz, _⟩ : ∃ cs, v0 = .agg cs ∧ cs.size = Tryd.prog.cellsOf 22 ∧ Row.okWide Tryd.prog W .any base 22 cs := by
  simpa [Value.okWide, Tryd.underlying22] using hv
 rw [cells_fi2] at hsz
 obtain ⟨l⟩ := cs
 obtain ⟨c0, c1, rfl⟩ : ∃ a b, l = [a, b] := by
  match l, hsz with
  | [a, b], _ => exact ⟨a, b, rfl⟩
 obtain ⟨fuel, hf⟩ := h0
 obtain ⟨xs, m, _, _, _, hl, hg⟩ := DataW.trod_array Tryd.underlying22 hf
 have h0 := hg 0 (by decide)
 have h1 := hg 1 (by decide)
 rw [cells_fi] at h0 h1
 simp [Value.cells] at h0 h1
 have e0 : xs[0]? = some xs[0] := List.getElem?_eq_getElem (by omega)
 have e1 : xs[1]? = some xs[1] := List.getElem?_eq_getElem (by omega)
 obtain ⟨x, i0, _, _⟩ := DataW.trod_int Tryd.underlying3 (h0.trans e0)
 obtain ⟨y, i1, _, _⟩ := DataW.trod_int Tryd.underlying3 (h1.trans e1)
 have j0 : c0 = .int .i64 x := by simpa using i0
 have j1 : c1 = .int .i64 y := by simpa using i1
 exact ⟨x, y, by rw [j0, j1]⟩
end Go.Proofs.YtdanmnhknmepiaaDoor
