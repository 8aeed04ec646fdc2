/- Arguments of layer 21: votes, one or many; a stamp; two texts. -/
import Derived.Test.YtdbcikhineghcaaVtAwake
import Derived.ProofKit
import Derived.OpenShut
import Derived.ShutString
import Derived.ChangeOld
import Derived.ChangeSame
import Derived.Below
import Derived.Laws.IdiomArrays
import Derived.Deep.Slices
import Derived.Deep.Strs
import Derived.Lib.SmallJoins
namespace Go.Proofs.Ytdbcikhineghcaa
open Go.ChangeShapes Go.WideShapes Go.ChangeAt Go.RowKit
set_option linter.unusedVariables false
set_option linter.unusedSectionVars false
set_option linter.unusedSimpArgs false
theorem own : ownKnob Try.prog.godebug = none := by kernel_rfl
theorem laidOut : laidOutB Try.prog = true := by kernel_rfl
theorem lt_of_trod {H : Type} {enc : TypeId × Value → H} {W : World} {t : TypeId} {v : Value} {d : DataW H} {p : List MemPlace} (h : DataW.Trod enc Try.prog W 0 (fun _ => true) true t v d p) : ∀ x ∈ p, x.block < W.heap.size := by
 obtain ⟨m, hm⟩ := h
 exact DataW.trod_lt m _ _ _ hm
theorem row_of_cell {W : World} {a : Addr} {v : Value} (h : W.cell? a = some v) : a.spot = none ∧ ∃ c t, RowR W a.block c t := by
 unfold World.cell? at h
 split at h
 ·rename_i c t fr hh
  split at h
  ·cases h
  ·rename_i hs
   exact ⟨by simpa using hs, c, t, fr, hh⟩
 ·cases h
theorem open_row {H : Type} {enc : TypeId × Value → H} {P : Program} {W : World} {base k : Nat} {t e : TypeId} {v0 : Value} {d0 : DataW H} {p0 : List MemPlace} (hk : 0 < k) (ht : P.underlying t = some (.slice e)) (hc : P.cellsOf e = k)
  (hv : Value.okWide P W .any base t v0) (h0 : DataW.Trod enc P W 0 (fun _ => true) true t v0 d0 p0) :
  ∃ ab n c, v0 = .slice ab n c ∧ n ≤ c ∧ c ≤ maxLen ∧ (n = 0 ∨ ∃ gb ob bcs tb, ab = some ⟨gb, ob, none⟩ ∧ RowR W gb bcs tb ∧
   ∀ i, i < n → ∃ (l : List Value) (m : Nat) (x : DataW H × List MemPlace), l.length = k ∧ (∀ j v, l[j]? = some v → bcs[ob + i * k + j]? = some v) ∧ DataW.trod enc P W 0 (fun _ => true) true m e l = some x) := by
 obtain ⟨a, len, cap, rfl⟩ := okWide_slice ht hv
 obtain ⟨fuel, hf⟩ := h0
 rcases Deep.open_slice ht hf with ⟨h1, _⟩ | ⟨a', len', cap', m, n, D, Pl, h1, hb, hl, hm, hmm, _, hel⟩
 ·simp [Value.cells] at h1
  obtain ⟨rfl, rfl, rfl⟩ := h1
  exact ⟨none, 0, 0, rfl, Nat.le_refl _, Nat.zero_le _, .inl rfl⟩
 ·simp [Value.cells] at h1
  obtain ⟨rfl, rfl, rfl⟩ := h1
  have hmc : m = cap := hmm.trans (if_pos rfl)
  refine ⟨_, _, _, rfl, hl, hm, ?_⟩
  by_cases hn : len = 0
  ·exact .inl hn
  right
  obtain ⟨gb, ob, sp⟩ := a'
  obtain ⟨c0, hc0, hd0⟩ := hel 0 (by omega)
  rw [hc] at hc0
  obtain ⟨_, hl0, hg0⟩ := World.cells?_some hc0
  have h00 := hg0 0 hk
  rw [show ((⟨gb, ob, sp⟩ : Addr).add (0 * k)).add 0 = ⟨gb, ob, sp⟩ by simp [Addr.add]] at h00
  obtain ⟨v, hv0⟩ : ∃ v, c0[0]? = some v := ⟨c0[0]'(by omega), List.getElem?_eq_getElem (by omega)⟩
  obtain ⟨hsp, bcs, tb, hR⟩ := row_of_cell (h00.trans hv0)
  dsimp only at hsp hR
  subst hsp
  refine ⟨gb, ob, bcs, tb, rfl, hR, fun i hi => ?_⟩
  obtain ⟨ci, hci, hdi⟩ := hel i (by omega)
  rw [hc] at hci
  obtain ⟨_, hli, hgi⟩ := World.cells?_some hci
  refine ⟨ci, n, _, hli, fun j v hj => ?_, hdi⟩
  have hjl : j < k := by
   have := (List.getElem?_eq_some_iff.1 hj).1
   omega
  have := hgi j hjl
  rw [Deep.add_add, show (⟨gb, ob, none⟩ : Addr).add (i * k + j) = ⟨gb, ob + i * k + j, none⟩ by unfold Addr.add; split <;> simp <;> omega, hR.cell, hj] at this
  exact this
theorem cells_z1 : Try.prog.cellsOf 3 = 1 := by kernel_rfl
theorem cells_st2 : Try.prog.cellsOf 32 = 2 := by kernel_rfl
theorem open_st {H : Type} {enc : TypeId × Value → H} {W : World} {base : Nat} {v0 : Value} {d0 : DataW H} {p0 : List MemPlace}
  (hv : Value.okWide Try.prog W .any base 32 v0) (h0 : DataW.Trod enc Try.prog W 0 (fun _ => true) true 32 v0 d0 p0) :
  ∃ x y : Int, v0 = .agg (tsC x y) := by
 obtain ⟨cs, rfl, hsz⟩ := okWide_struct Try.underlying32 hv
 rw [cells_st2] at hsz
 obtain ⟨c0, c1, rfl⟩ := Go.Joins.array2 hsz
 obtain ⟨fuel, hf⟩ := h0
 obtain ⟨y0, y1, m, _, _, hy0, hy1⟩ := trod_struct2 Try.underlying32 hf
 dsimp only at hy0 hy1
 rw [cells_z1] at hy0 hy1
 obtain ⟨x, e0, _, _⟩ := DataW.trod_int Try.underlying3 hy0
 obtain ⟨y, e1, _, _⟩ := DataW.trod_int Try.underlying3 hy1
 have i0 : c0 = .int .i64 x := by simpa [Value.cells] using e0
 have i1 : c1 = .int .i64 y := by simpa [Value.cells] using e1
 exact ⟨x, y, by rw [i0, i1]; rfl⟩
theorem cells_rv4 : Try.prog.cellsOf 34 = 4 := by kernel_rfl
theorem cells_str1 : Try.prog.cellsOf 9 = 1 := by kernel_rfl
theorem cells_s2 : Try.prog.cellsOf 42 = 2 := by kernel_rfl
theorem str_ofv {c : Value} {s : ByteArray} (h : [c] = [Value.string s]) : ∃ l : List UInt8, c = .string ⟨l.toArray⟩ := by
 obtain ⟨⟨l⟩⟩ := s
 exact ⟨l, by simpa using h⟩
theorem list4v : ∀ (l : List Value), l.length = 4 → ∃ a b c d, l = [a, b, c, d]
 | [a, b, c, d], _ => ⟨a, b, c, d, rfl⟩
/-- The cells of a vote that came in. -/
theorem rv_of {H : Type} {enc : TypeId × Value → H} {W : World} {fuel : Nat} {l : List Value} {x0 : DataW H × List MemPlace} (hl : l.length = 4) (h : DataW.trod enc Try.prog W 0 (fun _ => true) true fuel 34 l = some x0) :
  ∃ x : Rv, l = (rvA x).toList := by
 obtain ⟨c0, c1, c2, c3, rfl⟩ := list4v l hl
 obtain ⟨xs, k, _, _, _, hlen, hg⟩ := DataW.trod_struct Try.underlying34 h
 have hx : ∀ i, i < 3 → ∃ y, xs[i]? = some y := fun i hi => ⟨xs[i]'(by rw [hlen]; exact hi), List.getElem?_eq_getElem _⟩
 obtain ⟨y0, e0⟩ := hx 0 (by decide)
 obtain ⟨y1, e1⟩ := hx 1 (by decide)
 obtain ⟨y2, e2⟩ := hx 2 (by decide)
 have g0 : DataW.trod enc Try.prog W 0 (fun _ => true) true k 3 (([c0, c1, c2, c3].drop 0).take (Try.prog.cellsOf 3)) = some y0 := (hg 0 _ rfl).trans e0
 have g1 : DataW.trod enc Try.prog W 0 (fun _ => true) true k 32 (([c0, c1, c2, c3].drop 1).take (Try.prog.cellsOf 32)) = some y1 := (hg 1 _ rfl).trans e1
 have g2 : DataW.trod enc Try.prog W 0 (fun _ => true) true k 9 (([c0, c1, c2, c3].drop 3).take (Try.prog.cellsOf 9)) = some y2 := (hg 2 _ rfl).trans e2
 clear hg hx e0 e1 e2
 rw [cells_z1] at g0
 rw [cells_st2] at g1
 rw [cells_str1] at g2
 replace g1 : DataW.trod enc Try.prog W 0 (fun _ => true) true k 32 [c1, c2] = some y1 := g1
 obtain ⟨z0, z1, k3, _, _, hz0, hz1⟩ := trod_struct2 Try.underlying32 g1
 dsimp only at hz0 hz1
 rw [cells_z1] at hz0 hz1
 obtain ⟨a, i0, _, _⟩ := DataW.trod_int Try.underlying3 g0
 obtain ⟨s, i1, _, _⟩ := DataW.trod_int Try.underlying3 hz0
 obtain ⟨c, i2, _, _⟩ := DataW.trod_int Try.underlying3 hz1
 obtain ⟨sd, i3, _, _⟩ := DataW.trod_string Try.underlying9 g2
 have j0 : c0 = .int .i64 a := by simpa using i0
 have j1 : c1 = .int .i64 s := by simpa using i1
 have j2 : c2 = .int .i64 c := by simpa using i2
 obtain ⟨d, j3⟩ := str_ofv (c := c3) (s := sd) (by simpa using i3)
 exact ⟨(a, s, c, d), by rw [j0, j1, j2, j3]; rfl⟩
theorem open_rv {H : Type} {enc : TypeId × Value → H} {W : World} {base : Nat} {v0 : Value} {d0 : DataW H} {p0 : List MemPlace}
  (hv : Value.okWide Try.prog W .any base 34 v0) (h0 : DataW.Trod enc Try.prog W 0 (fun _ => true) true 34 v0 d0 p0) :
  ∃ x : Rv, v0 = .agg (rvA x) := by
 obtain ⟨cs, rfl, hsz⟩ := okWide_struct Try.underlying34 hv
 rw [cells_rv4] at hsz
 obtain ⟨fuel, hf⟩ := h0
 obtain ⟨x, hx⟩ := rv_of (l := cs.toList) (by simpa using hsz) hf
 exact ⟨x, by rw [show cs = rvA x from Array.toList_inj.1 hx]⟩
theorem open_rvs {H : Type} {enc : TypeId × Value → H} {W : World} {base : Nat} {v0 : Value} {d0 : DataW H} {p0 : List MemPlace}
  (hv : Value.okWide Try.prog W .any base 22 v0) (h0 : DataW.Trod enc Try.prog W 0 (fun _ => true) true 22 v0 d0 p0) :
  ∃ ab c L gb ob bcs tb, v0 = .slice ab (List.length L) c ∧ L.length ≤ maxLen ∧ ElsAt 4 W ab L.length (lsC L) gb ob bcs tb := by
 obtain ⟨ab, n, c, rfl, hn, hc, h⟩ := open_row (k := 4) (by decide) Try.underlying22 cells_rv4 hv h0
 rcases h with rfl | ⟨gb, ob, bcs, tb, rfl, hR, hel⟩
 ·exact ⟨ab, c, [], 0, 0, #[], 0, rfl, Nat.zero_le _, ⟨.inl rfl⟩⟩
 have : ∀ i, i < n → ∃ x : Rv, ∀ j v, (rvA x).toList[j]? = some v → bcs[ob + i * 4 + j]? = some v := fun i hi => by
  obtain ⟨l, m, x, hl, hg, hd⟩ := hel i hi
  obtain ⟨x, rfl⟩ := rv_of hl hd
  exact ⟨x, hg⟩
 obtain ⟨e, he⟩ := Deep.choose_lt this
 have hlen : ((List.range n).map e).length = n := by simp
 refine ⟨_, c, (List.range n).map e, gb, ob, bcs, tb, by rw [hlen], by rw [hlen]; exact Nat.le_trans hn hc, ⟨.inr ⟨rfl, hR, fun i hi => ?_⟩⟩⟩
 rw [hlen] at hi
 have e1 : lsC ((List.range n).map e) i = rvA (e i) := by
  unfold lsC
  rw [List.getD_eq_getElem?_getD]
  simp [hi]
 rw [e1]
 exact he i hi
theorem open_s2 {H : Type} {enc : TypeId × Value → H} {W : World} {base : Nat} {v0 : Value} {d0 : DataW H} {p0 : List MemPlace}
  (hv : Value.okWide Try.prog W .any base 42 v0) (h0 : DataW.Trod enc Try.prog W 0 (fun _ => true) true 42 v0 d0 p0) :
  ∃ x y : List UInt8, v0 = .agg #[.string ⟨x.toArray⟩, .string ⟨y.toArray⟩] := by
 obtain ⟨cs, rfl, hsz, _⟩ : ∃ cs, v0 = .agg cs ∧ cs.size = Try.prog.cellsOf 42 ∧ Row.okWide Try.prog W .any base 42 cs := by
  simpa [Value.okWide, Try.underlying42] using hv
 rw [cells_s2] at hsz
 obtain ⟨l⟩ := cs
 obtain ⟨c0, c1, rfl⟩ : ∃ a b, l = [a, b] := by
  match l, hsz with
  | [a, b], _ => exact ⟨a, b, rfl⟩
 obtain ⟨fuel, hf⟩ := h0
 obtain ⟨xs, m, _, _, _, hl, hg⟩ := DataW.trod_array Try.underlying42 hf
 have h0 := hg 0 (by decide)
 have h1 := hg 1 (by decide)
 rw [cells_str1] at h0 h1
 simp [Value.cells] at h0 h1
 have e0 : xs[0]? = some xs[0] := List.getElem?_eq_getElem (by omega)
 have e1 : xs[1]? = some xs[1] := List.getElem?_eq_getElem (by omega)
 obtain ⟨x, i0, _, _⟩ := DataW.trod_string Try.underlying9 (h0.trans e0)
 obtain ⟨y, i1, _, _⟩ := DataW.trod_string Try.underlying9 (h1.trans e1)
 obtain ⟨a, j0⟩ := str_ofv (c := c0) (s := x) (by simpa using i0)
 obtain ⟨b, j1⟩ := str_ofv (c := c1) (s := y) (by simpa using i1)
 exact ⟨a, b, by rw [j0, j1]⟩
end Go.Proofs.Ytdbcikhineghcaa
