/- Arguments of layer 20: stamps, ints, seven ints. -/
import Derived.Test.YtdgbjmolinoplaaStBase
import Derived.ProofKit
import Derived.OpenShut
import Derived.ShutString
import Derived.ChangeOld
import Derived.ChangeSame
import Derived.Below
import Derived.Laws.IdiomArrays
import Derived.Deep.Slices
import Derived.Lib.SmallJoins
namespace Go.Proofs.Ytdgbjmolinoplaa
open Go.ChangeShapes Go.WideShapes Go.ChangeAt Go.RowKit
set_option linter.unusedVariables false
set_option linter.unusedSectionVars false
set_option linter.unusedSimpArgs false
theorem own : ownKnob Try.prog.godebug = none := by kernel_rfl
theorem laidOut : laidOutB Try.prog = true := by kernel_rfl
theorem lt_of_trod {H : Type} {enc : TypeId × Value → H} {W : World} {t : TypeId} {v : Value} {d : DataW H} {p : List MemPlace} (h : DataW.Trod enc Try.prog W 0 (fun _ => true) true t v d p) : ∀ x ∈ p, x.block < W.heap.size := by
 obtain ⟨m, hm⟩ := h
 exact DataW.trod_lt m _ _ _ hm
theorem row_of_cell {W : World} {a : Addr} {v : Value} (h : W.cell? a = some v) : a.spot = none ∧ ∃ c t, RowR W a.block c t := by
 unfold World.cell? at h
 split at h
 ·rename_i c t fr hh
  split at h
  ·cases h
  ·rename_i hs
   exact ⟨by simpa using hs, c, t, fr, hh⟩
 ·cases h
theorem open_row {H : Type} {enc : TypeId × Value → H} {P : Program} {W : World} {base k : Nat} {t e : TypeId} {v0 : Value} {d0 : DataW H} {p0 : List MemPlace} (hk : 0 < k) (ht : P.underlying t = some (.slice e)) (hc : P.cellsOf e = k)
  (hv : Value.okWide P W .any base t v0) (h0 : DataW.Trod enc P W 0 (fun _ => true) true t v0 d0 p0) :
  ∃ ab n c, v0 = .slice ab n c ∧ n ≤ c ∧ c ≤ maxLen ∧ (n = 0 ∨ ∃ gb ob bcs tb, ab = some ⟨gb, ob, none⟩ ∧ RowR W gb bcs tb ∧
   ∀ i, i < n → ∃ (l : List Value) (m : Nat) (x : DataW H × List MemPlace), l.length = k ∧ (∀ j v, l[j]? = some v → bcs[ob + i * k + j]? = some v) ∧ DataW.trod enc P W 0 (fun _ => true) true m e l = some x) := by
 obtain ⟨a, len, cap, rfl⟩ := okWide_slice ht hv
 obtain ⟨fuel, hf⟩ := h0
 rcases Deep.open_slice ht hf with ⟨h1, _⟩ | ⟨a', len', cap', m, n, D, Pl, h1, hb, hl, hm, hmm, _, hel⟩
 ·simp [Value.cells] at h1
  obtain ⟨rfl, rfl, rfl⟩ := h1
  exact ⟨none, 0, 0, rfl, Nat.le_refl _, Nat.zero_le _, .inl rfl⟩
 ·simp [Value.cells] at h1
  obtain ⟨rfl, rfl, rfl⟩ := h1
  have hmc : m = cap := hmm.trans (if_pos rfl)
  refine ⟨_, _, _, rfl, hl, hm, ?_⟩
  by_cases hn : len = 0
  ·exact .inl hn
  right
  obtain ⟨gb, ob, sp⟩ := a'
  obtain ⟨c0, hc0, hd0⟩ := hel 0 (by omega)
  rw [hc] at hc0
  obtain ⟨_, hl0, hg0⟩ := World.cells?_some hc0
  have h00 := hg0 0 hk
  rw [show ((⟨gb, ob, sp⟩ : Addr).add (0 * k)).add 0 = ⟨gb, ob, sp⟩ by simp [Addr.add]] at h00
  obtain ⟨v, hv0⟩ : ∃ v, c0[0]? = some v := ⟨c0[0]'(by omega), List.getElem?_eq_getElem (by omega)⟩
  obtain ⟨hsp, bcs, tb, hR⟩ := row_of_cell (h00.trans hv0)
  dsimp only at hsp hR
  subst hsp
  refine ⟨gb, ob, bcs, tb, rfl, hR, fun i hi => ?_⟩
  obtain ⟨ci, hci, hdi⟩ := hel i (by omega)
  rw [hc] at hci
  obtain ⟨_, hli, hgi⟩ := World.cells?_some hci
  refine ⟨ci, n, _, hli, fun j v hj => ?_, hdi⟩
  have hjl : j < k := by
   have := (List.getElem?_eq_some_iff.1 hj).1
   omega
  have := hgi j hjl
  rw [Deep.add_add, show (⟨gb, ob, none⟩ : Addr).add (i * k + j) = ⟨gb, ob + i * k + j, none⟩ by unfold Addr.add; split <;> simp <;> omega, hR.cell, hj] at this
  exact this
theorem cells_z1 : Try.prog.cellsOf 3 = 1 := by kernel_rfl
set_option maxRecDepth 100000 in
theorem open_zs {H : Type} {enc : TypeId × Value → H} {W : World} {base : Nat} {v0 : Value} {d0 : DataW H} {p0 : List MemPlace}
  (hv : Value.okWide Try.prog W .any base 31 v0) (h0 : DataW.Trod enc Try.prog W 0 (fun _ => true) true 31 v0 d0 p0) :
  ∃ ab n c Z gb ob bcs tb, v0 = .slice ab n c ∧ n ≤ c ∧ c ≤ maxLen ∧ ZsAt W ab n Z gb ob bcs tb := by
 obtain ⟨ab, n, c, rfl, hnc, hcm, hrow⟩ := open_row (k := 1) (by decide) Try.underlying31 cells_z1 hv h0
 rcases hrow with rfl | ⟨gb, ob, bcs, tb, rfl, hR, hel⟩
 ·exact ⟨_, _, _, fun _ => 0, 0, 0, #[], 0, rfl, hnc, hcm, ⟨.inl rfl⟩⟩
 ·have hs : ∀ i, i < n → ∃ z : Int, bcs[ob + i * 1]? = some (.int .i64 z) := by
   intro i hi
   obtain ⟨l, m, x, hl, hc, hd⟩ := hel i hi
   obtain ⟨z, rfl, _, hw⟩ := DataW.trod_int Try.underlying3 hd
   refine ⟨z, ?_⟩
   have := hc 0 _ rfl
   rw [Nat.add_zero] at this
   exact this
  obtain ⟨e, he⟩ := Deep.choose_lt hs
  exact ⟨_, _, _, e, gb, ob, bcs, tb, rfl, hnc, hcm, ⟨.inr ⟨rfl, hR, he⟩⟩⟩
theorem cells_st2 : Try.prog.cellsOf 23 = 2 := by kernel_rfl
theorem open_st {H : Type} {enc : TypeId × Value → H} {W : World} {base : Nat} {v0 : Value} {d0 : DataW H} {p0 : List MemPlace}
  (hv : Value.okWide Try.prog W .any base 23 v0) (h0 : DataW.Trod enc Try.prog W 0 (fun _ => true) true 23 v0 d0 p0) :
  ∃ x y : Int, v0 = .agg (tsC x y) := by
 obtain ⟨cs, rfl, hsz⟩ := okWide_struct Try.underlying23 hv
 rw [cells_st2] at hsz
 obtain ⟨c0, c1, rfl⟩ := Go.Joins.array2 hsz
 obtain ⟨fuel, hf⟩ := h0
 obtain ⟨y0, y1, m, _, _, hy0, hy1⟩ := trod_struct2 Try.underlying23 hf
 dsimp only at hy0 hy1
 rw [cells_z1] at hy0 hy1
 obtain ⟨x, e0, _, _⟩ := DataW.trod_int Try.underlying3 hy0
 obtain ⟨y, e1, _, _⟩ := DataW.trod_int Try.underlying3 hy1
 have i0 : c0 = .int .i64 x := by simpa [Value.cells] using e0
 have i1 : c1 = .int .i64 y := by simpa [Value.cells] using e1
 exact ⟨x, y, by rw [i0, i1]; rfl⟩
end Go.Proofs.Ytdgbjmolinoplaa
