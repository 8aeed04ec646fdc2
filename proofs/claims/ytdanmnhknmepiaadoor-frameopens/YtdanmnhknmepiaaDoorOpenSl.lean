/- A slice that came in as an argument, opened: its cells, element by element; of naturals: their numbers. -/
import Derived.Test.YtdanmnhknmepiaaDoorOpen
import Derived.Deep.Slices
namespace Go.Proofs.YtdanmnhknmepiaaDoor
open Go.ChangeShapes Go.WideShapes Go.ChangeAt Go.RowKit
theorem row_of_cell {W : World} {a : Addr} {v : Value} (h : W.cell? a = some v) : a.spot = none ∧ ∃ c t, RowR W a.block c t := by
 unfold World.cell? at h
 split at h
 ·rename_i c t fr hh
  split at h
  ·cases h
  ·rename_i hs
   exact ⟨by simpa using hs, c, t, fr, hh⟩
 ·cases h
theorem open_row {H : Type} {enc : TypeId × Value → H} {P : Program} {W : World} {base k : Nat} {t e : TypeId} {v0 : Value} {d0 : DataW H} {p0 : List MemPlace} (hk : 0 < k) (ht : P.underlying t = some (.slice e)) (hc : P.cellsOf e = k)
  (hv : Value.okWide P W .any base t v0) (h0 : DataW.Trod enc P W 0 (fun _ => true) true t v0 d0 p0) :
  ∃ ab n c, v0 = .slice ab n c ∧ n ≤ c ∧ c ≤ maxLen ∧ (n = 0 ∨ ∃ gb ob bcs tb, ab = some ⟨gb, ob, none⟩ ∧ RowR W gb bcs tb ∧
   ∀ i, i < n → ∃ (l : List Value) (m : Nat) (x : DataW H × List MemPlace), l.length = k ∧ (∀ j v, l[j]? = some v → bcs[ob + i * k + j]? = some v) ∧ DataW.trod enc P W 0 (fun _ => true) true m e l = some x) := by
 obtain ⟨a, len, cap, rfl⟩ := okWide_slice ht hv
 obtain ⟨fuel, hf⟩ := h0
 rcases Deep.open_slice ht hf with ⟨h1, _⟩ | ⟨a', len', cap', m, n, D, Pl, h1, hb, hl, hm, hmm, _, hel⟩
 ·simp [Value.cells] at h1
  obtain ⟨rfl, rfl, rfl⟩ := h1
  exact ⟨none, 0, 0, rfl, Nat.le_refl _, Nat.zero_le _, .inl rfl⟩
 ·simp [Value.cells] at h1
  obtain ⟨rfl, rfl, rfl⟩ := h1
  have hmc : m = cap := hmm.trans (if_pos rfl)
  refine ⟨_, _, _, rfl, hl, hm, ?_⟩
  by_cases hn : len = 0
  ·exact .inl hn
  right
  obtain ⟨gb, ob, sp⟩ := a'
  obtain ⟨c0, hc0, hd0⟩ := hel 0 (by omega)
  rw [hc] at hc0
  obtain ⟨_, hl0, hg0⟩ := World.cells?_some hc0
  have h00 := hg0 0 hk
  rw [show ((⟨gb, ob, sp⟩ : Addr).add (0 * k)).add 0 = ⟨gb, ob, sp⟩ by simp [Addr.add]] at h00
  obtain ⟨v, hv0⟩ : ∃ v, c0[0]? = some v := ⟨c0[0]'(by omega), List.getElem?_eq_getElem (by omega)⟩
  obtain ⟨hsp, bcs, tb, hR⟩ := row_of_cell (h00.trans hv0)
  dsimp only at hsp hR
  subst hsp
  refine ⟨gb, ob, bcs, tb, rfl, hR, fun i hi => ?_⟩
  obtain ⟨ci, hci, hdi⟩ := hel i (by omega)
  rw [hc] at hci
  obtain ⟨_, hli, hgi⟩ := World.cells?_some hci
  refine ⟨ci, n, _, hli, fun j v hj => ?_, hdi⟩
  have hjl : j < k := by
   have := (List.getElem?_eq_some_iff.1 hj).1
   omega
  have := hgi j hjl
  rw [Deep.add_add, show (⟨gb, ob, none⟩ : Addr).add (i * k + j) = ⟨gb, ob + i * k + j, none⟩ by unfold Addr.add; split <;> simp <;> omega, hR.cell, hj] at this
  exact this
end Go.Proofs.YtdanmnhknmepiaaDoor
