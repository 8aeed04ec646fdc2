/- Parameters that came in as an argument, opened. -/
import Derived.Test.YtbmkebdfaokmhaaPOpen
import Derived.Test.YtbmkebdfaokmhaaGTypes
namespace Go.Proofs.Ytbmkebdfaokmhaa
open Go.ChangeShapes Go.WideShapes Go.ChangeAt Go.RowKit
theorem cellsPar : Try.prog.cellsOf 27 = 5 := by kernel_rfl
theorem cellsSl : Try.prog.cellsOf 22 = 1 := by kernel_rfl
/-- A cell that reads as a slice is one; its elements, cell by cell. -/
theorem open_rowC {H : Type} {enc : TypeId × Value → H} {P : Program} {W : World} {k : Nat} {t e : TypeId} {c0 : Value} {fuel : Nat} {x0 : DataW H × List MemPlace} (hk : 0 < k) (ht : P.underlying t = some (.slice e)) (hc : P.cellsOf e = k)
  (hf : DataW.trod enc P W 0 (fun _ => true) true fuel t [c0] = some x0) :
  ∃ ab n c, c0 = .slice ab n c ∧ n ≤ c ∧ c ≤ maxLen ∧ (n = 0 ∨ ∃ gb ob bcs tb, ab = some ⟨gb, ob, none⟩ ∧ RowR W gb bcs tb ∧
   ∀ i, i < n → ∃ (l : List Value) (m : Nat) (x : DataW H × List MemPlace), l.length = k ∧ (∀ j v, l[j]? = some v → bcs[ob + i * k + j]? = some v) ∧ DataW.trod enc P W 0 (fun _ => true) true m e l = some x) := by
 rcases Deep.open_slice ht hf with ⟨h1, _⟩ | ⟨a', len', cap', m, n, D, Pl, h1, hb, hl, hm, hmm, _, hel⟩
 ·simp at h1
  subst h1
  exact ⟨none, 0, 0, rfl, Nat.le_refl _, Nat.zero_le _, .inl rfl⟩
 ·simp at h1
  subst h1
  have hmc : m = cap' := hmm.trans (if_pos rfl)
  refine ⟨_, _, _, rfl, hl, hm, ?_⟩
  by_cases hn : len' = 0
  ·exact .inl hn
  right
  obtain ⟨gb, ob, sp⟩ := a'
  obtain ⟨c0, hc0, hd0⟩ := hel 0 (by omega)
  rw [hc] at hc0
  obtain ⟨_, hl0, hg0⟩ := World.cells?_some hc0
  have h00 := hg0 0 hk
  rw [show ((⟨gb, ob, sp⟩ : Addr).add (0 * k)).add 0 = ⟨gb, ob, sp⟩ by simp [Addr.add]] at h00
  obtain ⟨v, hv0⟩ : ∃ v, c0[0]? = some v := ⟨c0[0]'(by omega), List.getElem?_eq_getElem (by omega)⟩
  obtain ⟨hsp, bcs, tb, hR⟩ := row_of_cell (h00.trans hv0)
  dsimp only at hsp hR
  subst hsp
  refine ⟨gb, ob, bcs, tb, rfl, hR, fun i hi => ?_⟩
  obtain ⟨ci, hci, hdi⟩ := hel i (by omega)
  rw [hc] at hci
  obtain ⟨_, hli, hgi⟩ := World.cells?_some hci
  refine ⟨ci, n, _, hli, fun j v hj => ?_, hdi⟩
  have hjl : j < k := by
   have := (List.getElem?_eq_some_iff.1 hj).1
   omega
  have := hgi j hjl
  rw [Deep.add_add, show (⟨gb, ob, none⟩ : Addr).add (i * k + j) = ⟨gb, ob + i * k + j, none⟩ by unfold Addr.add; split <;> simp <;> omega, hR.cell, hj] at this
  exact this
set_option maxRecDepth 100000 in
/-- Parameters. -/
theorem open_pars {H : Type} {enc : TypeId × Value → H} {W : World} {base : Nat} {v0 : Value} {d0 : DataW H} {p0 : List MemPlace}
  (hv : Value.okWide Try.prog W .any base 27 v0) (h0 : DataW.Trod enc Try.prog W 0 (fun _ => true) true 27 v0 d0 p0) :
  ∃ ab n c G N A gb ob bcs tb, v0 = .agg (paC ab n c G) ∧ n < 9223372036854775808 ∧ G < 2 ^ 256 ∧ LinksAt W ab n N A gb ob bcs tb := by
 obtain ⟨cs, rfl, hsz⟩ := okWide_struct Try.underlying27 hv
 rw [cellsPar] at hsz
 obtain ⟨l⟩ := cs
 obtain ⟨c0, c1, c2, c3, c4, rfl⟩ := list5 l (by simpa using hsz)
 obtain ⟨fuel, hf⟩ := h0
 obtain ⟨y0, y1, m, _, _, hy0, hy1⟩ := trod_struct2 Try.underlying27 hf
 dsimp only at hy0 hy1
 rw [cellsSl] at hy0
 rw [cellsNat] at hy1
 obtain ⟨ab, n, c, rfl, hn, hc, h⟩ := open_rowC (k := 5) (c0 := c0) (by decide) Try.underlying22 cellsLink hy0
 obtain ⟨G, hG, hl0⟩ := nat_of_trod (l := [c1, c2, c3, c4]) rfl hy1
 have e3 : [c1, c2, c3, c4] = [.int .u64 (lm G 0), .int .u64 (lm G 1), .int .u64 (lm G 2), .int .u64 (lm G 3)] := hl0
 simp only [List.cons.injEq, and_true] at e3
 obtain ⟨rfl, rfl, rfl, rfl⟩ := e3
 have hn63 : n < 9223372036854775808 := by
  have : maxLen = 9223372036854775807 := rfl
  omega
 rcases h with rfl | ⟨gb, ob, bcs, tb, rfl, hR, hel⟩
 ·exact ⟨_, _, _, G, fun _ => 0, fun _ => 0, 0, 0, #[], 0, rfl, hn63, hG, .inl rfl, fun i hi => absurd hi (Nat.not_lt_zero _)⟩
 have : ∀ i, i < n → ∃ p : Nat × Int, p.1 < 2 ^ 256 ∧ ∀ j v, (lkC p.1 p.2).toList[j]? = some v → bcs[ob + i * 5 + j]? = some v := fun i hi => by
  obtain ⟨l, m, x, hl, hg, hd⟩ := hel i hi
  obtain ⟨N, z, hN, rfl⟩ := link_of_trod hl hd
  exact ⟨(N, z), hN, hg⟩
 obtain ⟨e, he⟩ := Deep.choose_lt this
 exact ⟨_, _, _, G, fun i => (e i).1, fun i => (e i).2, gb, ob, bcs, tb, rfl, hn63, hG, .inr ⟨rfl, hR, fun i hi => (he i hi).2⟩, fun i hi => (he i hi).1⟩
end Go.Proofs.Ytbmkebdfaokmhaa
