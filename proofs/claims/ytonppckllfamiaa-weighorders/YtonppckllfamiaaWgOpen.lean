/- Arguments of layer 17: bits, and slices of them. -/
import Derived.Test.YtonppckllfamiaaWgOwn
import Derived.ProofKit
import Derived.OpenShut
import Derived.ShutString
import Derived.ChangeOld
import Derived.Below
import Derived.Laws.IdiomArrays
import Derived.Deep.Slices
namespace Go.Proofs.Ytonppckllfamiaa
open Go.ChangeShapes Go.WideShapes Go.ChangeAt Go.RowKit
theorem own : ownKnob Try.prog.godebug = none := by kernel_rfl
theorem laidOut : laidOutB Try.prog = true := by kernel_rfl
theorem lt_of_trod {H : Type} {enc : TypeId × Value → H} {W : World} {t : TypeId} {v : Value} {d : DataW H} {p : List MemPlace} (h : DataW.Trod enc Try.prog W 0 (fun _ => true) true t v d p) : ∀ x ∈ p, x.block < W.heap.size := by
 obtain ⟨m, hm⟩ := h
 exact DataW.trod_lt m _ _ _ hm
theorem row_of_cell {W : World} {a : Addr} {v : Value} (h : W.cell? a = some v) : a.spot = none ∧ ∃ c t, RowR W a.block c t := by
 unfold World.cell? at h
 split at h
 ·rename_i c t fr hh
  split at h
  ·cases h
  ·rename_i hs
   exact ⟨by simpa using hs, c, t, fr, hh⟩
 ·cases h
theorem open_row {H : Type} {enc : TypeId × Value → H} {P : Program} {W : World} {base k : Nat} {t e : TypeId} {v0 : Value} {d0 : DataW H} {p0 : List MemPlace} (hk : 0 < k) (ht : P.underlying t = some (.slice e)) (hc : P.cellsOf e = k)
  (hv : Value.okWide P W .any base t v0) (h0 : DataW.Trod enc P W 0 (fun _ => true) true t v0 d0 p0) :
  ∃ ab n c, v0 = .slice ab n c ∧ n ≤ c ∧ c ≤ maxLen ∧ (n = 0 ∨ ∃ gb ob bcs tb, ab = some ⟨gb, ob, none⟩ ∧ RowR W gb bcs tb ∧
   ∀ i, i < n → ∃ (l : List Value) (m : Nat) (x : DataW H × List MemPlace), l.length = k ∧ (∀ j v, l[j]? = some v → bcs[ob + i * k + j]? = some v) ∧ DataW.trod enc P W 0 (fun _ => true) true m e l = some x) := by
 obtain ⟨a, len, cap, rfl⟩ := okWide_slice ht hv
 obtain ⟨fuel, hf⟩ := h0
 rcases Deep.open_slice ht hf with ⟨h1, _⟩ | ⟨a', len', cap', m, n, D, Pl, h1, hb, hl, hm, hmm, _, hel⟩
 ·simp [Value.cells] at h1
  obtain ⟨rfl, rfl, rfl⟩ := h1
  exact ⟨none, 0, 0, rfl, Nat.le_refl _, Nat.zero_le _, .inl rfl⟩
 ·simp [Value.cells] at h1
  obtain ⟨rfl, rfl, rfl⟩ := h1
  have hmc : m = cap := hmm.trans (if_pos rfl)
  refine ⟨_, _, _, rfl, hl, hm, ?_⟩
  by_cases hn : len = 0
  ·exact .inl hn
  right
  obtain ⟨gb, ob, sp⟩ := a'
  obtain ⟨c0, hc0, hd0⟩ := hel 0 (by omega)
  rw [hc] at hc0
  obtain ⟨_, hl0, hg0⟩ := World.cells?_some hc0
  have h00 := hg0 0 hk
  rw [show ((⟨gb, ob, sp⟩ : Addr).add (0 * k)).add 0 = ⟨gb, ob, sp⟩ by simp [Addr.add]] at h00
  obtain ⟨v, hv0⟩ : ∃ v, c0[0]? = some v := ⟨c0[0]'(by omega), List.getElem?_eq_getElem (by omega)⟩
  obtain ⟨hsp, bcs, tb, hR⟩ := row_of_cell (h00.trans hv0)
  dsimp only at hsp hR
  subst hsp
  refine ⟨gb, ob, bcs, tb, rfl, hR, fun i hi => ?_⟩
  obtain ⟨ci, hci, hdi⟩ := hel i (by omega)
  rw [hc] at hci
  obtain ⟨_, hli, hgi⟩ := World.cells?_some hci
  refine ⟨ci, n, _, hli, fun j v hj => ?_, hdi⟩
  have hjl : j < k := by
   have := (List.getElem?_eq_some_iff.1 hj).1
   omega
  have := hgi j hjl
  rw [Deep.add_add, show (⟨gb, ob, none⟩ : Addr).add (i * k + j) = ⟨gb, ob + i * k + j, none⟩ by unfold Addr.add; split <;> simp <;> omega, hR.cell, hj] at this
  exact this
theorem bounds_u6 {n : Int} (h : (Lit.int .u64 n).wf = true) : 0 ≤ n ∧ n < 18446744073709551616 := by
 simp [Lit.wf, IntKind.min, IntKind.max, IntKind.signed, IntKind.bits] at h
 omega
theorem open_u6 {H : Type} {enc : TypeId × Value → H} {W : World} {base : Nat} {v0 : Value} {d0 : DataW H} {p0 : List MemPlace}
  (hv : Value.okWide Try.prog W .any base 22 v0) (h0 : DataW.Trod enc Try.prog W 0 (fun _ => true) true 22 v0 d0 p0) :
  ∃ b : Nat, v0 = .int .u64 (b : Nat) ∧ b < 18446744073709551616 := by
 obtain ⟨a, rfl, _, _, hw⟩ := open_int Try.underlying22 hv h0
 have h := bounds_u6 hw
 exact ⟨a.toNat, by rw [Int.toNat_of_nonneg h.1], by omega⟩
theorem cells_u6 : Try.prog.cellsOf 22 = 1 := by kernel_rfl
set_option maxRecDepth 100000 in
theorem open_u6s {H : Type} {enc : TypeId × Value → H} {W : World} {base : Nat} {v0 : Value} {d0 : DataW H} {p0 : List MemPlace}
  (hv : Value.okWide Try.prog W .any base 29 v0) (h0 : DataW.Trod enc Try.prog W 0 (fun _ => true) true 29 v0 d0 p0) :
  ∃ ab n c B gb ob bcs tb, v0 = .slice ab n c ∧ VsAt W ab n (u6v B) gb ob bcs tb ∧ ∀ i, i < n → B i < 18446744073709551616 := by
 obtain ⟨ab, n, c, rfl, hnc, hcm, hrow⟩ := open_row (k := 1) (by decide) Try.underlying29 cells_u6 hv h0
 rcases hrow with rfl | ⟨gb, ob, bcs, tb, rfl, hR, hel⟩
 ·exact ⟨_, _, _, fun _ => 0, 0, 0, #[], 0, rfl, ⟨.inl rfl⟩, fun i h => by omega⟩
 ·have hs : ∀ i, i < n → ∃ z : Nat, bcs[ob + i * 1]? = some (.int .u64 (z : Nat)) ∧ z < 18446744073709551616 := by
   intro i hi
   obtain ⟨l, m, x, hl, hc, hd⟩ := hel i hi
   obtain ⟨z, rfl, _, hw⟩ := DataW.trod_int Try.underlying22 hd
   have hb := bounds_u6 hw
   refine ⟨z.toNat, ?_, by omega⟩
   have := hc 0 _ rfl
   rw [Nat.add_zero] at this
   rw [this, Int.toNat_of_nonneg hb.1]
  obtain ⟨e, he⟩ := Deep.choose_lt hs
  exact ⟨_, _, _, e, gb, ob, bcs, tb, rfl, ⟨.inr ⟨rfl, hR, fun i hi => (he i hi).1⟩⟩, fun i hi => (he i hi).2⟩
end Go.Proofs.Ytonppckllfamiaa
