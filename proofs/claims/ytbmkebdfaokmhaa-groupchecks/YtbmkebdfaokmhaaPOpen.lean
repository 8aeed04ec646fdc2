/- A slice of links that came in as an argument, opened. -/
import Derived.Test.YtbmkebdfaokmhaaPAwake
import Derived.Test.YtbmkebdfaokmhaaGU
namespace Go.Proofs.Ytbmkebdfaokmhaa
open Go.ChangeShapes Go.WideShapes Go.ChangeAt Go.RowKit
theorem cellsLink : Try.prog.cellsOf 58 = 5 := by kernel_rfl
theorem cellsInt : Try.prog.cellsOf 3 = 1 := by kernel_rfl
theorem list5 : ∀ (l : List Value), l.length = 5 → ∃ a b c d e, l = [a, b, c, d, e]
 | [a, b, c, d, e], _ => ⟨a, b, c, d, e, rfl⟩
 | [], h => by simp at h
 | [_], h => by simp at h
 | [_, _], h => by simp at h
 | [_, _, _], h => by simp at h
 | [_, _, _, _], h => by simp at h
 | _ :: _ :: _ :: _ :: _ :: _ :: _, h => by simp at h
set_option maxRecDepth 100000 in
/-- Five cells that read as a link are one. -/
theorem link_of_trod {H : Type} {enc : TypeId × Value → H} {W : World} {fuel : Nat} {l : List Value} {x : DataW H × List MemPlace} (hl : l.length = 5)
  (h : DataW.trod enc Try.prog W 0 (fun _ => true) true fuel 58 l = some x) : ∃ (N : Nat) (z : Int), N < 2 ^ 256 ∧ l = (lkC N z).toList := by
 obtain ⟨c0, c1, c2, c3, c4, rfl⟩ := list5 l hl
 obtain ⟨y0, y1, n, _, _, h0, h1⟩ := trod_struct2 Try.underlying58 h
 dsimp only at h0 h1
 rw [cellsNat] at h0
 rw [cellsInt] at h1
 obtain ⟨N, hN, hl0⟩ := nat_of_trod (l := [c0, c1, c2, c3]) rfl h0
 obtain ⟨z, e1, _, _⟩ := DataW.trod_int Try.underlying3 h1
 refine ⟨N, z, hN, ?_⟩
 have e2 : c4 = .int .i64 z := by simpa using e1
 have e3 : [c0, c1, c2, c3] = [.int .u64 (lm N 0), .int .u64 (lm N 1), .int .u64 (lm N 2), .int .u64 (lm N 3)] := hl0
 simp only [List.cons.injEq, and_true] at e3
 obtain ⟨rfl, rfl, rfl, rfl⟩ := e3
 subst e2
 rfl
set_option maxRecDepth 100000 in
/-- A slice of links. -/
theorem open_links {H : Type} {enc : TypeId × Value → H} {W : World} {base : Nat} {v0 : Value} {d0 : DataW H} {p0 : List MemPlace}
  (hv : Value.okWide Try.prog W .any base 22 v0) (h0 : DataW.Trod enc Try.prog W 0 (fun _ => true) true 22 v0 d0 p0) :
  ∃ ab n c N A gb ob bcs tb, v0 = .slice ab n c ∧ n ≤ c ∧ c ≤ maxLen ∧ LinksAt W ab n N A gb ob bcs tb := by
 obtain ⟨ab, n, c, rfl, hn, hc, h⟩ := open_row (k := 5) (by decide) Try.underlying22 cellsLink hv h0
 rcases h with rfl | ⟨gb, ob, bcs, tb, rfl, hR, hel⟩
 ·exact ⟨_, _, _, fun _ => 0, fun _ => 0, 0, 0, #[], 0, rfl, hn, hc, .inl rfl, fun i hi => absurd hi (Nat.not_lt_zero _)⟩
 have : ∀ i, i < n → ∃ p : Nat × Int, p.1 < 2 ^ 256 ∧ ∀ j v, (lkC p.1 p.2).toList[j]? = some v → bcs[ob + i * 5 + j]? = some v := fun i hi => by
  obtain ⟨l, m, x, hl, hg, hd⟩ := hel i hi
  obtain ⟨N, z, hN, rfl⟩ := link_of_trod hl hd
  exact ⟨(N, z), hN, hg⟩
 obtain ⟨e, he⟩ := Deep.choose_lt this
 exact ⟨_, _, _, fun i => (e i).1, fun i => (e i).2, gb, ob, bcs, tb, rfl, hn, hc, .inr ⟨rfl, hR, fun i hi => (he i hi).2⟩, fun i hi => (he i hi).1⟩
end Go.Proofs.Ytbmkebdfaokmhaa
