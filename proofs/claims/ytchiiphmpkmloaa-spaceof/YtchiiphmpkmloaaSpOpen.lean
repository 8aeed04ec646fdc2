/- Arguments of layer 22: keys and ends; two ints; four ints; four texts; texts; ints. -/
import Derived.Test.YtchiiphmpkmloaaSpAwake
import Derived.ProofKit
import Derived.OpenShut
import Derived.ShutString
import Derived.ChangeOld
import Derived.ChangeSame
import Derived.Below
import Derived.Laws.IdiomArrays
import Derived.Deep.Slices
import Derived.Deep.Strs
import Derived.Lib.SmallJoins
namespace Go.Proofs.Ytchiiphmpkmloaa
open Go.ChangeShapes Go.WideShapes Go.ChangeAt Go.RowKit
set_option linter.unusedVariables false
set_option linter.unusedSectionVars false
set_option linter.unusedSimpArgs false
theorem own : ownKnob Try.prog.godebug = none := by kernel_rfl
theorem laidOut : laidOutB Try.prog = true := by kernel_rfl
theorem lt_of_trod {H : Type} {enc : TypeId × Value → H} {W : World} {t : TypeId} {v : Value} {d : DataW H} {p : List MemPlace} (h : DataW.Trod enc Try.prog W 0 (fun _ => true) true t v d p) : ∀ x ∈ p, x.block < W.heap.size := by
 obtain ⟨m, hm⟩ := h
 exact DataW.trod_lt m _ _ _ hm
theorem row_of_cell {W : World} {a : Addr} {v : Value} (h : W.cell? a = some v) : a.spot = none ∧ ∃ c t, RowR W a.block c t := by
 unfold World.cell? at h
 split at h
 ·rename_i c t fr hh
  split at h
  ·cases h
  ·rename_i hs
   exact ⟨by simpa using hs, c, t, fr, hh⟩
 ·cases h
theorem open_row {H : Type} {enc : TypeId × Value → H} {P : Program} {W : World} {base k : Nat} {t e : TypeId} {v0 : Value} {d0 : DataW H} {p0 : List MemPlace} (hk : 0 < k) (ht : P.underlying t = some (.slice e)) (hc : P.cellsOf e = k)
  (hv : Value.okWide P W .any base t v0) (h0 : DataW.Trod enc P W 0 (fun _ => true) true t v0 d0 p0) :
  ∃ ab n c, v0 = .slice ab n c ∧ n ≤ c ∧ c ≤ maxLen ∧ (n = 0 ∨ ∃ gb ob bcs tb, ab = some ⟨gb, ob, none⟩ ∧ RowR W gb bcs tb ∧
   ∀ i, i < n → ∃ (l : List Value) (m : Nat) (x : DataW H × List MemPlace), l.length = k ∧ (∀ j v, l[j]? = some v → bcs[ob + i * k + j]? = some v) ∧ DataW.trod enc P W 0 (fun _ => true) true m e l = some x) := by
 obtain ⟨a, len, cap, rfl⟩ := okWide_slice ht hv
 obtain ⟨fuel, hf⟩ := h0
 rcases Deep.open_slice ht hf with ⟨h1, _⟩ | ⟨a', len', cap', m, n, D, Pl, h1, hb, hl, hm, hmm, _, hel⟩
 ·simp [Value.cells] at h1
  obtain ⟨rfl, rfl, rfl⟩ := h1
  exact ⟨none, 0, 0, rfl, Nat.le_refl _, Nat.zero_le _, .inl rfl⟩
 ·simp [Value.cells] at h1
  obtain ⟨rfl, rfl, rfl⟩ := h1
  have hmc : m = cap := hmm.trans (if_pos rfl)
  refine ⟨_, _, _, rfl, hl, hm, ?_⟩
  by_cases hn : len = 0
  ·exact .inl hn
  right
  obtain ⟨gb, ob, sp⟩ := a'
  obtain ⟨c0, hc0, hd0⟩ := hel 0 (by omega)
  rw [hc] at hc0
  obtain ⟨_, hl0, hg0⟩ := World.cells?_some hc0
  have h00 := hg0 0 hk
  rw [show ((⟨gb, ob, sp⟩ : Addr).add (0 * k)).add 0 = ⟨gb, ob, sp⟩ by simp [Addr.add]] at h00
  obtain ⟨v, hv0⟩ : ∃ v, c0[0]? = some v := ⟨c0[0]'(by omega), List.getElem?_eq_getElem (by omega)⟩
  obtain ⟨hsp, bcs, tb, hR⟩ := row_of_cell (h00.trans hv0)
  dsimp only at hsp hR
  subst hsp
  refine ⟨gb, ob, bcs, tb, rfl, hR, fun i hi => ?_⟩
  obtain ⟨ci, hci, hdi⟩ := hel i (by omega)
  rw [hc] at hci
  obtain ⟨_, hli, hgi⟩ := World.cells?_some hci
  refine ⟨ci, n, _, hli, fun j v hj => ?_, hdi⟩
  have hjl : j < k := by
   have := (List.getElem?_eq_some_iff.1 hj).1
   omega
  have := hgi j hjl
  rw [Deep.add_add, show (⟨gb, ob, none⟩ : Addr).add (i * k + j) = ⟨gb, ob + i * k + j, none⟩ by unfold Addr.add; split <;> simp <;> omega, hR.cell, hj] at this
  exact this
theorem cells_z1 : Try.prog.cellsOf 3 = 1 := by kernel_rfl
theorem cells_str1' : Try.prog.cellsOf 9 = 1 := by kernel_rfl
theorem cells_ac2 : Try.prog.cellsOf 37 = 2 := by kernel_rfl
theorem cells_i2 : Try.prog.cellsOf 22 = 2 := by kernel_rfl
theorem cells_i4 : Try.prog.cellsOf 50 = 4 := by kernel_rfl
theorem cells_s4 : Try.prog.cellsOf 49 = 4 := by kernel_rfl
theorem str_ofv {c : Value} {s : ByteArray} (h : [c] = [Value.string s]) : ∃ l : List UInt8, c = .string ⟨l.toArray⟩ := by
 obtain ⟨⟨l⟩⟩ := s
 exact ⟨l, by simpa using h⟩
theorem list2v : ∀ (l : List Value), l.length = 2 → ∃ a b, l = [a, b]
 | [a, b], _ => ⟨a, b, rfl⟩
theorem list4v : ∀ (l : List Value), l.length = 4 → ∃ a b c d, l = [a, b, c, d]
 | [a, b, c, d], _ => ⟨a, b, c, d, rfl⟩
/-- The cells of an act that came in. -/
theorem ac_of {H : Type} {enc : TypeId × Value → H} {W : World} {fuel : Nat} {l : List Value} {x0 : DataW H × List MemPlace} (hl : l.length = 2) (h : DataW.trod enc Try.prog W 0 (fun _ => true) true fuel 37 l = some x0) :
  ∃ x : Ac, l = (acA x).toList := by
 obtain ⟨c0, c1, rfl⟩ := list2v l hl
 obtain ⟨z0, z1, k3, _, _, hz0, hz1⟩ := trod_struct2 Try.underlying37 h
 dsimp only at hz0 hz1
 rw [cells_str1'] at hz0
 rw [cells_z1] at hz1
 obtain ⟨sd, i0, _, _⟩ := DataW.trod_string Try.underlying9 hz0
 obtain ⟨e, i1, _, _⟩ := DataW.trod_int Try.underlying3 hz1
 obtain ⟨d, j0⟩ := str_ofv (c := c0) (s := sd) (by simpa using i0)
 have j1 : c1 = .int .i64 e := by simpa using i1
 exact ⟨(d, e), by rw [j0, j1]; rfl⟩
theorem open_acs {H : Type} {enc : TypeId × Value → H} {W : World} {base : Nat} {v0 : Value} {d0 : DataW H} {p0 : List MemPlace}
  (hv : Value.okWide Try.prog W .any base 23 v0) (h0 : DataW.Trod enc Try.prog W 0 (fun _ => true) true 23 v0 d0 p0) :
  ∃ ab c L gb ob bcs tb, v0 = .slice ab (List.length L) c ∧ L.length ≤ maxLen ∧ ElsAt 2 W ab L.length (acC L) gb ob bcs tb := by
 obtain ⟨ab, n, c, rfl, hn, hc, h⟩ := open_row (k := 2) (by decide) Try.underlying23 cells_ac2 hv h0
 rcases h with rfl | ⟨gb, ob, bcs, tb, rfl, hR, hel⟩
 ·exact ⟨ab, c, [], 0, 0, #[], 0, rfl, Nat.zero_le _, ⟨.inl rfl⟩⟩
 have : ∀ i, i < n → ∃ x : Ac, ∀ j v, (acA x).toList[j]? = some v → bcs[ob + i * 2 + j]? = some v := fun i hi => by
  obtain ⟨l, m, x, hl, hg, hd⟩ := hel i hi
  obtain ⟨x, rfl⟩ := ac_of hl hd
  exact ⟨x, hg⟩
 obtain ⟨e, he⟩ := Deep.choose_lt this
 have hlen : ((List.range n).map e).length = n := by simp
 refine ⟨_, c, (List.range n).map e, gb, ob, bcs, tb, by rw [hlen], by rw [hlen]; exact Nat.le_trans hn hc, ⟨.inr ⟨rfl, hR, fun i hi => ?_⟩⟩⟩
 rw [hlen] at hi
 have e1 : acC ((List.range n).map e) i = acA (e i) := by
  unfold acC
  rw [List.getD_eq_getElem?_getD]
  simp [hi]
 rw [e1]
 exact he i hi
theorem open_kys {H : Type} {enc : TypeId × Value → H} {W : World} {base : Nat} {v0 : Value} {d0 : DataW H} {p0 : List MemPlace}
  (hv : Value.okWide Try.prog W .any base 30 v0) (h0 : DataW.Trod enc Try.prog W 0 (fun _ => true) true 30 v0 d0 p0) :
  ∃ ab c, ∃ L : List Ky, ∃ gb ob bcs tb, v0 = .slice ab L.length c ∧ L.length ≤ maxLen ∧ (ab = none → c = 0) ∧ ElsAt 1 W ab L.length (stC L) gb ob bcs tb := by
 have hn0 : ∀ n c, v0 = .slice none n c → c = 0 := fun n c e => by
  subst e
  obtain ⟨fuel, hf⟩ := h0
  rcases Deep.open_slice Try.underlying30 hf with ⟨h1, _⟩ | ⟨a', len', cap', m, n, D, Pl, h1, hb, hl, hm, hmm, _, hel⟩
  ·simp [Value.cells] at h1
   exact h1.2
  ·simp [Value.cells] at h1
 obtain ⟨ab, n, c, rfl, hn, hc, h⟩ := open_row (k := 1) (by decide) Try.underlying30 cells_str1' hv h0
 rcases h with rfl | ⟨gb, ob, bcs, tb, rfl, hR, hel⟩
 ·exact ⟨ab, c, [], 0, 0, #[], 0, rfl, Nat.zero_le _, fun e => hn0 0 c (by rw [e]), ⟨.inl rfl⟩⟩
 have : ∀ i, i < n → ∃ x : Ky, ∀ j v, (#[.string ⟨x.toArray⟩] : Array Value).toList[j]? = some v → bcs[ob + i * 1 + j]? = some v := fun i hi => by
  obtain ⟨l, m, x, hl, hg, hd⟩ := hel i hi
  obtain ⟨c0, rfl⟩ : ∃ c0, l = [c0] := List.length_eq_one_iff.1 hl
  obtain ⟨sd, i0, _, _⟩ := DataW.trod_string Try.underlying9 hd
  obtain ⟨x, j0⟩ := str_ofv (c := c0) (s := sd) (by simpa using i0)
  subst j0
  exact ⟨x, hg⟩
 obtain ⟨e, he⟩ := Deep.choose_lt this
 have hlen : ((List.range n).map e).length = n := by simp
 refine ⟨_, c, (List.range n).map e, gb, ob, bcs, tb, by rw [hlen], by rw [hlen]; exact Nat.le_trans hn hc, (fun h => by cases h), ⟨.inr ⟨rfl, hR, fun i hi => ?_⟩⟩⟩
 rw [hlen] at hi
 have e1 : stC ((List.range n).map e) i = #[.string ⟨(e i).toArray⟩] := by
  unfold stC
  rw [List.getD_eq_getElem?_getD]
  simp [hi]
 rw [e1]
 exact he i hi
theorem open_zl {H : Type} {enc : TypeId × Value → H} {W : World} {base : Nat} {v0 : Value} {d0 : DataW H} {p0 : List MemPlace}
  (hv : Value.okWide Try.prog W .any base 31 v0) (h0 : DataW.Trod enc Try.prog W 0 (fun _ => true) true 31 v0 d0 p0) :
  ∃ ab c, ∃ L : List Int, ∃ gb ob bcs tb, v0 = .slice ab L.length c ∧ L.length ≤ maxLen ∧ (ab = none → c = 0) ∧ ElsAt 1 W ab L.length (inC L) gb ob bcs tb := by
 have hn0 : ∀ n c, v0 = .slice none n c → c = 0 := fun n c e => by
  subst e
  obtain ⟨fuel, hf⟩ := h0
  rcases Deep.open_slice Try.underlying31 hf with ⟨h1, _⟩ | ⟨a', len', cap', m, n, D, Pl, h1, hb, hl, hm, hmm, _, hel⟩
  ·simp [Value.cells] at h1
   exact h1.2
  ·simp [Value.cells] at h1
 obtain ⟨ab, n, c, rfl, hn, hc, h⟩ := open_row (k := 1) (by decide) Try.underlying31 cells_z1 hv h0
 rcases h with rfl | ⟨gb, ob, bcs, tb, rfl, hR, hel⟩
 ·exact ⟨ab, c, [], 0, 0, #[], 0, rfl, Nat.zero_le _, fun e => hn0 0 c (by rw [e]), ⟨.inl rfl⟩⟩
 have : ∀ i, i < n → ∃ x : Int, ∀ j v, (#[.int .i64 x] : Array Value).toList[j]? = some v → bcs[ob + i * 1 + j]? = some v := fun i hi => by
  obtain ⟨l, m, x, hl, hg, hd⟩ := hel i hi
  obtain ⟨c0, rfl⟩ : ∃ c0, l = [c0] := List.length_eq_one_iff.1 hl
  obtain ⟨x, i0, _, _⟩ := DataW.trod_int Try.underlying3 hd
  have j0 : c0 = .int .i64 x := by simpa using i0
  subst j0
  exact ⟨x, hg⟩
 obtain ⟨e, he⟩ := Deep.choose_lt this
 have hlen : ((List.range n).map e).length = n := by simp
 refine ⟨_, c, (List.range n).map e, gb, ob, bcs, tb, by rw [hlen], by rw [hlen]; exact Nat.le_trans hn hc, (fun h => by cases h), ⟨.inr ⟨rfl, hR, fun i hi => ?_⟩⟩⟩
 rw [hlen] at hi
 have e1 : inC ((List.range n).map e) i = #[.int .i64 (e i)] := by
  unfold inC
  rw [List.getD_eq_getElem?_getD]
  simp [hi]
 rw [e1]
 exact he i hi
theorem open_i2 {H : Type} {enc : TypeId × Value → H} {W : World} {base : Nat} {v0 : Value} {d0 : DataW H} {p0 : List MemPlace}
  (hv : Value.okWide Try.prog W .any base 22 v0) (h0 : DataW.Trod enc Try.prog W 0 (fun _ => true) true 22 v0 d0 p0) :
  ∃ x y : Int, v0 = .agg #[.int .i64 x, .int .i64 y] ∧ x ≤ 9223372036854775807 := by
 obtain ⟨cs, rfl, hsz, _⟩ : ∃ cs, v0 = .agg cs ∧ cs.size = Try.prog.cellsOf 22 ∧ Row.okWide Try.prog W .any base 22 cs := by
  simpa [Value.okWide, Try.underlying22] using hv
 rw [cells_i2] at hsz
 obtain ⟨l⟩ := cs
 obtain ⟨c0, c1, rfl⟩ := list2v l hsz
 obtain ⟨fuel, hf⟩ := h0
 obtain ⟨xs, m, _, _, _, hl, hg⟩ := DataW.trod_array Try.underlying22 hf
 have h0 := hg 0 (by decide)
 rw [cells_z1] at h0
 simp [Value.cells] at h0
 have e0 : xs[0]? = some xs[0] := List.getElem?_eq_getElem (by omega)
 obtain ⟨v0, i0, _, w0⟩ := DataW.trod_int Try.underlying3 (h0.trans e0)
 have j0 : c0 = .int .i64 v0 := by simpa using i0
 have h1 := hg 1 (by decide)
 rw [cells_z1] at h1
 simp [Value.cells] at h1
 have e1 : xs[1]? = some xs[1] := List.getElem?_eq_getElem (by omega)
 obtain ⟨v1, i1, _, w1⟩ := DataW.trod_int Try.underlying3 (h1.trans e1)
 have j1 : c1 = .int .i64 v1 := by simpa using i1
 exact ⟨v0, v1, by rw [j0, j1], (bounds_i64 w0).2⟩
theorem open_i4 {H : Type} {enc : TypeId × Value → H} {W : World} {base : Nat} {v0 : Value} {d0 : DataW H} {p0 : List MemPlace}
  (hv : Value.okWide Try.prog W .any base 50 v0) (h0 : DataW.Trod enc Try.prog W 0 (fun _ => true) true 50 v0 d0 p0) :
  ∃ x y z u : Int, v0 = .agg #[.int .i64 x, .int .i64 y, .int .i64 z, .int .i64 u] := by
 obtain ⟨cs, rfl, hsz, _⟩ : ∃ cs, v0 = .agg cs ∧ cs.size = Try.prog.cellsOf 50 ∧ Row.okWide Try.prog W .any base 50 cs := by
  simpa [Value.okWide, Try.underlying50] using hv
 rw [cells_i4] at hsz
 obtain ⟨l⟩ := cs
 obtain ⟨c0, c1, c2, c3, rfl⟩ := list4v l hsz
 obtain ⟨fuel, hf⟩ := h0
 obtain ⟨xs, m, _, _, _, hl, hg⟩ := DataW.trod_array Try.underlying50 hf
 have h0 := hg 0 (by decide)
 rw [cells_z1] at h0
 simp [Value.cells] at h0
 have e0 : xs[0]? = some xs[0] := List.getElem?_eq_getElem (by omega)
 obtain ⟨v0, i0, _, w0⟩ := DataW.trod_int Try.underlying3 (h0.trans e0)
 have j0 : c0 = .int .i64 v0 := by simpa using i0
 have h1 := hg 1 (by decide)
 rw [cells_z1] at h1
 simp [Value.cells] at h1
 have e1 : xs[1]? = some xs[1] := List.getElem?_eq_getElem (by omega)
 obtain ⟨v1, i1, _, w1⟩ := DataW.trod_int Try.underlying3 (h1.trans e1)
 have j1 : c1 = .int .i64 v1 := by simpa using i1
 have h2 := hg 2 (by decide)
 rw [cells_z1] at h2
 simp [Value.cells] at h2
 have e2 : xs[2]? = some xs[2] := List.getElem?_eq_getElem (by omega)
 obtain ⟨v2, i2, _, w2⟩ := DataW.trod_int Try.underlying3 (h2.trans e2)
 have j2 : c2 = .int .i64 v2 := by simpa using i2
 have h3 := hg 3 (by decide)
 rw [cells_z1] at h3
 simp [Value.cells] at h3
 have e3 : xs[3]? = some xs[3] := List.getElem?_eq_getElem (by omega)
 obtain ⟨v3, i3, _, w3⟩ := DataW.trod_int Try.underlying3 (h3.trans e3)
 have j3 : c3 = .int .i64 v3 := by simpa using i3
 exact ⟨v0, v1, v2, v3, by rw [j0, j1, j2, j3]⟩
theorem open_s4 {H : Type} {enc : TypeId × Value → H} {W : World} {base : Nat} {v0 : Value} {d0 : DataW H} {p0 : List MemPlace}
  (hv : Value.okWide Try.prog W .any base 49 v0) (h0 : DataW.Trod enc Try.prog W 0 (fun _ => true) true 49 v0 d0 p0) :
  ∃ x y z u : Ky, v0 = .agg #[.string ⟨x.toArray⟩, .string ⟨y.toArray⟩, .string ⟨z.toArray⟩, .string ⟨u.toArray⟩] := by
 obtain ⟨cs, rfl, hsz, _⟩ : ∃ cs, v0 = .agg cs ∧ cs.size = Try.prog.cellsOf 49 ∧ Row.okWide Try.prog W .any base 49 cs := by
  simpa [Value.okWide, Try.underlying49] using hv
 rw [cells_s4] at hsz
 obtain ⟨l⟩ := cs
 obtain ⟨c0, c1, c2, c3, rfl⟩ := list4v l hsz
 obtain ⟨fuel, hf⟩ := h0
 obtain ⟨xs, m, _, _, _, hl, hg⟩ := DataW.trod_array Try.underlying49 hf
 have h0 := hg 0 (by decide)
 rw [cells_str1'] at h0
 simp [Value.cells] at h0
 have e0 : xs[0]? = some xs[0] := List.getElem?_eq_getElem (by omega)
 obtain ⟨s0, i0, _, _⟩ := DataW.trod_string Try.underlying9 (h0.trans e0)
 obtain ⟨v0, j0⟩ := str_ofv (c := c0) (s := s0) (by simpa using i0)
 have h1 := hg 1 (by decide)
 rw [cells_str1'] at h1
 simp [Value.cells] at h1
 have e1 : xs[1]? = some xs[1] := List.getElem?_eq_getElem (by omega)
 obtain ⟨s1, i1, _, _⟩ := DataW.trod_string Try.underlying9 (h1.trans e1)
 obtain ⟨v1, j1⟩ := str_ofv (c := c1) (s := s1) (by simpa using i1)
 have h2 := hg 2 (by decide)
 rw [cells_str1'] at h2
 simp [Value.cells] at h2
 have e2 : xs[2]? = some xs[2] := List.getElem?_eq_getElem (by omega)
 obtain ⟨s2, i2, _, _⟩ := DataW.trod_string Try.underlying9 (h2.trans e2)
 obtain ⟨v2, j2⟩ := str_ofv (c := c2) (s := s2) (by simpa using i2)
 have h3 := hg 3 (by decide)
 rw [cells_str1'] at h3
 simp [Value.cells] at h3
 have e3 : xs[3]? = some xs[3] := List.getElem?_eq_getElem (by omega)
 obtain ⟨s3, i3, _, _⟩ := DataW.trod_string Try.underlying9 (h3.trans e3)
 obtain ⟨v3, j3⟩ := str_ofv (c := c3) (s := s3) (by simpa using i3)
 exact ⟨v0, v1, v2, v3, by rw [j0, j1, j2, j3]⟩
end Go.Proofs.Ytchiiphmpkmloaa
