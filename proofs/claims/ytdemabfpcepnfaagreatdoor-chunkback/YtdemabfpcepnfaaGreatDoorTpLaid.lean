/- What the rows of layer 10 list (tables of Go's own library that no call here reads); a slice of ints as an argument. -/
import Derived.Test.YtdemabfpcepnfaaGreatDoorGU
import Derived.Test.YtdemabfpcepnfaaGreatDoorTie
import Derived.Test.YtdemabfpcepnfaaGreatDoorCards
import Derived.LaidMore
import Derived.Lay
import Derived.SevenTiedAt
import Derived.ChangeMaps5
namespace Go.Proofs.YtdemabfpcepnfaaGreatDoor
open Go.ChangeShapes Go.WideShapes Go.ChangeAt Go.RowKit
set_option linter.unusedVariables false
/-- What the rows list. -/
def lk : List (String × DataW Unit) := [("unicode/utf8.acceptRanges", Rows.laid_unicode_utf8_acceptRanges), ("unicode/utf8.first", Rows.laid_unicode_utf8_first)]
theorem lk_shaped (os : Os) (args : Array Value) : ((World.laidAll Tryz.prog os lk).forCall (fun _ _ => 0) ⟨#[], args, []⟩).Shaped Tryz.prog := World.shaped_of_ZipB (by kernel_rfl) (by kernel_rfl)
theorem lk_met (os : Os) (args : Array Value) : laidMetH Tryz.prog lk ((World.laidAll Tryz.prog os lk).forCall (fun _ _ => 0) ⟨#[], args, []⟩).memory := by
 rw [MakeChecks.laidMetH_plain _ _ _ (by kernel_rfl)]
 exact laidMet_laidAll _ (by kernel_rfl) (by kernel_rfl)
/-- The ints that a slice tells. -/
structure IntsAt (w : World) (ab : Option Addr) (n : Nat) (e : Nat → Int) (gb ob : Nat) (bcs : Array Value) (tb : TypeId) : Prop where
 at' : n = 0 ∨ (ab = some ⟨gb, ob, none⟩ ∧ RowR w gb bcs tb ∧ ∀ i, i < n → bcs[ob + i * 1]? = some (.int .i64 (e i)))
 lt : ∀ i, i < n → -9223372036854775808 ≤ e i ∧ e i < 9223372036854775808
theorem IntsAt.below {w w2 : World} {ab : Option Addr} {n : Nat} {e : Nat → Int} {gb ob : Nat} {bcs : Array Value} {tb : TypeId} (h : IntsAt w ab n e gb ob bcs tb) (hb : Below w.heap.size w w2) : IntsAt w2 ab n e gb ob bcs tb :=
 ⟨h.at'.imp id fun ⟨h1, h2, h3⟩ => ⟨h1, h2.belowAll hb, h3⟩, h.lt⟩
theorem cells_int1 : Tryz.prog.cellsOf 3 = 1 := by kernel_rfl
set_option maxRecDepth 100000 in
theorem open_ints {H : Type} {enc : TypeId × Value → H} {W : World} {base : Nat} {v0 : Value} {d0 : DataW H} {p0 : List MemPlace}
  (hv : Value.okWide Tryz.prog W .any base 142 v0) (h0 : DataW.Trod enc Tryz.prog W 0 (fun _ => true) true 142 v0 d0 p0) :
  ∃ ab n c, v0 = .slice ab n c ∧ n ≤ maxLen ∧ ∃ e gb ob bcs tb, IntsAt W ab n e gb ob bcs tb := by
 obtain ⟨ab, n, c, rfl, hnc, hcm, hrow⟩ := open_row (k := 1) (by decide) Tryz.underlying142 cells_int1 hv h0
 refine ⟨ab, n, c, rfl, Nat.le_trans hnc hcm, ?_⟩
 rcases hrow with rfl | ⟨gb, ob, bcs, tb, rfl, hR, hel⟩
 ·exact ⟨fun _ => 0, 0, 0, #[], 0, .inl rfl, fun i hi => by omega⟩
 ·have hs : ∀ i, i < n → ∃ z : Int, bcs[ob + i * 1]? = some (.int .i64 z) ∧ -9223372036854775808 ≤ z ∧ z < 9223372036854775808 := by
   intro i hi
   obtain ⟨l, m, x, hl, hc, hd⟩ := hel i hi
   obtain ⟨z, rfl, _, hw⟩ := DataW.trod_int Tryz.underlying3 hd
   refine ⟨z, ?_, ?_⟩
   ·have := hc 0 _ rfl
    rw [Nat.add_zero] at this
    exact this
   ·have := bounds_i64 hw
    omega
  obtain ⟨e, he⟩ := Deep.choose_lt hs
  exact ⟨e, gb, ob, bcs, tb, .inr ⟨rfl, hR, fun i hi => (he i hi).1⟩, fun i hi => (he i hi).2⟩
end Go.Proofs.YtdemabfpcepnfaaGreatDoor
