/- Own slices carried on by a walk. -/
import Derived.Test.YtlacmkliofnjcaaDoorYOwn
namespace Go.Proofs.YtlacmkliofnjcaaDoor
open Go.RowKit
set_option linter.unusedVariables false
theorem own_ne0 (v : Value) : ∀ b, v.ownBlock = some b → b ∉ ([] : List Nat) := fun _ _ h => by cases h
theorem own_ne1 {v : Value} {g : Nat} (h : v.ownBlock ≠ some g) : ∀ b, v.ownBlock = some b → b ∉ [g] := fun b hb hm => by
 rw [List.mem_singleton.1 hm] at hb
 exact h hb
theorem own_low {w : World} {base : Nat} {e : TypeId} {k : Nat} {v : Value} {n : Nat} {xs : List Value} (h : w.ownsRow base e k v n xs) {g : Nat} (hg : g < base) : v.ownBlock ≠ some g := fun e => by
 have := (h.lt g e).1
 omega
theorem OwnN.on {w w' : World} {S : List Nat} {base : Nat} {v : Value} {n : Nat} {f : Nat → Nat} (h : OwnN w base v n f) (hk : Kept S w w') (hS : ∀ b, v.ownBlock = some b → b ∉ S) : OwnN w' base v n f := own_on h hk hS
theorem OwnN.new {w : World} {base : Nat} {v : Value} {n : Nat} {f : Nat → Nat} (h : OwnN w base v n f) {g : Nat} (hg : w.heap.size ≤ g) : v.ownBlock ≠ some g := own_new h hg
theorem OwnN.low {w : World} {base : Nat} {v : Value} {n : Nat} {f : Nat → Nat} (h : OwnN w base v n f) {g : Nat} (hg : g < base) : v.ownBlock ≠ some g := own_low h hg
theorem OwnN.base {w : World} {base : Nat} {v : Value} {n : Nat} {f : Nat → Nat} (h : OwnN w base v n f) : ∀ g ∈ v.ownBlock.toList, base ≤ g := own_base h
theorem OwnI.on {w w' : World} {S : List Nat} {base : Nat} {v : Value} {n : Nat} {f : Nat → Nat} (h : OwnI w base v n f) (hk : Kept S w w') (hS : ∀ b, v.ownBlock = some b → b ∉ S) : OwnI w' base v n f := own_on h hk hS
theorem OwnI.new {w : World} {base : Nat} {v : Value} {n : Nat} {f : Nat → Nat} (h : OwnI w base v n f) {g : Nat} (hg : w.heap.size ≤ g) : v.ownBlock ≠ some g := own_new h hg
theorem OwnI.low {w : World} {base : Nat} {v : Value} {n : Nat} {f : Nat → Nat} (h : OwnI w base v n f) {g : Nat} (hg : g < base) : v.ownBlock ≠ some g := own_low h hg
theorem OwnI.base {w : World} {base : Nat} {v : Value} {n : Nat} {f : Nat → Nat} (h : OwnI w base v n f) : ∀ g ∈ v.ownBlock.toList, base ≤ g := own_base h
/-- What is not seen from a later beginning is not seen. -/
theorem OwnN.from {w : World} {b b' : Nat} {v : Value} {n : Nat} {f : Nat → Nat} (h : OwnN w b v n f) (hb : b' ≤ b) : OwnN w b' v n f := by
 refine ⟨h.1, ?_⟩
 rcases h.2 with hn | ⟨g, cap, cur, e, hg, rest⟩
 ·exact .inl hn
 ·exact .inr ⟨g, cap, cur, e, Nat.le_trans hb hg, rest⟩
end Go.Proofs.YtlacmkliofnjcaaDoor
