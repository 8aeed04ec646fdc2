/- A natural that came in as an argument: its number; the facts that every law's frame asks. -/
import Derived.Test.YtojobffihlmfgaaGA
import Derived.ProofKit
import Derived.OpenShut
import Derived.ShutString
import Derived.ChangeOld
import Derived.Below
import Derived.Laws.IdiomArrays
import Derived.Test.YtojobffihlmfgaaGS
import Derived.Deep.Slices
import Derived.Test.YtojobffihlmfgaaPY
namespace Go.Proofs.Ytojobffihlmfgaa
open Go.ChangeShapes Go.WideShapes Go.ChangeAt Go.RowKit
theorem own : ownKnob Try.prog.godebug = none := by kernel_rfl
theorem laidOut : laidOutB Try.prog = true := by kernel_rfl
theorem lt_of_trod {H : Type} {enc : TypeId × Value → H} {W : World} {t : TypeId} {v : Value} {d : DataW H} {p : List MemPlace} (h : DataW.Trod enc Try.prog W 0 (fun _ => true) true t v d p) : ∀ x ∈ p, x.block < W.heap.size := by
 obtain ⟨m, hm⟩ := h
 exact DataW.trod_lt m _ _ _ hm
end Go.Proofs.Ytojobffihlmfgaa
/- A slice that came in as an argument, opened: its cells, element by element; of naturals: their numbers. -/
namespace Go.Proofs.Ytojobffihlmfgaa
open Go.ChangeShapes Go.WideShapes Go.ChangeAt Go.RowKit
end Go.Proofs.Ytojobffihlmfgaa
/- Two slices of naturals in an array that came in as an argument. -/
namespace Go.Proofs.Ytojobffihlmfgaa
open Go.ChangeShapes Go.WideShapes Go.ChangeAt Go.RowKit
end Go.Proofs.Ytojobffihlmfgaa
/- Shares that came in as an argument, opened: a slice of them, one alone. -/
namespace Go.Proofs.Ytojobffihlmfgaa
open Go.ChangeShapes Go.WideShapes Go.ChangeAt Go.RowKit
end Go.Proofs.Ytojobffihlmfgaa
