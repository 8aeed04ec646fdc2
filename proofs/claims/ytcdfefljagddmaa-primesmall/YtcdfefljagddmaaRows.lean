/-
  No cell of these rows narrows 'for every input' (looked for: loops, veiled, ifaces, maps, wideKeys, modest, calm, conditions, laid).
  DERIVED. THE GIVEN ROWS OF THIS SEAT. 6 by the template 'for every input the law returns true; each argument reads behind the call as it read before'; 0 by the template 'total and deterministic' (their statements: YtcdfefljagddmaaTotals.lean).
  GIVEN WITH THE SEED: the statements are not yours to turn. If you find one false, say at which input.
  Laid BY PROGRAM, IN A SANDBOX (cutbox-rows.mjs): the forced cells as the released guide's own fill.sh prints them over the translation b4b9cb186956f4f5… (all of the seat's roots in one cut). By AI agents, Wed Nov 11 2026. No macro, syntax, notation, axiom, sorry.
-/
import Derived.Test.YtcdfefljagddmaaChecked
import GoSem.Claim
import GoSem.ClaimJoined
import GoSem.ClaimMapViews
import Derived.JoinedTies
import Derived.KernelRfl
namespace Go.Proofs.Ytcdfefljagddmaa
/- THE CELL 'sum', in the pinned program and in every row, IS THE sha256 OF THE DUMP (.gsa) THAT YtcdfefljagddmaaProg.lean LOADS. Nothing in Lean hashes anything: it is a label: what it is worth is what the hold of that sum in a sandbox is worth. -/
noncomputable def Try.pinned : Pinned := { name := "ytcdfefljagddmaa", sum := "b4b9cb186956f4f50cb6413dec73c96fa7bdb4c28a3d9d7484996032f58bc8c0", checked := Try.checked }
namespace Rows
def none {H : Type} : Left H := { results := [], args := [] }

/-- 'sacristylaw03.MontMuls': WHATEVER THE INPUT: true; the input reads as it did. -/
def montMulsSpec : ChangeSpec := { name := "montMuls", fn := fun _ => fun
  | [d1, d2, d3] => { results := [.lit (.bool true)], args := [d1, d2, d3] }
  | _ => none }
def montMulsRow : OpenClaim := { program := "ytcdfefljagddmaa", sum := "b4b9cb186956f4f50cb6413dec73c96fa7bdb4c28a3d9d7484996032f58bc8c0", func := "sacristy/sacristylaw03.MontMuls", spec := "montMuls", inPlace := ["math/bits.Sub64", "math/bits.Add64"], unfollowed := true, recurses := true, named := ["math/bits.divideError", "math/bits.overflowError"], apart := false }
def MontMulsSaid : Prop := montMulsRow.holds Try.pinned (OpenSpec.ofChange montMulsSpec)

/-- ITS FALSE NEIGHBOUR: 'it returns false'. Refute it at one input. -/
def montMulsWrong : ChangeSpec := { name := "montMuls", fn := fun _ => fun
  | [d1, d2, d3] => { results := [.lit (.bool false)], args := [d1, d2, d3] }
  | _ => none }
def MontMulsWrongFalsely : Prop := montMulsRow.holds Try.pinned (OpenSpec.ofChange montMulsWrong)

/-- 'sacristylaw03.MontExps': WHATEVER THE INPUT: true; the input reads as it did. -/
def montExpsSpec : ChangeSpec := { name := "montExps", fn := fun _ => fun
  | [d1, d2, d3] => { results := [.lit (.bool true)], args := [d1, d2, d3] }
  | _ => none }
def montExpsRow : OpenClaim := { program := "ytcdfefljagddmaa", sum := "b4b9cb186956f4f50cb6413dec73c96fa7bdb4c28a3d9d7484996032f58bc8c0", func := "sacristy/sacristylaw03.MontExps", spec := "montExps", inPlace := ["math/bits.Sub64", "math/bits.Add64"], unfollowed := true, recurses := true, named := ["math/bits.divideError", "math/bits.overflowError"], apart := false }
def MontExpsSaid : Prop := montExpsRow.holds Try.pinned (OpenSpec.ofChange montExpsSpec)

/-- ITS FALSE NEIGHBOUR: 'it returns false'. Refute it at one input. -/
def montExpsWrong : ChangeSpec := { name := "montExps", fn := fun _ => fun
  | [d1, d2, d3] => { results := [.lit (.bool false)], args := [d1, d2, d3] }
  | _ => none }
def MontExpsWrongFalsely : Prop := montExpsRow.holds Try.pinned (OpenSpec.ofChange montExpsWrong)

/-- 'sacristylaw03.MontAdds': WHATEVER THE INPUT: true; the input reads as it did. -/
def montAddsSpec : ChangeSpec := { name := "montAdds", fn := fun _ => fun
  | [d1, d2, d3] => { results := [.lit (.bool true)], args := [d1, d2, d3] }
  | _ => none }
def montAddsRow : OpenClaim := { program := "ytcdfefljagddmaa", sum := "b4b9cb186956f4f50cb6413dec73c96fa7bdb4c28a3d9d7484996032f58bc8c0", func := "sacristy/sacristylaw03.MontAdds", spec := "montAdds", inPlace := ["math/bits.Sub64", "math/bits.Add64"], unfollowed := true, recurses := true, named := ["math/bits.divideError", "math/bits.overflowError"], apart := false }
def MontAddsSaid : Prop := montAddsRow.holds Try.pinned (OpenSpec.ofChange montAddsSpec)

/-- ITS FALSE NEIGHBOUR: 'it returns false'. Refute it at one input. -/
def montAddsWrong : ChangeSpec := { name := "montAdds", fn := fun _ => fun
  | [d1, d2, d3] => { results := [.lit (.bool false)], args := [d1, d2, d3] }
  | _ => none }
def MontAddsWrongFalsely : Prop := montAddsRow.holds Try.pinned (OpenSpec.ofChange montAddsWrong)

/-- 'sacristylaw03.MontProds': WHATEVER THE INPUT: true; the input reads as it did. -/
def montProdsSpec : ChangeSpec := { name := "montProds", fn := fun _ => fun
  | [d1, d2, d3] => { results := [.lit (.bool true)], args := [d1, d2, d3] }
  | _ => none }
def montProdsRow : OpenClaim := { program := "ytcdfefljagddmaa", sum := "b4b9cb186956f4f50cb6413dec73c96fa7bdb4c28a3d9d7484996032f58bc8c0", func := "sacristy/sacristylaw03.MontProds", spec := "montProds", inPlace := ["math/bits.Sub64", "math/bits.Add64"], unfollowed := true, recurses := true, named := ["math/bits.divideError", "math/bits.overflowError"], apart := false }
def MontProdsSaid : Prop := montProdsRow.holds Try.pinned (OpenSpec.ofChange montProdsSpec)

/-- ITS FALSE NEIGHBOUR: 'it returns false'. Refute it at one input. -/
def montProdsWrong : ChangeSpec := { name := "montProds", fn := fun _ => fun
  | [d1, d2, d3] => { results := [.lit (.bool false)], args := [d1, d2, d3] }
  | _ => none }
def MontProdsWrongFalsely : Prop := montProdsRow.holds Try.pinned (OpenSpec.ofChange montProdsWrong)

/-- 'sacristylaw03.MontNobody': WHATEVER THE INPUT: true; the input reads as it did. -/
def montNobodySpec : ChangeSpec := { name := "montNobody", fn := fun _ => fun
  | [d1, d2] => { results := [.lit (.bool true)], args := [d1, d2] }
  | _ => none }
def montNobodyRow : OpenClaim := { program := "ytcdfefljagddmaa", sum := "b4b9cb186956f4f50cb6413dec73c96fa7bdb4c28a3d9d7484996032f58bc8c0", func := "sacristy/sacristylaw03.MontNobody", spec := "montNobody", inPlace := ["math/bits.Add64", "math/bits.Sub64"], unfollowed := true, recurses := true, named := ["math/bits.divideError", "math/bits.overflowError"], apart := false }
def MontNobodySaid : Prop := montNobodyRow.holds Try.pinned (OpenSpec.ofChange montNobodySpec)

/-- ITS FALSE NEIGHBOUR: 'it returns false'. Refute it at one input. -/
def montNobodyWrong : ChangeSpec := { name := "montNobody", fn := fun _ => fun
  | [d1, d2] => { results := [.lit (.bool false)], args := [d1, d2] }
  | _ => none }
def MontNobodyWrongFalsely : Prop := montNobodyRow.holds Try.pinned (OpenSpec.ofChange montNobodyWrong)

/-- 'sacristylaw04.PrimeSmall': WHATEVER THE INPUT: true; the input reads as it did. -/
def primeSmallSpec : ChangeSpec := { name := "primeSmall", fn := fun _ => fun
  | [d] => { results := [.lit (.bool true)], args := [d] }
  | _ => none }
def primeSmallRow : OpenClaim := { program := "ytcdfefljagddmaa", sum := "b4b9cb186956f4f50cb6413dec73c96fa7bdb4c28a3d9d7484996032f58bc8c0", func := "sacristy/sacristylaw04.PrimeSmall", spec := "primeSmall", inPlace := ["math/bits.Sub64", "math/bits.Add64"], unfollowed := true, recurses := true, named := ["math/bits.divideError", "math/bits.overflowError"], apart := false }
def PrimeSmallSaid : Prop := primeSmallRow.holds Try.pinned (OpenSpec.ofChange primeSmallSpec)

/-- ITS FALSE NEIGHBOUR: 'it returns false'. Refute it at one input. -/
def primeSmallWrong : ChangeSpec := { name := "primeSmall", fn := fun _ => fun
  | [d] => { results := [.lit (.bool false)], args := [d] }
  | _ => none }
def PrimeSmallWrongFalsely : Prop := primeSmallRow.holds Try.pinned (OpenSpec.ofChange primeSmallWrong)

/- THE SECOND FORM. 'bulk': how many values and letters a reading holds, each counted each time it is reached (what is shared counts as often as it is met; a slice's spare places count too). A statement '..UptoSaid' is the law's where the arguments, and the package variables that the reading takes, are together of bulk at most 1048576: NARROWER than '..Said'. Prove '..Said' where nothing that the law and all that it calls make is longer than what came in: it says more and counts as full. Else prove '..UptoSaid'. A law counts once. -/
mutual
def uptoBulk {H : Type} : DataW H → Nat
  | .lit (.string bytes) => bytes.length + 1
  | .lit _ => 1
  | .nil => 1
  | .ptr d => uptoBulk d + 1
  | .slice elems spare => uptoBulkAll elems + uptoBulkAll spare + 1
  | .agg parts => uptoBulkAll parts + 1
  | .iface _ d => uptoBulk d + 1
  | .map entries => uptoBulkEntries entries + 1
  | .held _ => 1
def uptoBulkAll {H : Type} : List (DataW H) → Nat
  | [] => 0
  | d :: r => uptoBulk d + uptoBulkAll r
def uptoBulkEntries {H : Type} : List (Lit × DataW H) → Nat
  | [] => 0
  | x :: r => uptoBulkEntry x + uptoBulkEntries r
def uptoBulkEntry {H : Type} : Lit × DataW H → Nat
  | (.string bytes, d) => bytes.length + uptoBulk d + 1
  | (_, d) => uptoBulk d + 1
 end
def uptoSmall : (H : Type) → List (DataW H) → Bool := fun _ ds => decide (uptoBulkAll ds ≤ 1048576)
def OpenSpec.upto (s : _root_.Go.ChangeSpec) : _root_.Go.OpenSpec := { _root_.Go.OpenSpec.ofChange s with cond := some uptoSmall }

/-- 'sacristylaw03.MontMuls', WHERE WHAT IT READS IS OF BULK AT MOST 1048576: true; the input reads as it did. -/
def montMulsUptoRow : OpenClaim := { program := "ytcdfefljagddmaa", sum := "b4b9cb186956f4f50cb6413dec73c96fa7bdb4c28a3d9d7484996032f58bc8c0", func := "sacristy/sacristylaw03.MontMuls", spec := "montMuls", inPlace := ["math/bits.Sub64", "math/bits.Add64"], unfollowed := true, recurses := true, named := ["math/bits.divideError", "math/bits.overflowError"], apart := false, narrowed := true }
def MontMulsUptoSaid : Prop := montMulsUptoRow.holds Try.pinned (OpenSpec.upto montMulsSpec)

/-- 'sacristylaw03.MontExps', WHERE WHAT IT READS IS OF BULK AT MOST 1048576: true; the input reads as it did. -/
def montExpsUptoRow : OpenClaim := { program := "ytcdfefljagddmaa", sum := "b4b9cb186956f4f50cb6413dec73c96fa7bdb4c28a3d9d7484996032f58bc8c0", func := "sacristy/sacristylaw03.MontExps", spec := "montExps", inPlace := ["math/bits.Sub64", "math/bits.Add64"], unfollowed := true, recurses := true, named := ["math/bits.divideError", "math/bits.overflowError"], apart := false, narrowed := true }
def MontExpsUptoSaid : Prop := montExpsUptoRow.holds Try.pinned (OpenSpec.upto montExpsSpec)

/-- 'sacristylaw03.MontAdds', WHERE WHAT IT READS IS OF BULK AT MOST 1048576: true; the input reads as it did. -/
def montAddsUptoRow : OpenClaim := { program := "ytcdfefljagddmaa", sum := "b4b9cb186956f4f50cb6413dec73c96fa7bdb4c28a3d9d7484996032f58bc8c0", func := "sacristy/sacristylaw03.MontAdds", spec := "montAdds", inPlace := ["math/bits.Sub64", "math/bits.Add64"], unfollowed := true, recurses := true, named := ["math/bits.divideError", "math/bits.overflowError"], apart := false, narrowed := true }
def MontAddsUptoSaid : Prop := montAddsUptoRow.holds Try.pinned (OpenSpec.upto montAddsSpec)

/-- 'sacristylaw03.MontProds', WHERE WHAT IT READS IS OF BULK AT MOST 1048576: true; the input reads as it did. -/
def montProdsUptoRow : OpenClaim := { program := "ytcdfefljagddmaa", sum := "b4b9cb186956f4f50cb6413dec73c96fa7bdb4c28a3d9d7484996032f58bc8c0", func := "sacristy/sacristylaw03.MontProds", spec := "montProds", inPlace := ["math/bits.Sub64", "math/bits.Add64"], unfollowed := true, recurses := true, named := ["math/bits.divideError", "math/bits.overflowError"], apart := false, narrowed := true }
def MontProdsUptoSaid : Prop := montProdsUptoRow.holds Try.pinned (OpenSpec.upto montProdsSpec)

/-- 'sacristylaw03.MontNobody', WHERE WHAT IT READS IS OF BULK AT MOST 1048576: true; the input reads as it did. -/
def montNobodyUptoRow : OpenClaim := { program := "ytcdfefljagddmaa", sum := "b4b9cb186956f4f50cb6413dec73c96fa7bdb4c28a3d9d7484996032f58bc8c0", func := "sacristy/sacristylaw03.MontNobody", spec := "montNobody", inPlace := ["math/bits.Add64", "math/bits.Sub64"], unfollowed := true, recurses := true, named := ["math/bits.divideError", "math/bits.overflowError"], apart := false, narrowed := true }
def MontNobodyUptoSaid : Prop := montNobodyUptoRow.holds Try.pinned (OpenSpec.upto montNobodySpec)

/-- 'sacristylaw04.PrimeSmall', WHERE WHAT IT READS IS OF BULK AT MOST 1048576: true; the input reads as it did. -/
def primeSmallUptoRow : OpenClaim := { program := "ytcdfefljagddmaa", sum := "b4b9cb186956f4f50cb6413dec73c96fa7bdb4c28a3d9d7484996032f58bc8c0", func := "sacristy/sacristylaw04.PrimeSmall", spec := "primeSmall", inPlace := ["math/bits.Sub64", "math/bits.Add64"], unfollowed := true, recurses := true, named := ["math/bits.divideError", "math/bits.overflowError"], apart := false, narrowed := true }
def PrimeSmallUptoSaid : Prop := primeSmallUptoRow.holds Try.pinned (OpenSpec.upto primeSmallSpec)

end Rows
end Go.Proofs.Ytcdfefljagddmaa
