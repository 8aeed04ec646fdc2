/-
  No cell of these rows narrows 'for every input' (looked for: loops, veiled, ifaces, maps, wideKeys, modest, calm, conditions, laid).
  DERIVED. THE GIVEN ROWS OF THIS SEAT. 4 by the template 'for every input the law returns true; each argument reads behind the call as it read before'; 0 by the template 'total and deterministic' (their statements: YtcdfefljagddmabTotals.lean).
  GIVEN WITH THE SEED: the statements are not yours to turn. If you find one false, say at which input.
  Laid BY PROGRAM, IN A SANDBOX (cutbox-rows.mjs): the forced cells as the released guide's own fill.sh prints them over the translation 02a9a4e03f778d15… (all of the seat's roots in one cut). By AI agents, Wed Nov 11 2026. No macro, syntax, notation, axiom, sorry.
-/
import Derived.Test.YtcdfefljagddmabChecked
import GoSem.Claim
import GoSem.ClaimJoined
import GoSem.ClaimMapViews
import Derived.JoinedTies
import Derived.KernelRfl
namespace Go.Proofs.Ytcdfefljagddmab
/- THE CELL 'sum', in the pinned program and in every row, IS THE sha256 OF THE DUMP (.gsa) THAT YtcdfefljagddmabProg.lean LOADS. Nothing in Lean hashes anything: it is a label: what it is worth is what the hold of that sum in a sandbox is worth. -/
noncomputable def Try.pinned : Pinned := { name := "ytcdfefljagddmab", sum := "02a9a4e03f778d15796aa3a2dd2e09422e18603e7353bab20e5c19824871ceb3", checked := Try.checked }
namespace Rows
def none {H : Type} : Left H := { results := [], args := [] }

/-- 'sacristylaw04.PrimeSteps': WHATEVER THE INPUT: true; the input reads as it did. -/
def primeStepsSpec : ChangeSpec := { name := "primeSteps", fn := fun _ => fun
  | [d1, d2, d3] => { results := [.lit (.bool true)], args := [d1, d2, d3] }
  | _ => none }
def primeStepsRow : OpenClaim := { program := "ytcdfefljagddmab", sum := "02a9a4e03f778d15796aa3a2dd2e09422e18603e7353bab20e5c19824871ceb3", func := "sacristy/sacristylaw04.PrimeSteps", spec := "primeSteps", inPlace := ["math/bits.Sub64", "math/bits.Add64"], unfollowed := true, recurses := true, named := ["math/bits.divideError", "math/bits.overflowError"], apart := false }
def PrimeStepsSaid : Prop := primeStepsRow.holds Try.pinned (OpenSpec.ofChange primeStepsSpec)

/-- ITS FALSE NEIGHBOUR: 'it returns false'. Refute it at one input. -/
def primeStepsWrong : ChangeSpec := { name := "primeSteps", fn := fun _ => fun
  | [d1, d2, d3] => { results := [.lit (.bool false)], args := [d1, d2, d3] }
  | _ => none }
def PrimeStepsWrongFalsely : Prop := primeStepsRow.holds Try.pinned (OpenSpec.ofChange primeStepsWrong)

/-- 'sacristylaw04.PrimeChecks': WHATEVER THE INPUT: true; the input reads as it did. -/
def primeChecksSpec : ChangeSpec := { name := "primeChecks", fn := fun _ => fun
  | [d] => { results := [.lit (.bool true)], args := [d] }
  | _ => none }
def primeChecksRow : OpenClaim := { program := "ytcdfefljagddmab", sum := "02a9a4e03f778d15796aa3a2dd2e09422e18603e7353bab20e5c19824871ceb3", func := "sacristy/sacristylaw04.PrimeChecks", spec := "primeChecks", inPlace := ["math/bits.Sub64", "math/bits.Add64"], unfollowed := true, recurses := true, named := ["math/bits.divideError", "math/bits.overflowError"], apart := false }
def PrimeChecksSaid : Prop := primeChecksRow.holds Try.pinned (OpenSpec.ofChange primeChecksSpec)

/-- ITS FALSE NEIGHBOUR: 'it returns false'. Refute it at one input. -/
def primeChecksWrong : ChangeSpec := { name := "primeChecks", fn := fun _ => fun
  | [d] => { results := [.lit (.bool false)], args := [d] }
  | _ => none }
def PrimeChecksWrongFalsely : Prop := primeChecksRow.holds Try.pinned (OpenSpec.ofChange primeChecksWrong)

/-- 'sacristylaw04.PrimeSound': WHATEVER THE INPUT: true; the input reads as it did. -/
def primeSoundSpec : ChangeSpec := { name := "primeSound", fn := fun _ => fun
  | [d] => { results := [.lit (.bool true)], args := [d] }
  | _ => none }
def primeSoundRow : OpenClaim := { program := "ytcdfefljagddmab", sum := "02a9a4e03f778d15796aa3a2dd2e09422e18603e7353bab20e5c19824871ceb3", func := "sacristy/sacristylaw04.PrimeSound", spec := "primeSound", inPlace := ["math/bits.Sub64", "math/bits.Add64"], unfollowed := true, recurses := true, named := ["math/bits.divideError", "math/bits.overflowError"], apart := false }
def PrimeSoundSaid : Prop := primeSoundRow.holds Try.pinned (OpenSpec.ofChange primeSoundSpec)

/-- ITS FALSE NEIGHBOUR: 'it returns false'. Refute it at one input. -/
def primeSoundWrong : ChangeSpec := { name := "primeSound", fn := fun _ => fun
  | [d] => { results := [.lit (.bool false)], args := [d] }
  | _ => none }
def PrimeSoundWrongFalsely : Prop := primeSoundRow.holds Try.pinned (OpenSpec.ofChange primeSoundWrong)

/-- 'sacristylaw04.PrimeFermat': WHATEVER THE INPUT: true; the input reads as it did. -/
def primeFermatSpec : ChangeSpec := { name := "primeFermat", fn := fun _ => fun
  | [d1, d2] => { results := [.lit (.bool true)], args := [d1, d2] }
  | _ => none }
def primeFermatRow : OpenClaim := { program := "ytcdfefljagddmab", sum := "02a9a4e03f778d15796aa3a2dd2e09422e18603e7353bab20e5c19824871ceb3", func := "sacristy/sacristylaw04.PrimeFermat", spec := "primeFermat", inPlace := ["math/bits.Sub64", "math/bits.Add64"], unfollowed := true, recurses := true, named := ["math/bits.divideError", "math/bits.overflowError"], apart := false }
def PrimeFermatSaid : Prop := primeFermatRow.holds Try.pinned (OpenSpec.ofChange primeFermatSpec)

/-- ITS FALSE NEIGHBOUR: 'it returns false'. Refute it at one input. -/
def primeFermatWrong : ChangeSpec := { name := "primeFermat", fn := fun _ => fun
  | [d1, d2] => { results := [.lit (.bool false)], args := [d1, d2] }
  | _ => none }
def PrimeFermatWrongFalsely : Prop := primeFermatRow.holds Try.pinned (OpenSpec.ofChange primeFermatWrong)

/- THE SECOND FORM. 'bulk': how many values and letters a reading holds, each counted each time it is reached (what is shared counts as often as it is met; a slice's spare places count too). A statement '..UptoSaid' is the law's where the arguments, and the package variables that the reading takes, are together of bulk at most 1048576: NARROWER than '..Said'. Prove '..Said' where nothing that the law and all that it calls make is longer than what came in: it says more and counts as full. Else prove '..UptoSaid'. A law counts once. -/
mutual
def uptoBulk {H : Type} : DataW H → Nat
  | .lit (.string bytes) => bytes.length + 1
  | .lit _ => 1
  | .nil => 1
  | .ptr d => uptoBulk d + 1
  | .slice elems spare => uptoBulkAll elems + uptoBulkAll spare + 1
  | .agg parts => uptoBulkAll parts + 1
  | .iface _ d => uptoBulk d + 1
  | .map entries => uptoBulkEntries entries + 1
  | .held _ => 1
def uptoBulkAll {H : Type} : List (DataW H) → Nat
  | [] => 0
  | d :: r => uptoBulk d + uptoBulkAll r
def uptoBulkEntries {H : Type} : List (Lit × DataW H) → Nat
  | [] => 0
  | x :: r => uptoBulkEntry x + uptoBulkEntries r
def uptoBulkEntry {H : Type} : Lit × DataW H → Nat
  | (.string bytes, d) => bytes.length + uptoBulk d + 1
  | (_, d) => uptoBulk d + 1
 end
def uptoSmall : (H : Type) → List (DataW H) → Bool := fun _ ds => decide (uptoBulkAll ds ≤ 1048576)
def OpenSpec.upto (s : _root_.Go.ChangeSpec) : _root_.Go.OpenSpec := { _root_.Go.OpenSpec.ofChange s with cond := some uptoSmall }

/-- 'sacristylaw04.PrimeSteps', WHERE WHAT IT READS IS OF BULK AT MOST 1048576: true; the input reads as it did. -/
def primeStepsUptoRow : OpenClaim := { program := "ytcdfefljagddmab", sum := "02a9a4e03f778d15796aa3a2dd2e09422e18603e7353bab20e5c19824871ceb3", func := "sacristy/sacristylaw04.PrimeSteps", spec := "primeSteps", inPlace := ["math/bits.Sub64", "math/bits.Add64"], unfollowed := true, recurses := true, named := ["math/bits.divideError", "math/bits.overflowError"], apart := false, narrowed := true }
def PrimeStepsUptoSaid : Prop := primeStepsUptoRow.holds Try.pinned (OpenSpec.upto primeStepsSpec)

/-- 'sacristylaw04.PrimeChecks', WHERE WHAT IT READS IS OF BULK AT MOST 1048576: true; the input reads as it did. -/
def primeChecksUptoRow : OpenClaim := { program := "ytcdfefljagddmab", sum := "02a9a4e03f778d15796aa3a2dd2e09422e18603e7353bab20e5c19824871ceb3", func := "sacristy/sacristylaw04.PrimeChecks", spec := "primeChecks", inPlace := ["math/bits.Sub64", "math/bits.Add64"], unfollowed := true, recurses := true, named := ["math/bits.divideError", "math/bits.overflowError"], apart := false, narrowed := true }
def PrimeChecksUptoSaid : Prop := primeChecksUptoRow.holds Try.pinned (OpenSpec.upto primeChecksSpec)

/-- 'sacristylaw04.PrimeSound', WHERE WHAT IT READS IS OF BULK AT MOST 1048576: true; the input reads as it did. -/
def primeSoundUptoRow : OpenClaim := { program := "ytcdfefljagddmab", sum := "02a9a4e03f778d15796aa3a2dd2e09422e18603e7353bab20e5c19824871ceb3", func := "sacristy/sacristylaw04.PrimeSound", spec := "primeSound", inPlace := ["math/bits.Sub64", "math/bits.Add64"], unfollowed := true, recurses := true, named := ["math/bits.divideError", "math/bits.overflowError"], apart := false, narrowed := true }
def PrimeSoundUptoSaid : Prop := primeSoundUptoRow.holds Try.pinned (OpenSpec.upto primeSoundSpec)

/-- 'sacristylaw04.PrimeFermat', WHERE WHAT IT READS IS OF BULK AT MOST 1048576: true; the input reads as it did. -/
def primeFermatUptoRow : OpenClaim := { program := "ytcdfefljagddmab", sum := "02a9a4e03f778d15796aa3a2dd2e09422e18603e7353bab20e5c19824871ceb3", func := "sacristy/sacristylaw04.PrimeFermat", spec := "primeFermat", inPlace := ["math/bits.Sub64", "math/bits.Add64"], unfollowed := true, recurses := true, named := ["math/bits.divideError", "math/bits.overflowError"], apart := false, narrowed := true }
def PrimeFermatUptoSaid : Prop := primeFermatUptoRow.holds Try.pinned (OpenSpec.upto primeFermatSpec)

end Rows
end Go.Proofs.Ytcdfefljagddmab
