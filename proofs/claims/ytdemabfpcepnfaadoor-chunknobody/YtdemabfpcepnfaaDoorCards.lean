/-
  DERIVED. GIVEN WITH THE SEED: THE CARDS: each row of YtdemabfpcepnfaaDoorRows.lean that lists a variable, with what it lists TIED to the program's text (the seventh form; the later family's looks); each row that meets fmt, with fmt's text TOLD by the authors' own Lean function (tested against real Go, not proved from fmt's source: count such statements apart). THE CARD IS WHAT COUNTS. Prove the row's statement (the work); the ties are given (YtdemabfpcepnfaaDoorTie.lean); close each card by the builder's one call (the guide's Derived/Test/ToyasCard.lean, 'card_holds'). Laid BY PROGRAM, IN A SANDBOX (cutbox-door.mjs). By AI agents, Wed Nov 11 2026. No macro, syntax, notation, axiom, sorry.
-/
import Derived.Test.YtdemabfpcepnfaaDoorRows
import GoSem.ClaimSeven
namespace Go.Proofs.YtdemabfpcepnfaaDoor
namespace Rows

/-- THE TIED CARD OF 'sacristylaw11.ChunkNobody'. -/
def chunkNobodyCard : Claim7 := { stood := { row := chunkNobodyRow, standIns := [], harness := (true, "89389b72b6a3c3e1d3ee3937ba41504e934d0df8d1d9213fdcaa089df5077adb"), looks := false }, kinds := [], alts := [], laidByText := true, laidKinds := [.data, .pinned], laidTests := true, laidLooks := .later }
def ChunkNobodyCardSaid : Prop := Claim7.holds Tryd.pinned (.plain (OpenSpec.ofChange chunkNobodySpec)) chunkNobodyCard

/-- THE SECOND FORM's CARD OF 'sacristylaw11.ChunkNobody'. -/
def chunkNobodyUptoCard : Claim7 := { stood := { row := chunkNobodyUptoRow, standIns := [], harness := (true, "89389b72b6a3c3e1d3ee3937ba41504e934d0df8d1d9213fdcaa089df5077adb"), looks := false }, kinds := [], alts := [], laidByText := true, laidKinds := [.data, .pinned], laidTests := true, laidLooks := .later }
def ChunkNobodyUptoCardSaid : Prop := Claim7.holds Tryd.pinned (.plain (OpenSpec.upto chunkNobodySpec)) chunkNobodyUptoCard
end Rows
end Go.Proofs.YtdemabfpcepnfaaDoor
