/-
  DERIVED. GIVEN WITH THE SEED: THE CARDS: each row of YtnagnkhbamhfmaaGreatDoorRows.lean that lists a variable, with what it lists TIED to the program's text (the seventh form; the later family's looks); each row that meets fmt, with fmt's text TOLD by the authors' own Lean function (tested against real Go, not proved from fmt's source: count such statements apart). THE CARD IS WHAT COUNTS. Prove the row's statement (the work); the ties are given (YtnagnkhbamhfmaaGreatDoorTie.lean); close each card by the builder's one call (the guide's Derived/Test/ToyasCard.lean, 'card_holds'). Laid BY PROGRAM, IN A SANDBOX (cutbox-door.mjs). By AI agents, Wed Nov 11 2026. No macro, syntax, notation, axiom, sorry.
-/
import Derived.Test.YtnagnkhbamhfmaaGreatDoorRows
import GoSem.ClaimSeven
namespace Go.Proofs.YtnagnkhbamhfmaaGreatDoor
namespace Rows

/-- THE TIED CARD OF 'sacristylaw16.MatrixDeals'. -/
def matrixDealsCard : Claim7 := { stood := { row := matrixDealsRow, standIns := [], harness := (true, "eb1696153f8cb3232e8b2f438456bf9c55f134f4348278d0aa98d579a3c22149"), looks := false }, kinds := [], alts := [], laidByText := true, laidKinds := [.data], laidTests := true, laidLooks := .later }
def MatrixDealsCardSaid : Prop := Claim7.holds Tryz.pinned (.plain (OpenSpec.ofChange matrixDealsSpec)) matrixDealsCard

/-- THE TIED CARD OF 'sacristylaw16.MatrixRecovers'. -/
def matrixRecoversCard : Claim7 := { stood := { row := matrixRecoversRow, standIns := [], harness := (true, "eb1696153f8cb3232e8b2f438456bf9c55f134f4348278d0aa98d579a3c22149"), looks := false }, kinds := [], alts := [], laidByText := true, laidKinds := [.data], laidTests := true, laidLooks := .later }
def MatrixRecoversCardSaid : Prop := Claim7.holds Tryz.pinned (.plain (OpenSpec.ofChange matrixRecoversSpec)) matrixRecoversCard

/-- THE TIED CARD OF 'sacristylaw16.MatrixSame'. -/
def matrixSameCard : Claim7 := { stood := { row := matrixSameRow, standIns := [], harness := (true, "eb1696153f8cb3232e8b2f438456bf9c55f134f4348278d0aa98d579a3c22149"), looks := false }, kinds := [], alts := [], laidByText := true, laidKinds := [.data], laidTests := true, laidLooks := .later }
def MatrixSameCardSaid : Prop := Claim7.holds Tryz.pinned (.plain (OpenSpec.ofChange matrixSameSpec)) matrixSameCard

/-- THE TIED CARD OF 'sacristylaw16.MatrixNobody'. -/
def matrixNobodyCard : Claim7 := { stood := { row := matrixNobodyRow, standIns := [], harness := (true, "eb1696153f8cb3232e8b2f438456bf9c55f134f4348278d0aa98d579a3c22149"), looks := false }, kinds := [], alts := [], laidByText := true, laidKinds := [.data], laidTests := true, laidLooks := .later }
def MatrixNobodyCardSaid : Prop := Claim7.holds Tryz.pinned (.plain (OpenSpec.ofChange matrixNobodySpec)) matrixNobodyCard

/-- THE SECOND FORM's CARD OF 'sacristylaw16.MatrixDeals'. -/
def matrixDealsUptoCard : Claim7 := { stood := { row := matrixDealsUptoRow, standIns := [], harness := (true, "eb1696153f8cb3232e8b2f438456bf9c55f134f4348278d0aa98d579a3c22149"), looks := false }, kinds := [], alts := [], laidByText := true, laidKinds := [.data], laidTests := true, laidLooks := .later }
def MatrixDealsUptoCardSaid : Prop := Claim7.holds Tryz.pinned (.plain (OpenSpec.upto matrixDealsSpec)) matrixDealsUptoCard

/-- THE SECOND FORM's CARD OF 'sacristylaw16.MatrixRecovers'. -/
def matrixRecoversUptoCard : Claim7 := { stood := { row := matrixRecoversUptoRow, standIns := [], harness := (true, "eb1696153f8cb3232e8b2f438456bf9c55f134f4348278d0aa98d579a3c22149"), looks := false }, kinds := [], alts := [], laidByText := true, laidKinds := [.data], laidTests := true, laidLooks := .later }
def MatrixRecoversUptoCardSaid : Prop := Claim7.holds Tryz.pinned (.plain (OpenSpec.upto matrixRecoversSpec)) matrixRecoversUptoCard

/-- THE SECOND FORM's CARD OF 'sacristylaw16.MatrixSame'. -/
def matrixSameUptoCard : Claim7 := { stood := { row := matrixSameUptoRow, standIns := [], harness := (true, "eb1696153f8cb3232e8b2f438456bf9c55f134f4348278d0aa98d579a3c22149"), looks := false }, kinds := [], alts := [], laidByText := true, laidKinds := [.data], laidTests := true, laidLooks := .later }
def MatrixSameUptoCardSaid : Prop := Claim7.holds Tryz.pinned (.plain (OpenSpec.upto matrixSameSpec)) matrixSameUptoCard

/-- THE SECOND FORM's CARD OF 'sacristylaw16.MatrixNobody'. -/
def matrixNobodyUptoCard : Claim7 := { stood := { row := matrixNobodyUptoRow, standIns := [], harness := (true, "eb1696153f8cb3232e8b2f438456bf9c55f134f4348278d0aa98d579a3c22149"), looks := false }, kinds := [], alts := [], laidByText := true, laidKinds := [.data], laidTests := true, laidLooks := .later }
def MatrixNobodyUptoCardSaid : Prop := Claim7.holds Tryz.pinned (.plain (OpenSpec.upto matrixNobodySpec)) matrixNobodyUptoCard
end Rows
end Go.Proofs.YtnagnkhbamhfmaaGreatDoor
