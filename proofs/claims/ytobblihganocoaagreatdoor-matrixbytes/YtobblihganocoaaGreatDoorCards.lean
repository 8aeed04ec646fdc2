/-
  DERIVED. GIVEN WITH THE SEED: THE CARDS: each row of YtobblihganocoaaGreatDoorRows.lean that lists a variable, with what it lists TIED to the program's text (the seventh form; the later family's looks); each row that meets fmt, with fmt's text TOLD by the authors' own Lean function (tested against real Go, not proved from fmt's source: count such statements apart). THE CARD IS WHAT COUNTS. Prove the row's statement (the work); the ties are given (YtobblihganocoaaGreatDoorTie.lean); close each card by the builder's one call (the guide's Derived/Test/ToyasCard.lean, 'card_holds'). Laid BY PROGRAM, IN A SANDBOX (cutbox-door.mjs). By AI agents, Wed Nov 11 2026. No macro, syntax, notation, axiom, sorry.
-/
import Derived.Test.YtobblihganocoaaGreatDoorRows
import GoSem.ClaimSeven
namespace Go.Proofs.YtobblihganocoaaGreatDoor
namespace Rows

/-- THE TIED CARD OF 'sacristylaw16.MatrixBytes'. -/
def matrixBytesCard : Claim7 := { stood := { row := matrixBytesRow, standIns := [], harness := (true, "3134ec18fe1976ef51216545569fad35d52a17a6f837258b16d74a7665cfb5a1"), looks := false }, kinds := [], alts := [], laidByText := true, laidKinds := [.data], laidTests := true, laidLooks := .later }
def MatrixBytesCardSaid : Prop := Claim7.holds Tryz.pinned (.plain (OpenSpec.ofChange matrixBytesSpec)) matrixBytesCard

/-- THE TIED CARD OF 'sacristylaw16.MatrixDeals'. -/
def matrixDealsCard : Claim7 := { stood := { row := matrixDealsRow, standIns := [], harness := (true, "3134ec18fe1976ef51216545569fad35d52a17a6f837258b16d74a7665cfb5a1"), looks := false }, kinds := [], alts := [], laidByText := true, laidKinds := [.data], laidTests := true, laidLooks := .later }
def MatrixDealsCardSaid : Prop := Claim7.holds Tryz.pinned (.plain (OpenSpec.ofChange matrixDealsSpec)) matrixDealsCard

/-- THE TIED CARD OF 'sacristylaw16.MatrixRecovers'. -/
def matrixRecoversCard : Claim7 := { stood := { row := matrixRecoversRow, standIns := [], harness := (true, "3134ec18fe1976ef51216545569fad35d52a17a6f837258b16d74a7665cfb5a1"), looks := false }, kinds := [], alts := [], laidByText := true, laidKinds := [.data], laidTests := true, laidLooks := .later }
def MatrixRecoversCardSaid : Prop := Claim7.holds Tryz.pinned (.plain (OpenSpec.ofChange matrixRecoversSpec)) matrixRecoversCard

/-- THE TIED CARD OF 'sacristylaw16.MatrixSame'. -/
def matrixSameCard : Claim7 := { stood := { row := matrixSameRow, standIns := [], harness := (true, "3134ec18fe1976ef51216545569fad35d52a17a6f837258b16d74a7665cfb5a1"), looks := false }, kinds := [], alts := [], laidByText := true, laidKinds := [.data], laidTests := true, laidLooks := .later }
def MatrixSameCardSaid : Prop := Claim7.holds Tryz.pinned (.plain (OpenSpec.ofChange matrixSameSpec)) matrixSameCard

/-- THE TIED CARD OF 'sacristylaw16.MatrixNobody'. -/
def matrixNobodyCard : Claim7 := { stood := { row := matrixNobodyRow, standIns := [], harness := (true, "3134ec18fe1976ef51216545569fad35d52a17a6f837258b16d74a7665cfb5a1"), looks := false }, kinds := [], alts := [], laidByText := true, laidKinds := [.data], laidTests := true, laidLooks := .later }
def MatrixNobodyCardSaid : Prop := Claim7.holds Tryz.pinned (.plain (OpenSpec.ofChange matrixNobodySpec)) matrixNobodyCard

/-- THE SECOND FORM's CARD OF 'sacristylaw16.MatrixBytes'. -/
def matrixBytesUptoCard : Claim7 := { stood := { row := matrixBytesUptoRow, standIns := [], harness := (true, "3134ec18fe1976ef51216545569fad35d52a17a6f837258b16d74a7665cfb5a1"), looks := false }, kinds := [], alts := [], laidByText := true, laidKinds := [.data], laidTests := true, laidLooks := .later }
def MatrixBytesUptoCardSaid : Prop := Claim7.holds Tryz.pinned (.plain (OpenSpec.upto matrixBytesSpec)) matrixBytesUptoCard

/-- THE SECOND FORM's CARD OF 'sacristylaw16.MatrixDeals'. -/
def matrixDealsUptoCard : Claim7 := { stood := { row := matrixDealsUptoRow, standIns := [], harness := (true, "3134ec18fe1976ef51216545569fad35d52a17a6f837258b16d74a7665cfb5a1"), looks := false }, kinds := [], alts := [], laidByText := true, laidKinds := [.data], laidTests := true, laidLooks := .later }
def MatrixDealsUptoCardSaid : Prop := Claim7.holds Tryz.pinned (.plain (OpenSpec.upto matrixDealsSpec)) matrixDealsUptoCard

/-- THE SECOND FORM's CARD OF 'sacristylaw16.MatrixRecovers'. -/
def matrixRecoversUptoCard : Claim7 := { stood := { row := matrixRecoversUptoRow, standIns := [], harness := (true, "3134ec18fe1976ef51216545569fad35d52a17a6f837258b16d74a7665cfb5a1"), looks := false }, kinds := [], alts := [], laidByText := true, laidKinds := [.data], laidTests := true, laidLooks := .later }
def MatrixRecoversUptoCardSaid : Prop := Claim7.holds Tryz.pinned (.plain (OpenSpec.upto matrixRecoversSpec)) matrixRecoversUptoCard

/-- THE SECOND FORM's CARD OF 'sacristylaw16.MatrixSame'. -/
def matrixSameUptoCard : Claim7 := { stood := { row := matrixSameUptoRow, standIns := [], harness := (true, "3134ec18fe1976ef51216545569fad35d52a17a6f837258b16d74a7665cfb5a1"), looks := false }, kinds := [], alts := [], laidByText := true, laidKinds := [.data], laidTests := true, laidLooks := .later }
def MatrixSameUptoCardSaid : Prop := Claim7.holds Tryz.pinned (.plain (OpenSpec.upto matrixSameSpec)) matrixSameUptoCard

/-- THE SECOND FORM's CARD OF 'sacristylaw16.MatrixNobody'. -/
def matrixNobodyUptoCard : Claim7 := { stood := { row := matrixNobodyUptoRow, standIns := [], harness := (true, "3134ec18fe1976ef51216545569fad35d52a17a6f837258b16d74a7665cfb5a1"), looks := false }, kinds := [], alts := [], laidByText := true, laidKinds := [.data], laidTests := true, laidLooks := .later }
def MatrixNobodyUptoCardSaid : Prop := Claim7.holds Tryz.pinned (.plain (OpenSpec.upto matrixNobodySpec)) matrixNobodyUptoCard
end Rows
end Go.Proofs.YtobblihganocoaaGreatDoor
