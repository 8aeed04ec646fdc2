/-
  DERIVED. GIVEN WITH THE SEED: THE CARDS: each row of YtlacmkliofnjcaaDoorRows.lean that lists a variable, with what it lists TIED to the program's text (the seventh form; the later family's looks); each row that meets fmt, with fmt's text TOLD by the authors' own Lean function (tested against real Go, not proved from fmt's source: count such statements apart). THE CARD IS WHAT COUNTS. Prove the row's statement (the work); the ties are given (YtlacmkliofnjcaaDoorTie.lean); close each card by the builder's one call (the guide's Derived/Test/ToyasCard.lean, 'card_holds'). Laid BY PROGRAM, IN A SANDBOX (cutbox-door.mjs). By AI agents, Wed Nov 11 2026. No macro, syntax, notation, axiom, sorry.
-/
import Derived.Test.YtlacmkliofnjcaaDoorRows
import GoSem.ClaimSeven
namespace Go.Proofs.YtlacmkliofnjcaaDoor
namespace Rows

/-- THE TIED CARD OF 'sacristylaw10.TapeBytes'. -/
def tapeBytesCard : Claim7 := { stood := { row := tapeBytesRow, standIns := [], harness := (true, "b2f3a635b080a807049dfd8a3bbcd83cfd1f2faf6c6deaae8cd420e9f63e0053"), looks := false }, kinds := [], alts := [], laidByText := true, laidKinds := [.data, .pinned], laidTests := true, laidLooks := .later }
def TapeBytesCardSaid : Prop := Claim7.holds Tryd.pinned (.plain (OpenSpec.ofChange tapeBytesSpec)) tapeBytesCard

/-- THE TIED CARD OF 'sacristylaw10.TapeDraws'. -/
def tapeDrawsCard : Claim7 := { stood := { row := tapeDrawsRow, standIns := [], harness := (true, "b2f3a635b080a807049dfd8a3bbcd83cfd1f2faf6c6deaae8cd420e9f63e0053"), looks := false }, kinds := [], alts := [], laidByText := true, laidKinds := [.data, .pinned], laidTests := true, laidLooks := .later }
def TapeDrawsCardSaid : Prop := Claim7.holds Tryd.pinned (.plain (OpenSpec.ofChange tapeDrawsSpec)) tapeDrawsCard

/-- THE TIED CARD OF 'sacristylaw10.TapeEven'. -/
def tapeEvenCard : Claim7 := { stood := { row := tapeEvenRow, standIns := [], harness := (true, "b2f3a635b080a807049dfd8a3bbcd83cfd1f2faf6c6deaae8cd420e9f63e0053"), looks := false }, kinds := [], alts := [], laidByText := true, laidKinds := [.data, .pinned], laidTests := true, laidLooks := .later }
def TapeEvenCardSaid : Prop := Claim7.holds Tryd.pinned (.plain (OpenSpec.ofChange tapeEvenSpec)) tapeEvenCard

/-- THE TIED CARD OF 'sacristylaw10.TapeNobody'. -/
def tapeNobodyCard : Claim7 := { stood := { row := tapeNobodyRow, standIns := [], harness := (true, "b2f3a635b080a807049dfd8a3bbcd83cfd1f2faf6c6deaae8cd420e9f63e0053"), looks := false }, kinds := [], alts := [], laidByText := true, laidKinds := [.data, .pinned], laidTests := true, laidLooks := .later }
def TapeNobodyCardSaid : Prop := Claim7.holds Tryd.pinned (.plain (OpenSpec.ofChange tapeNobodySpec)) tapeNobodyCard

/-- THE SECOND FORM's CARD OF 'sacristylaw10.TapeBytes'. -/
def tapeBytesUptoCard : Claim7 := { stood := { row := tapeBytesUptoRow, standIns := [], harness := (true, "b2f3a635b080a807049dfd8a3bbcd83cfd1f2faf6c6deaae8cd420e9f63e0053"), looks := false }, kinds := [], alts := [], laidByText := true, laidKinds := [.data, .pinned], laidTests := true, laidLooks := .later }
def TapeBytesUptoCardSaid : Prop := Claim7.holds Tryd.pinned (.plain (OpenSpec.upto tapeBytesSpec)) tapeBytesUptoCard

/-- THE SECOND FORM's CARD OF 'sacristylaw10.TapeDraws'. -/
def tapeDrawsUptoCard : Claim7 := { stood := { row := tapeDrawsUptoRow, standIns := [], harness := (true, "b2f3a635b080a807049dfd8a3bbcd83cfd1f2faf6c6deaae8cd420e9f63e0053"), looks := false }, kinds := [], alts := [], laidByText := true, laidKinds := [.data, .pinned], laidTests := true, laidLooks := .later }
def TapeDrawsUptoCardSaid : Prop := Claim7.holds Tryd.pinned (.plain (OpenSpec.upto tapeDrawsSpec)) tapeDrawsUptoCard

/-- THE SECOND FORM's CARD OF 'sacristylaw10.TapeEven'. -/
def tapeEvenUptoCard : Claim7 := { stood := { row := tapeEvenUptoRow, standIns := [], harness := (true, "b2f3a635b080a807049dfd8a3bbcd83cfd1f2faf6c6deaae8cd420e9f63e0053"), looks := false }, kinds := [], alts := [], laidByText := true, laidKinds := [.data, .pinned], laidTests := true, laidLooks := .later }
def TapeEvenUptoCardSaid : Prop := Claim7.holds Tryd.pinned (.plain (OpenSpec.upto tapeEvenSpec)) tapeEvenUptoCard

/-- THE SECOND FORM's CARD OF 'sacristylaw10.TapeNobody'. -/
def tapeNobodyUptoCard : Claim7 := { stood := { row := tapeNobodyUptoRow, standIns := [], harness := (true, "b2f3a635b080a807049dfd8a3bbcd83cfd1f2faf6c6deaae8cd420e9f63e0053"), looks := false }, kinds := [], alts := [], laidByText := true, laidKinds := [.data, .pinned], laidTests := true, laidLooks := .later }
def TapeNobodyUptoCardSaid : Prop := Claim7.holds Tryd.pinned (.plain (OpenSpec.upto tapeNobodySpec)) tapeNobodyUptoCard
end Rows
end Go.Proofs.YtlacmkliofnjcaaDoor
