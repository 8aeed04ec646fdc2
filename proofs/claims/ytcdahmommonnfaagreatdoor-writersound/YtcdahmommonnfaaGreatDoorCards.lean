/-
  DERIVED. GIVEN WITH THE SEED: THE CARDS: each row of YtcdahmommonnfaaGreatDoorRows.lean that lists a variable, with what it lists TIED to the program's text (the seventh form; the later family's looks); each row that meets fmt, with fmt's text TOLD by the authors' own Lean function (tested against real Go, not proved from fmt's source: count such statements apart). THE CARD IS WHAT COUNTS. Prove the row's statement (the work); the ties are given (YtcdahmommonnfaaGreatDoorTie.lean); close each card by the builder's one call (the guide's Derived/Test/ToyasCard.lean, 'card_holds'). Laid BY PROGRAM, IN A SANDBOX (cutbox-door.mjs). By AI agents, Wed Nov 11 2026. No macro, syntax, notation, axiom, sorry.
-/
import Derived.Test.YtcdahmommonnfaaGreatDoorRows
import GoSem.ClaimSeven
namespace Go.Proofs.YtcdahmommonnfaaGreatDoor
namespace Rows

/-- THE TIED CARD OF 'sacristylaw24.WriterPlays'. -/
def writerPlaysCard : Claim7 := { stood := { row := writerPlaysRow, standIns := [], harness := (true, "7deae6c92f829a365a522cb333c1dae4285caee74fd07f9b582df18d22e57e98"), looks := true }, kinds := [], alts := [], laidByText := true, laidKinds := [.data, .pinned], laidTests := true, laidLooks := .later }
def WriterPlaysCardSaid : Prop := Claim7.holds Tryz.pinned (.plain (OpenSpec.ofChange writerPlaysSpec)) writerPlaysCard

/-- THE TIED CARD OF 'sacristylaw24.WriterSound'. -/
def writerSoundCard : Claim7 := { stood := { row := writerSoundRow, standIns := [], harness := (true, "7deae6c92f829a365a522cb333c1dae4285caee74fd07f9b582df18d22e57e98"), looks := true }, kinds := [], alts := [], laidByText := true, laidKinds := [.data, .pinned], laidTests := true, laidLooks := .later }
def WriterSoundCardSaid : Prop := Claim7.holds Tryz.pinned (.plain (OpenSpec.ofChange writerSoundSpec)) writerSoundCard

/-- THE TIED CARD OF 'sacristylaw24.WriterDeals'. -/
def writerDealsCard : Claim7 := { stood := { row := writerDealsRow, standIns := [], harness := (true, "7deae6c92f829a365a522cb333c1dae4285caee74fd07f9b582df18d22e57e98"), looks := true }, kinds := [], alts := [], laidByText := true, laidKinds := [.data, .pinned], laidTests := true, laidLooks := .later }
def WriterDealsCardSaid : Prop := Claim7.holds Tryz.pinned (.plain (OpenSpec.ofChange writerDealsSpec)) writerDealsCard

/-- THE TIED CARD OF 'sacristylaw24.WriterNobody'. -/
def writerNobodyCard : Claim7 := { stood := { row := writerNobodyRow, standIns := [], harness := (true, "7deae6c92f829a365a522cb333c1dae4285caee74fd07f9b582df18d22e57e98"), looks := true }, kinds := [], alts := [], laidByText := true, laidKinds := [.data, .pinned], laidTests := true, laidLooks := .later }
def WriterNobodyCardSaid : Prop := Claim7.holds Tryz.pinned (.plain (OpenSpec.ofChange writerNobodySpec)) writerNobodyCard

/-- THE SECOND FORM's CARD OF 'sacristylaw24.WriterPlays'. -/
def writerPlaysUptoCard : Claim7 := { stood := { row := writerPlaysUptoRow, standIns := [], harness := (true, "7deae6c92f829a365a522cb333c1dae4285caee74fd07f9b582df18d22e57e98"), looks := true }, kinds := [], alts := [], laidByText := true, laidKinds := [.data, .pinned], laidTests := true, laidLooks := .later }
def WriterPlaysUptoCardSaid : Prop := Claim7.holds Tryz.pinned (.plain (OpenSpec.upto writerPlaysSpec)) writerPlaysUptoCard

/-- THE SECOND FORM's CARD OF 'sacristylaw24.WriterSound'. -/
def writerSoundUptoCard : Claim7 := { stood := { row := writerSoundUptoRow, standIns := [], harness := (true, "7deae6c92f829a365a522cb333c1dae4285caee74fd07f9b582df18d22e57e98"), looks := true }, kinds := [], alts := [], laidByText := true, laidKinds := [.data, .pinned], laidTests := true, laidLooks := .later }
def WriterSoundUptoCardSaid : Prop := Claim7.holds Tryz.pinned (.plain (OpenSpec.upto writerSoundSpec)) writerSoundUptoCard

/-- THE SECOND FORM's CARD OF 'sacristylaw24.WriterDeals'. -/
def writerDealsUptoCard : Claim7 := { stood := { row := writerDealsUptoRow, standIns := [], harness := (true, "7deae6c92f829a365a522cb333c1dae4285caee74fd07f9b582df18d22e57e98"), looks := true }, kinds := [], alts := [], laidByText := true, laidKinds := [.data, .pinned], laidTests := true, laidLooks := .later }
def WriterDealsUptoCardSaid : Prop := Claim7.holds Tryz.pinned (.plain (OpenSpec.upto writerDealsSpec)) writerDealsUptoCard

/-- THE SECOND FORM's CARD OF 'sacristylaw24.WriterNobody'. -/
def writerNobodyUptoCard : Claim7 := { stood := { row := writerNobodyUptoRow, standIns := [], harness := (true, "7deae6c92f829a365a522cb333c1dae4285caee74fd07f9b582df18d22e57e98"), looks := true }, kinds := [], alts := [], laidByText := true, laidKinds := [.data, .pinned], laidTests := true, laidLooks := .later }
def WriterNobodyUptoCardSaid : Prop := Claim7.holds Tryz.pinned (.plain (OpenSpec.upto writerNobodySpec)) writerNobodyUptoCard
end Rows
end Go.Proofs.YtcdahmommonnfaaGreatDoor
