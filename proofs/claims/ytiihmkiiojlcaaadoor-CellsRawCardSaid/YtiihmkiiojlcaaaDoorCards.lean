/-
  DERIVED. GIVEN WITH THE SEED: THE CARDS: each row of YtiihmkiiojlcaaaDoorRows.lean that lists a variable, with what it lists TIED to the program's text (the seventh form; the later family's looks); each row that meets fmt, with fmt's text TOLD by the authors' own Lean function (tested against real Go, not proved from fmt's source: count such statements apart). THE CARD IS WHAT COUNTS. Prove the row's statement (the work); the ties are given (YtiihmkiiojlcaaaDoorTie.lean); close each card by the builder's one call (the guide's Derived/Test/ToyasCard.lean, 'card_holds'). Laid BY PROGRAM, IN A SANDBOX (cutbox-door.mjs). By AI agents, Wed Nov 11 2026. No macro, syntax, notation, axiom, sorry.
-/
import Derived.Test.YtiihmkiiojlcaaaDoorRows
import GoSem.ClaimSeven
namespace Go.Proofs.YtiihmkiiojlcaaaDoor
namespace Rows

/-- THE TIED CARD OF 'lagoonlaw06.CellsPlays'. -/
def cellsPlaysCard : Claim7 := { stood := { row := cellsPlaysRow, standIns := [], harness := (true, "df79548f8aa0b340473a2cc7e012f6ba94d3b82b5c6235f0efaca8c3c72d1374"), looks := false }, kinds := [], alts := [], laidByText := true, laidKinds := [.data, .pinned], laidTests := true, laidLooks := .later }
def CellsPlaysCardSaid : Prop := Claim7.holds Tryd.pinned (.plain (OpenSpec.ofChange cellsPlaysSpec)) cellsPlaysCard

/-- THE TIED CARD OF 'lagoonlaw06.CellsRaw'. -/
def cellsRawCard : Claim7 := { stood := { row := cellsRawRow, standIns := [], harness := (true, "df79548f8aa0b340473a2cc7e012f6ba94d3b82b5c6235f0efaca8c3c72d1374"), looks := false }, kinds := [], alts := [], laidByText := true, laidKinds := [.data, .pinned], laidTests := true, laidLooks := .later }
def CellsRawCardSaid : Prop := Claim7.holds Tryd.pinned (.plain (OpenSpec.ofChange cellsRawSpec)) cellsRawCard

/-- THE SECOND FORM's CARD OF 'lagoonlaw06.CellsPlays'. -/
def cellsPlaysUptoCard : Claim7 := { stood := { row := cellsPlaysUptoRow, standIns := [], harness := (true, "df79548f8aa0b340473a2cc7e012f6ba94d3b82b5c6235f0efaca8c3c72d1374"), looks := false }, kinds := [], alts := [], laidByText := true, laidKinds := [.data, .pinned], laidTests := true, laidLooks := .later }
def CellsPlaysUptoCardSaid : Prop := Claim7.holds Tryd.pinned (.plain (OpenSpec.upto cellsPlaysSpec)) cellsPlaysUptoCard

/-- THE SECOND FORM's CARD OF 'lagoonlaw06.CellsRaw'. -/
def cellsRawUptoCard : Claim7 := { stood := { row := cellsRawUptoRow, standIns := [], harness := (true, "df79548f8aa0b340473a2cc7e012f6ba94d3b82b5c6235f0efaca8c3c72d1374"), looks := false }, kinds := [], alts := [], laidByText := true, laidKinds := [.data, .pinned], laidTests := true, laidLooks := .later }
def CellsRawUptoCardSaid : Prop := Claim7.holds Tryd.pinned (.plain (OpenSpec.upto cellsRawSpec)) cellsRawUptoCard
end Rows
end Go.Proofs.YtiihmkiiojlcaaaDoor
