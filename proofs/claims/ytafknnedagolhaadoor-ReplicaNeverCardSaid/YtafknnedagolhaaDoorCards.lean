/-
  DERIVED. GIVEN WITH THE SEED: THE CARDS: each row of YtafknnedagolhaaDoorRows.lean that lists a variable, with what it lists TIED to the program's text (the seventh form; the later family's looks); each row that meets fmt, with fmt's text TOLD by the authors' own Lean function (tested against real Go, not proved from fmt's source: count such statements apart). THE CARD IS WHAT COUNTS. Prove the row's statement (the work); the ties are given (YtafknnedagolhaaDoorTie.lean); close each card by the builder's one call (the guide's Derived/Test/ToyasCard.lean, 'card_holds'). Laid BY PROGRAM, IN A SANDBOX (cutbox-door.mjs). By AI agents, Wed Nov 11 2026. No macro, syntax, notation, axiom, sorry.
-/
import Derived.Test.YtafknnedagolhaaDoorRows
import GoSem.ClaimSeven
namespace Go.Proofs.YtafknnedagolhaaDoor
namespace Rows

/-- THE TIED CARD OF 'lagoonlaw06.CellsPlays'. -/
def cellsPlaysCard : Claim7 := { stood := { row := cellsPlaysRow, standIns := [], harness := (true, "92c6eb222a056dadb507242ca36868176f434062d598b6be0ab446b59ff09237"), looks := false }, kinds := [], alts := [], laidByText := true, laidKinds := [.data, .pinned], laidTests := true, laidLooks := .later }
def CellsPlaysCardSaid : Prop := Claim7.holds Tryd.pinned (.plain (OpenSpec.ofChange cellsPlaysSpec)) cellsPlaysCard

/-- THE TIED CARD OF 'lagoonlaw06.CellsRaw'. -/
def cellsRawCard : Claim7 := { stood := { row := cellsRawRow, standIns := [], harness := (true, "92c6eb222a056dadb507242ca36868176f434062d598b6be0ab446b59ff09237"), looks := false }, kinds := [], alts := [], laidByText := true, laidKinds := [.data, .pinned], laidTests := true, laidLooks := .later }
def CellsRawCardSaid : Prop := Claim7.holds Tryd.pinned (.plain (OpenSpec.ofChange cellsRawSpec)) cellsRawCard

/-- THE TIED CARD OF 'lagoonlaw07.ReplicaFenced'. -/
def replicaFencedCard : Claim7 := { stood := { row := replicaFencedRow, standIns := [], harness := (true, "92c6eb222a056dadb507242ca36868176f434062d598b6be0ab446b59ff09237"), looks := false }, kinds := [], alts := [], laidByText := true, laidKinds := [.data, .pinned], laidTests := true, laidLooks := .later }
def ReplicaFencedCardSaid : Prop := Claim7.holds Tryd.pinned (.plain (OpenSpec.ofChange replicaFencedSpec)) replicaFencedCard

/-- THE TIED CARD OF 'lagoonlaw07.ReplicaNever'. -/
def replicaNeverCard : Claim7 := { stood := { row := replicaNeverRow, standIns := [], harness := (true, "92c6eb222a056dadb507242ca36868176f434062d598b6be0ab446b59ff09237"), looks := false }, kinds := [], alts := [], laidByText := true, laidKinds := [.data, .pinned], laidTests := true, laidLooks := .later }
def ReplicaNeverCardSaid : Prop := Claim7.holds Tryd.pinned (.plain (OpenSpec.ofChange replicaNeverSpec)) replicaNeverCard

/-- THE SECOND FORM's CARD OF 'lagoonlaw06.CellsPlays'. -/
def cellsPlaysUptoCard : Claim7 := { stood := { row := cellsPlaysUptoRow, standIns := [], harness := (true, "92c6eb222a056dadb507242ca36868176f434062d598b6be0ab446b59ff09237"), looks := false }, kinds := [], alts := [], laidByText := true, laidKinds := [.data, .pinned], laidTests := true, laidLooks := .later }
def CellsPlaysUptoCardSaid : Prop := Claim7.holds Tryd.pinned (.plain (OpenSpec.upto cellsPlaysSpec)) cellsPlaysUptoCard

/-- THE SECOND FORM's CARD OF 'lagoonlaw06.CellsRaw'. -/
def cellsRawUptoCard : Claim7 := { stood := { row := cellsRawUptoRow, standIns := [], harness := (true, "92c6eb222a056dadb507242ca36868176f434062d598b6be0ab446b59ff09237"), looks := false }, kinds := [], alts := [], laidByText := true, laidKinds := [.data, .pinned], laidTests := true, laidLooks := .later }
def CellsRawUptoCardSaid : Prop := Claim7.holds Tryd.pinned (.plain (OpenSpec.upto cellsRawSpec)) cellsRawUptoCard

/-- THE SECOND FORM's CARD OF 'lagoonlaw07.ReplicaFenced'. -/
def replicaFencedUptoCard : Claim7 := { stood := { row := replicaFencedUptoRow, standIns := [], harness := (true, "92c6eb222a056dadb507242ca36868176f434062d598b6be0ab446b59ff09237"), looks := false }, kinds := [], alts := [], laidByText := true, laidKinds := [.data, .pinned], laidTests := true, laidLooks := .later }
def ReplicaFencedUptoCardSaid : Prop := Claim7.holds Tryd.pinned (.plain (OpenSpec.upto replicaFencedSpec)) replicaFencedUptoCard

/-- THE SECOND FORM's CARD OF 'lagoonlaw07.ReplicaNever'. -/
def replicaNeverUptoCard : Claim7 := { stood := { row := replicaNeverUptoRow, standIns := [], harness := (true, "92c6eb222a056dadb507242ca36868176f434062d598b6be0ab446b59ff09237"), looks := false }, kinds := [], alts := [], laidByText := true, laidKinds := [.data, .pinned], laidTests := true, laidLooks := .later }
def ReplicaNeverUptoCardSaid : Prop := Claim7.holds Tryd.pinned (.plain (OpenSpec.upto replicaNeverSpec)) replicaNeverUptoCard
end Rows
end Go.Proofs.YtafknnedagolhaaDoor
