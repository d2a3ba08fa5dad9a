/-
  DERIVED. GIVEN WITH THE SEED: THE CARDS: each row of YtbilafnamckglaaDoorRows.lean that lists a variable, with what it lists TIED to the program's text (the seventh form; the later family's looks); each row that meets fmt, with fmt's text TOLD by the authors' own Lean function (tested against real Go, not proved from fmt's source: count such statements apart). THE CARD IS WHAT COUNTS. Prove the row's statement (the work); the ties are given (YtbilafnamckglaaDoorTie.lean); close each card by the builder's one call (the guide's Derived/Test/ToyasCard.lean, 'card_holds'). Laid BY PROGRAM, IN A SANDBOX (cutbox-door.mjs). By AI agents, Wed Nov 11 2026. No macro, syntax, notation, axiom, sorry.
-/
import Derived.Test.YtbilafnamckglaaDoorRows
import GoSem.ClaimSeven
namespace Go.Proofs.YtbilafnamckglaaDoor
namespace Rows

/-- THE TIED CARD OF 'lagoonlaw05.JournalNames'. -/
def journalNamesCard : Claim7 := { stood := { row := journalNamesRow, standIns := [], harness := (true, "d3225863bfac529f6166fbee9d40afdac403543daadfad5a0821fde75eed35c5"), looks := false }, kinds := [], alts := [], laidByText := true, laidKinds := [.data, .pinned], laidTests := true, laidLooks := .later }
def JournalNamesCardSaid : Prop := Claim7.holds Tryd.pinned (.plain (OpenSpec.ofChange journalNamesSpec)) journalNamesCard

/-- THE TIED CARD OF 'lagoonlaw05.JournalPlays'. -/
def journalPlaysCard : Claim7 := { stood := { row := journalPlaysRow, standIns := [], harness := (true, "d3225863bfac529f6166fbee9d40afdac403543daadfad5a0821fde75eed35c5"), looks := false }, kinds := [], alts := [], laidByText := true, laidKinds := [.data, .pinned], laidTests := true, laidLooks := .later }
def JournalPlaysCardSaid : Prop := Claim7.holds Tryd.pinned (.plain (OpenSpec.ofChange journalPlaysSpec)) journalPlaysCard

/-- THE TIED CARD OF 'lagoonlaw05.JournalRaw'. -/
def journalRawCard : Claim7 := { stood := { row := journalRawRow, standIns := [], harness := (true, "d3225863bfac529f6166fbee9d40afdac403543daadfad5a0821fde75eed35c5"), looks := false }, kinds := [], alts := [], laidByText := true, laidKinds := [.data, .pinned], laidTests := true, laidLooks := .later }
def JournalRawCardSaid : Prop := Claim7.holds Tryd.pinned (.plain (OpenSpec.ofChange journalRawSpec)) journalRawCard

/-- THE TIED CARD OF 'lagoonlaw05.JournalNever'. -/
def journalNeverCard : Claim7 := { stood := { row := journalNeverRow, standIns := [], harness := (true, "d3225863bfac529f6166fbee9d40afdac403543daadfad5a0821fde75eed35c5"), looks := false }, kinds := [], alts := [], laidByText := true, laidKinds := [.data, .pinned], laidTests := true, laidLooks := .later }
def JournalNeverCardSaid : Prop := Claim7.holds Tryd.pinned (.plain (OpenSpec.ofChange journalNeverSpec)) journalNeverCard

/-- THE TIED CARD OF 'lagoonlaw05.JournalRoom'. -/
def journalRoomCard : Claim7 := { stood := { row := journalRoomRow, standIns := [], harness := (true, "d3225863bfac529f6166fbee9d40afdac403543daadfad5a0821fde75eed35c5"), looks := false }, kinds := [], alts := [], laidByText := true, laidKinds := [.data, .pinned], laidTests := true, laidLooks := .later }
def JournalRoomCardSaid : Prop := Claim7.holds Tryd.pinned (.plain (OpenSpec.ofChange journalRoomSpec)) journalRoomCard

/-- THE TIED CARD OF 'lagoonlaw05.JournalOwn'. -/
def journalOwnCard : Claim7 := { stood := { row := journalOwnRow, standIns := [], harness := (true, "d3225863bfac529f6166fbee9d40afdac403543daadfad5a0821fde75eed35c5"), looks := false }, kinds := [], alts := [], laidByText := true, laidKinds := [.data, .pinned], laidTests := true, laidLooks := .later }
def JournalOwnCardSaid : Prop := Claim7.holds Tryd.pinned (.plain (OpenSpec.ofChange journalOwnSpec)) journalOwnCard

/-- THE SECOND FORM's CARD OF 'lagoonlaw05.JournalNames'. -/
def journalNamesUptoCard : Claim7 := { stood := { row := journalNamesUptoRow, standIns := [], harness := (true, "d3225863bfac529f6166fbee9d40afdac403543daadfad5a0821fde75eed35c5"), looks := false }, kinds := [], alts := [], laidByText := true, laidKinds := [.data, .pinned], laidTests := true, laidLooks := .later }
def JournalNamesUptoCardSaid : Prop := Claim7.holds Tryd.pinned (.plain (OpenSpec.upto journalNamesSpec)) journalNamesUptoCard

/-- THE SECOND FORM's CARD OF 'lagoonlaw05.JournalPlays'. -/
def journalPlaysUptoCard : Claim7 := { stood := { row := journalPlaysUptoRow, standIns := [], harness := (true, "d3225863bfac529f6166fbee9d40afdac403543daadfad5a0821fde75eed35c5"), looks := false }, kinds := [], alts := [], laidByText := true, laidKinds := [.data, .pinned], laidTests := true, laidLooks := .later }
def JournalPlaysUptoCardSaid : Prop := Claim7.holds Tryd.pinned (.plain (OpenSpec.upto journalPlaysSpec)) journalPlaysUptoCard

/-- THE SECOND FORM's CARD OF 'lagoonlaw05.JournalRaw'. -/
def journalRawUptoCard : Claim7 := { stood := { row := journalRawUptoRow, standIns := [], harness := (true, "d3225863bfac529f6166fbee9d40afdac403543daadfad5a0821fde75eed35c5"), looks := false }, kinds := [], alts := [], laidByText := true, laidKinds := [.data, .pinned], laidTests := true, laidLooks := .later }
def JournalRawUptoCardSaid : Prop := Claim7.holds Tryd.pinned (.plain (OpenSpec.upto journalRawSpec)) journalRawUptoCard

/-- THE SECOND FORM's CARD OF 'lagoonlaw05.JournalNever'. -/
def journalNeverUptoCard : Claim7 := { stood := { row := journalNeverUptoRow, standIns := [], harness := (true, "d3225863bfac529f6166fbee9d40afdac403543daadfad5a0821fde75eed35c5"), looks := false }, kinds := [], alts := [], laidByText := true, laidKinds := [.data, .pinned], laidTests := true, laidLooks := .later }
def JournalNeverUptoCardSaid : Prop := Claim7.holds Tryd.pinned (.plain (OpenSpec.upto journalNeverSpec)) journalNeverUptoCard

/-- THE SECOND FORM's CARD OF 'lagoonlaw05.JournalRoom'. -/
def journalRoomUptoCard : Claim7 := { stood := { row := journalRoomUptoRow, standIns := [], harness := (true, "d3225863bfac529f6166fbee9d40afdac403543daadfad5a0821fde75eed35c5"), looks := false }, kinds := [], alts := [], laidByText := true, laidKinds := [.data, .pinned], laidTests := true, laidLooks := .later }
def JournalRoomUptoCardSaid : Prop := Claim7.holds Tryd.pinned (.plain (OpenSpec.upto journalRoomSpec)) journalRoomUptoCard

/-- THE SECOND FORM's CARD OF 'lagoonlaw05.JournalOwn'. -/
def journalOwnUptoCard : Claim7 := { stood := { row := journalOwnUptoRow, standIns := [], harness := (true, "d3225863bfac529f6166fbee9d40afdac403543daadfad5a0821fde75eed35c5"), looks := false }, kinds := [], alts := [], laidByText := true, laidKinds := [.data, .pinned], laidTests := true, laidLooks := .later }
def JournalOwnUptoCardSaid : Prop := Claim7.holds Tryd.pinned (.plain (OpenSpec.upto journalOwnSpec)) journalOwnUptoCard
end Rows
end Go.Proofs.YtbilafnamckglaaDoor
