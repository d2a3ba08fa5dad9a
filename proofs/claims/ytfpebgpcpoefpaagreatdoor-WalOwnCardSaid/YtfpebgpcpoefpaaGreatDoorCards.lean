/-
  DERIVED. GIVEN WITH THE SEED: THE CARDS: each row of YtfpebgpcpoefpaaGreatDoorRows.lean that lists a variable, with what it lists TIED to the program's text (the seventh form; the later family's looks); each row that meets fmt, with fmt's text TOLD by the authors' own Lean function (tested against real Go, not proved from fmt's source: count such statements apart). THE CARD IS WHAT COUNTS. Prove the row's statement (the work); the ties are given (YtfpebgpcpoefpaaGreatDoorTie.lean); close each card by the builder's one call (the guide's Derived/Test/ToyasCard.lean, 'card_holds'). Laid BY PROGRAM, IN A SANDBOX (cutbox-door.mjs). By AI agents, Wed Nov 11 2026. No macro, syntax, notation, axiom, sorry.
-/
import Derived.Test.YtfpebgpcpoefpaaGreatDoorRows
import GoSem.ClaimSeven
namespace Go.Proofs.YtfpebgpcpoefpaaGreatDoor
namespace Rows

/-- THE TIED CARD OF 'lagoonlaw15.WalNames'. -/
def walNamesCard : Claim7 := { stood := { row := walNamesRow, standIns := [], harness := (true, "82bc5ecff8f0d273e5ee93960b564bdcf0cbff42c3e45ad1b454e953d7928b79"), looks := false }, kinds := [], alts := [], laidByText := true, laidKinds := [.data, .pinned], laidTests := true, laidLooks := .later }
def WalNamesCardSaid : Prop := Claim7.holds Tryz.pinned (.plain (OpenSpec.ofChange walNamesSpec)) walNamesCard

/-- THE TIED CARD OF 'lagoonlaw15.WalWidths'. -/
def walWidthsCard : Claim7 := { stood := { row := walWidthsRow, standIns := [], harness := (true, "82bc5ecff8f0d273e5ee93960b564bdcf0cbff42c3e45ad1b454e953d7928b79"), looks := false }, kinds := [], alts := [], laidByText := true, laidKinds := [.data, .pinned], laidTests := true, laidLooks := .later }
def WalWidthsCardSaid : Prop := Claim7.holds Tryz.pinned (.plain (OpenSpec.ofChange walWidthsSpec)) walWidthsCard

/-- THE TIED CARD OF 'lagoonlaw15.WalOwn'. -/
def walOwnCard : Claim7 := { stood := { row := walOwnRow, standIns := [], harness := (true, "82bc5ecff8f0d273e5ee93960b564bdcf0cbff42c3e45ad1b454e953d7928b79"), looks := false }, kinds := [], alts := [], laidByText := true, laidKinds := [.data, .pinned], laidTests := true, laidLooks := .later }
def WalOwnCardSaid : Prop := Claim7.holds Tryz.pinned (.plain (OpenSpec.ofChange walOwnSpec)) walOwnCard

/-- THE SECOND FORM's CARD OF 'lagoonlaw15.WalNames'. -/
def walNamesUptoCard : Claim7 := { stood := { row := walNamesUptoRow, standIns := [], harness := (true, "82bc5ecff8f0d273e5ee93960b564bdcf0cbff42c3e45ad1b454e953d7928b79"), looks := false }, kinds := [], alts := [], laidByText := true, laidKinds := [.data, .pinned], laidTests := true, laidLooks := .later }
def WalNamesUptoCardSaid : Prop := Claim7.holds Tryz.pinned (.plain (OpenSpec.upto walNamesSpec)) walNamesUptoCard

/-- THE SECOND FORM's CARD OF 'lagoonlaw15.WalWidths'. -/
def walWidthsUptoCard : Claim7 := { stood := { row := walWidthsUptoRow, standIns := [], harness := (true, "82bc5ecff8f0d273e5ee93960b564bdcf0cbff42c3e45ad1b454e953d7928b79"), looks := false }, kinds := [], alts := [], laidByText := true, laidKinds := [.data, .pinned], laidTests := true, laidLooks := .later }
def WalWidthsUptoCardSaid : Prop := Claim7.holds Tryz.pinned (.plain (OpenSpec.upto walWidthsSpec)) walWidthsUptoCard

/-- THE SECOND FORM's CARD OF 'lagoonlaw15.WalOwn'. -/
def walOwnUptoCard : Claim7 := { stood := { row := walOwnUptoRow, standIns := [], harness := (true, "82bc5ecff8f0d273e5ee93960b564bdcf0cbff42c3e45ad1b454e953d7928b79"), looks := false }, kinds := [], alts := [], laidByText := true, laidKinds := [.data, .pinned], laidTests := true, laidLooks := .later }
def WalOwnUptoCardSaid : Prop := Claim7.holds Tryz.pinned (.plain (OpenSpec.upto walOwnSpec)) walOwnUptoCard
end Rows
end Go.Proofs.YtfpebgpcpoefpaaGreatDoor
