/-
  DERIVED. GIVEN WITH THE SEED: THE CARDS: each row of YthhjjpofenjknaaDoorRows.lean that lists a variable, with what it lists TIED to the program's text (the seventh form; the later family's looks); each row that meets fmt, with fmt's text TOLD by the authors' own Lean function (tested against real Go, not proved from fmt's source: count such statements apart). THE CARD IS WHAT COUNTS. Prove the row's statement (the work); the ties are given (YthhjjpofenjknaaDoorTie.lean); close each card by the builder's one call (the guide's Derived/Test/ToyasCard.lean, 'card_holds'). Laid BY PROGRAM, IN A SANDBOX (cutbox-door.mjs). By AI agents, Wed Nov 11 2026. No macro, syntax, notation, axiom, sorry.
-/
import Derived.Test.YthhjjpofenjknaaDoorRows
import GoSem.ClaimSeven
namespace Go.Proofs.YthhjjpofenjknaaDoor
namespace Rows

/-- THE TIED CARD OF 'lagoonlaw11.AcceptorNames'. -/
def acceptorNamesCard : Claim7 := { stood := { row := acceptorNamesRow, standIns := [], harness := (true, "c3fd75fab1340dfed1b0fb1b6ebba36715c3ee8bed9658070afdab33ae2f02b1"), looks := false }, kinds := [], alts := [], laidByText := true, laidKinds := [.data, .pinned], laidTests := true, laidLooks := .later }
def AcceptorNamesCardSaid : Prop := Claim7.holds Tryd.pinned (.plain (OpenSpec.ofChange acceptorNamesSpec)) acceptorNamesCard

/-- THE TIED CARD OF 'lagoonlaw11.AcceptorNever'. -/
def acceptorNeverCard : Claim7 := { stood := { row := acceptorNeverRow, standIns := [], harness := (true, "c3fd75fab1340dfed1b0fb1b6ebba36715c3ee8bed9658070afdab33ae2f02b1"), looks := false }, kinds := [], alts := [], laidByText := true, laidKinds := [.data, .pinned], laidTests := true, laidLooks := .later }
def AcceptorNeverCardSaid : Prop := Claim7.holds Tryd.pinned (.plain (OpenSpec.ofChange acceptorNeverSpec)) acceptorNeverCard

/-- THE SECOND FORM's CARD OF 'lagoonlaw11.AcceptorNames'. -/
def acceptorNamesUptoCard : Claim7 := { stood := { row := acceptorNamesUptoRow, standIns := [], harness := (true, "c3fd75fab1340dfed1b0fb1b6ebba36715c3ee8bed9658070afdab33ae2f02b1"), looks := false }, kinds := [], alts := [], laidByText := true, laidKinds := [.data, .pinned], laidTests := true, laidLooks := .later }
def AcceptorNamesUptoCardSaid : Prop := Claim7.holds Tryd.pinned (.plain (OpenSpec.upto acceptorNamesSpec)) acceptorNamesUptoCard

/-- THE SECOND FORM's CARD OF 'lagoonlaw11.AcceptorNever'. -/
def acceptorNeverUptoCard : Claim7 := { stood := { row := acceptorNeverUptoRow, standIns := [], harness := (true, "c3fd75fab1340dfed1b0fb1b6ebba36715c3ee8bed9658070afdab33ae2f02b1"), looks := false }, kinds := [], alts := [], laidByText := true, laidKinds := [.data, .pinned], laidTests := true, laidLooks := .later }
def AcceptorNeverUptoCardSaid : Prop := Claim7.holds Tryd.pinned (.plain (OpenSpec.upto acceptorNeverSpec)) acceptorNeverUptoCard
end Rows
end Go.Proofs.YthhjjpofenjknaaDoor
