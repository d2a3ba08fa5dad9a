/-
  NARROWER THAN 'FOR EVERY INPUT', by the rows' own cells (each row's printed sentence says how): CellsPlays: laid · CellsRaw: laid · ReplicaFenced: laid · ReplicaNever: laid.
  DERIVED. THE GIVEN ROWS OF THIS SEAT. 4 by the template 'for every input the law returns true; each argument reads behind the call as it read before'; 0 by the template 'total and deterministic' (their statements: YtafknnedagolhaaDoorTotals.lean).
  GIVEN WITH THE SEED: the statements are not yours to turn. If you find one false, say at which input.
  Laid BY PROGRAM, IN A SANDBOX (cutbox-rows.mjs): the forced cells as the released guide's own fill.sh prints them over the translation c1e18308e5f197ec… (all of the seat's roots in one cut). By AI agents, Wed Nov 11 2026. No macro, syntax, notation, axiom, sorry.
-/
import Derived.Test.YtafknnedagolhaaDoorChecked
import GoSem.PinnedTables
import GoSem.Claim
import GoSem.ClaimJoined
import GoSem.ClaimMapViews
import Derived.JoinedTies
import Derived.KernelRfl
namespace Go.Proofs.YtafknnedagolhaaDoor
/- THE CELL 'sum', in the pinned program and in every row, IS THE sha256 OF THE DUMP (.gsa) THAT YtafknnedagolhaaDoorProg.lean LOADS. Nothing in Lean hashes anything: it is a label: what it is worth is what the hold of that sum in a sandbox is worth. -/
noncomputable def Tryd.pinned : Pinned := { name := "ytafknnedagolhaadoor", sum := "c1e18308e5f197ecea93de83137331512b24aa2c59f4c52246591a17f6e8b1a9", checked := Tryd.checked }
namespace Rows
def none {H : Type} : Left H := { results := [], args := [] }

/- WHAT THE LISTED PACKAGE-LEVEL VARIABLES READ AS WHEN THE CALL BEGINS. Each datum BY PROGRAM (the guide's laid-datum.mjs) off the statement by which the dump's own 'gosem.cut.vars' lays the variable. In a bare row this is a premise. The card (YtafknnedagolhaaDoorCards.lean) ties it to the program's text. -/
def laid_unicode_utf8_acceptRanges {H : Type} : DataW H := .agg [.agg [.lit (.int .u8 128), .lit (.int .u8 191)], .agg [.lit (.int .u8 160), .lit (.int .u8 191)], .agg [.lit (.int .u8 128), .lit (.int .u8 159)], .agg [.lit (.int .u8 144), .lit (.int .u8 191)], .agg [.lit (.int .u8 128), .lit (.int .u8 143)], .agg [.lit (.int .u8 0), .lit (.int .u8 0)], .agg [.lit (.int .u8 0), .lit (.int .u8 0)], .agg [.lit (.int .u8 0), .lit (.int .u8 0)], .agg [.lit (.int .u8 0), .lit (.int .u8 0)], .agg [.lit (.int .u8 0), .lit (.int .u8 0)], .agg [.lit (.int .u8 0), .lit (.int .u8 0)], .agg [.lit (.int .u8 0), .lit (.int .u8 0)], .agg [.lit (.int .u8 0), .lit (.int .u8 0)], .agg [.lit (.int .u8 0), .lit (.int .u8 0)], .agg [.lit (.int .u8 0), .lit (.int .u8 0)], .agg [.lit (.int .u8 0), .lit (.int .u8 0)]]
/-- One of Go's own tables, pinned by name: the form's constant. -/
def laid_unicode_utf8_first : DataW Unit := Go.Pinned.utf8First

/-- 'lagoonlaw06.CellsPlays': WHATEVER THE INPUT: true; the input reads as it did. -/
def cellsPlaysSpec : ChangeSpec := { name := "cellsPlays", fn := fun _ => fun
  | [d1, d2] => { results := [.lit (.bool true)], args := [d1, d2] }
  | _ => none }
def cellsPlaysRow : OpenClaim := { program := "ytafknnedagolhaadoor", sum := "c1e18308e5f197ecea93de83137331512b24aa2c59f4c52246591a17f6e8b1a9", func := "lagoon/lagoonlaw06.CellsPlays", spec := "cellsPlays", named := ["unicode/utf8.first", "unicode/utf8.acceptRanges"], apart := false, laid := [("unicode/utf8.acceptRanges", laid_unicode_utf8_acceptRanges), ("unicode/utf8.first", laid_unicode_utf8_first)] }
def CellsPlaysSaid : Prop := cellsPlaysRow.holds Tryd.pinned (OpenSpec.ofChange cellsPlaysSpec)

/-- ITS FALSE NEIGHBOUR: 'it returns false'. Refute it at one input. -/
def cellsPlaysWrong : ChangeSpec := { name := "cellsPlays", fn := fun _ => fun
  | [d1, d2] => { results := [.lit (.bool false)], args := [d1, d2] }
  | _ => none }
def CellsPlaysWrongFalsely : Prop := cellsPlaysRow.holds Tryd.pinned (OpenSpec.ofChange cellsPlaysWrong)

/-- 'lagoonlaw06.CellsRaw': WHATEVER THE INPUT: true; the input reads as it did. -/
def cellsRawSpec : ChangeSpec := { name := "cellsRaw", fn := fun _ => fun
  | [d1, d2, d3] => { results := [.lit (.bool true)], args := [d1, d2, d3] }
  | _ => none }
def cellsRawRow : OpenClaim := { program := "ytafknnedagolhaadoor", sum := "c1e18308e5f197ecea93de83137331512b24aa2c59f4c52246591a17f6e8b1a9", func := "lagoon/lagoonlaw06.CellsRaw", spec := "cellsRaw", named := ["unicode/utf8.first", "unicode/utf8.acceptRanges"], apart := false, laid := [("unicode/utf8.acceptRanges", laid_unicode_utf8_acceptRanges), ("unicode/utf8.first", laid_unicode_utf8_first)] }
def CellsRawSaid : Prop := cellsRawRow.holds Tryd.pinned (OpenSpec.ofChange cellsRawSpec)

/-- ITS FALSE NEIGHBOUR: 'it returns false'. Refute it at one input. -/
def cellsRawWrong : ChangeSpec := { name := "cellsRaw", fn := fun _ => fun
  | [d1, d2, d3] => { results := [.lit (.bool false)], args := [d1, d2, d3] }
  | _ => none }
def CellsRawWrongFalsely : Prop := cellsRawRow.holds Tryd.pinned (OpenSpec.ofChange cellsRawWrong)

/-- 'lagoonlaw07.ReplicaFenced': WHATEVER THE INPUT: true; the input reads as it did. -/
def replicaFencedSpec : ChangeSpec := { name := "replicaFenced", fn := fun _ => fun
  | [d] => { results := [.lit (.bool true)], args := [d] }
  | _ => none }
def replicaFencedRow : OpenClaim := { program := "ytafknnedagolhaadoor", sum := "c1e18308e5f197ecea93de83137331512b24aa2c59f4c52246591a17f6e8b1a9", func := "lagoon/lagoonlaw07.ReplicaFenced", spec := "replicaFenced", unfollowed := true, recurses := true, named := ["unicode/utf8.first", "unicode/utf8.acceptRanges"], apart := false, laid := [("unicode/utf8.acceptRanges", laid_unicode_utf8_acceptRanges), ("unicode/utf8.first", laid_unicode_utf8_first)] }
def ReplicaFencedSaid : Prop := replicaFencedRow.holds Tryd.pinned (OpenSpec.ofChange replicaFencedSpec)

/-- ITS FALSE NEIGHBOUR: 'it returns false'. Refute it at one input. -/
def replicaFencedWrong : ChangeSpec := { name := "replicaFenced", fn := fun _ => fun
  | [d] => { results := [.lit (.bool false)], args := [d] }
  | _ => none }
def ReplicaFencedWrongFalsely : Prop := replicaFencedRow.holds Tryd.pinned (OpenSpec.ofChange replicaFencedWrong)

/-- 'lagoonlaw07.ReplicaNever': WHATEVER THE INPUT: true; the input reads as it did. -/
def replicaNeverSpec : ChangeSpec := { name := "replicaNever", fn := fun _ => fun
  | [d1, d2] => { results := [.lit (.bool true)], args := [d1, d2] }
  | _ => none }
def replicaNeverRow : OpenClaim := { program := "ytafknnedagolhaadoor", sum := "c1e18308e5f197ecea93de83137331512b24aa2c59f4c52246591a17f6e8b1a9", func := "lagoon/lagoonlaw07.ReplicaNever", spec := "replicaNever", unfollowed := true, recurses := true, named := ["unicode/utf8.first", "unicode/utf8.acceptRanges"], apart := false, laid := [("unicode/utf8.acceptRanges", laid_unicode_utf8_acceptRanges), ("unicode/utf8.first", laid_unicode_utf8_first)] }
def ReplicaNeverSaid : Prop := replicaNeverRow.holds Tryd.pinned (OpenSpec.ofChange replicaNeverSpec)

/-- ITS FALSE NEIGHBOUR: 'it returns false'. Refute it at one input. -/
def replicaNeverWrong : ChangeSpec := { name := "replicaNever", fn := fun _ => fun
  | [d1, d2] => { results := [.lit (.bool false)], args := [d1, d2] }
  | _ => none }
def ReplicaNeverWrongFalsely : Prop := replicaNeverRow.holds Tryd.pinned (OpenSpec.ofChange replicaNeverWrong)

/- THE SECOND FORM. 'bulk': how many values and letters a reading holds, each counted each time it is reached (what is shared counts as often as it is met; a slice's spare places count too). A statement '..UptoSaid' is the law's where the arguments, and the package variables that the reading takes, are together of bulk at most 1048576: NARROWER than '..Said'. Prove '..Said' where nothing that the law and all that it calls make is longer than what came in: it says more and counts as full. Else prove '..UptoSaid'. A law counts once. -/
mutual
def uptoBulk {H : Type} : DataW H → Nat
  | .lit (.string bytes) => bytes.length + 1
  | .lit _ => 1
  | .nil => 1
  | .ptr d => uptoBulk d + 1
  | .slice elems spare => uptoBulkAll elems + uptoBulkAll spare + 1
  | .agg parts => uptoBulkAll parts + 1
  | .iface _ d => uptoBulk d + 1
  | .map entries => uptoBulkEntries entries + 1
  | .held _ => 1
def uptoBulkAll {H : Type} : List (DataW H) → Nat
  | [] => 0
  | d :: r => uptoBulk d + uptoBulkAll r
def uptoBulkEntries {H : Type} : List (Lit × DataW H) → Nat
  | [] => 0
  | x :: r => uptoBulkEntry x + uptoBulkEntries r
def uptoBulkEntry {H : Type} : Lit × DataW H → Nat
  | (.string bytes, d) => bytes.length + uptoBulk d + 1
  | (_, d) => uptoBulk d + 1
 end
def uptoSmall : (H : Type) → List (DataW H) → Bool := fun _ ds => decide (uptoBulkAll ds ≤ 1048576)
def OpenSpec.upto (s : _root_.Go.ChangeSpec) : _root_.Go.OpenSpec := { _root_.Go.OpenSpec.ofChange s with cond := some uptoSmall }

/-- 'lagoonlaw06.CellsPlays', WHERE WHAT IT READS IS OF BULK AT MOST 1048576: true; the input reads as it did. -/
def cellsPlaysUptoRow : OpenClaim := { program := "ytafknnedagolhaadoor", sum := "c1e18308e5f197ecea93de83137331512b24aa2c59f4c52246591a17f6e8b1a9", func := "lagoon/lagoonlaw06.CellsPlays", spec := "cellsPlays", named := ["unicode/utf8.first", "unicode/utf8.acceptRanges"], apart := false, laid := [("unicode/utf8.acceptRanges", laid_unicode_utf8_acceptRanges), ("unicode/utf8.first", laid_unicode_utf8_first)], narrowed := true }
def CellsPlaysUptoSaid : Prop := cellsPlaysUptoRow.holds Tryd.pinned (OpenSpec.upto cellsPlaysSpec)

/-- 'lagoonlaw06.CellsRaw', WHERE WHAT IT READS IS OF BULK AT MOST 1048576: true; the input reads as it did. -/
def cellsRawUptoRow : OpenClaim := { program := "ytafknnedagolhaadoor", sum := "c1e18308e5f197ecea93de83137331512b24aa2c59f4c52246591a17f6e8b1a9", func := "lagoon/lagoonlaw06.CellsRaw", spec := "cellsRaw", named := ["unicode/utf8.first", "unicode/utf8.acceptRanges"], apart := false, laid := [("unicode/utf8.acceptRanges", laid_unicode_utf8_acceptRanges), ("unicode/utf8.first", laid_unicode_utf8_first)], narrowed := true }
def CellsRawUptoSaid : Prop := cellsRawUptoRow.holds Tryd.pinned (OpenSpec.upto cellsRawSpec)

/-- 'lagoonlaw07.ReplicaFenced', WHERE WHAT IT READS IS OF BULK AT MOST 1048576: true; the input reads as it did. -/
def replicaFencedUptoRow : OpenClaim := { program := "ytafknnedagolhaadoor", sum := "c1e18308e5f197ecea93de83137331512b24aa2c59f4c52246591a17f6e8b1a9", func := "lagoon/lagoonlaw07.ReplicaFenced", spec := "replicaFenced", unfollowed := true, recurses := true, named := ["unicode/utf8.first", "unicode/utf8.acceptRanges"], apart := false, laid := [("unicode/utf8.acceptRanges", laid_unicode_utf8_acceptRanges), ("unicode/utf8.first", laid_unicode_utf8_first)], narrowed := true }
def ReplicaFencedUptoSaid : Prop := replicaFencedUptoRow.holds Tryd.pinned (OpenSpec.upto replicaFencedSpec)

/-- 'lagoonlaw07.ReplicaNever', WHERE WHAT IT READS IS OF BULK AT MOST 1048576: true; the input reads as it did. -/
def replicaNeverUptoRow : OpenClaim := { program := "ytafknnedagolhaadoor", sum := "c1e18308e5f197ecea93de83137331512b24aa2c59f4c52246591a17f6e8b1a9", func := "lagoon/lagoonlaw07.ReplicaNever", spec := "replicaNever", unfollowed := true, recurses := true, named := ["unicode/utf8.first", "unicode/utf8.acceptRanges"], apart := false, laid := [("unicode/utf8.acceptRanges", laid_unicode_utf8_acceptRanges), ("unicode/utf8.first", laid_unicode_utf8_first)], narrowed := true }
def ReplicaNeverUptoSaid : Prop := replicaNeverUptoRow.holds Tryd.pinned (OpenSpec.upto replicaNeverSpec)

end Rows
end Go.Proofs.YtafknnedagolhaaDoor
