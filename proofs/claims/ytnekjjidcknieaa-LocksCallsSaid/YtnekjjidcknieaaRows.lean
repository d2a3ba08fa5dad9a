/-
  No cell of these rows narrows 'for every input' (looked for: loops, veiled, ifaces, maps, wideKeys, modest, calm, conditions, laid).
  DERIVED. THE GIVEN ROWS OF THIS SEAT. 7 by the template 'for every input the law returns true; each argument reads behind the call as it read before'; 0 by the template 'total and deterministic' (their statements: YtnekjjidcknieaaTotals.lean).
  GIVEN WITH THE SEED: the statements are not yours to turn. If you find one false, say at which input.
  Laid BY PROGRAM, IN A SANDBOX (cutbox-rows.mjs): the forced cells as the released guide's own fill.sh prints them over the translation 339b1b032aaba181… (all of the seat's roots in one cut). By AI agents, Wed Nov 11 2026. No macro, syntax, notation, axiom, sorry.
-/
import Derived.Test.YtnekjjidcknieaaChecked
import GoSem.Claim
import GoSem.ClaimJoined
import GoSem.ClaimMapViews
import Derived.JoinedTies
import Derived.KernelRfl
namespace Go.Proofs.Ytnekjjidcknieaa
/- THE CELL 'sum', in the pinned program and in every row, IS THE sha256 OF THE DUMP (.gsa) THAT YtnekjjidcknieaaProg.lean LOADS. Nothing in Lean hashes anything: it is a label: what it is worth is what the hold of that sum in a sandbox is worth. -/
noncomputable def Try.pinned : Pinned := { name := "ytnekjjidcknieaa", sum := "339b1b032aaba1818f7a766947210204b5cfe7a8a315806ca16192d2fe52541d", checked := Try.checked }
namespace Rows
def none {H : Type} : Left H := { results := [], args := [] }

/-- 'lagoonlaw09.LocksNames': WHATEVER THE INPUT: true; the input reads as it did. -/
def locksNamesSpec : ChangeSpec := { name := "locksNames", fn := fun _ => fun
  | [] => { results := [.lit (.bool true)], args := [] }
  | _ => none }
def locksNamesRow : OpenClaim := { program := "ytnekjjidcknieaa", sum := "339b1b032aaba1818f7a766947210204b5cfe7a8a315806ca16192d2fe52541d", func := "lagoon/lagoonlaw09.LocksNames", spec := "locksNames", apart := false }
def LocksNamesSaid : Prop := locksNamesRow.holds Try.pinned (OpenSpec.ofChange locksNamesSpec)

/-- ITS FALSE NEIGHBOUR: 'it returns false'. Refute it at one input. -/
def locksNamesWrong : ChangeSpec := { name := "locksNames", fn := fun _ => fun
  | [] => { results := [.lit (.bool false)], args := [] }
  | _ => none }
def LocksNamesWrongFalsely : Prop := locksNamesRow.holds Try.pinned (OpenSpec.ofChange locksNamesWrong)

/-- 'lagoonlaw09.LocksCalls': WHATEVER THE INPUT: true; the input reads as it did. -/
def locksCallsSpec : ChangeSpec := { name := "locksCalls", fn := fun _ => fun
  | [d1, d2] => { results := [.lit (.bool true)], args := [d1, d2] }
  | _ => none }
def locksCallsRow : OpenClaim := { program := "ytnekjjidcknieaa", sum := "339b1b032aaba1818f7a766947210204b5cfe7a8a315806ca16192d2fe52541d", func := "lagoon/lagoonlaw09.LocksCalls", spec := "locksCalls", apart := false }
def LocksCallsSaid : Prop := locksCallsRow.holds Try.pinned (OpenSpec.ofChange locksCallsSpec)

/-- ITS FALSE NEIGHBOUR: 'it returns false'. Refute it at one input. -/
def locksCallsWrong : ChangeSpec := { name := "locksCalls", fn := fun _ => fun
  | [d1, d2] => { results := [.lit (.bool false)], args := [d1, d2] }
  | _ => none }
def LocksCallsWrongFalsely : Prop := locksCallsRow.holds Try.pinned (OpenSpec.ofChange locksCallsWrong)

/-- 'lagoonlaw09.LocksPlays': WHATEVER THE INPUT: true; the input reads as it did. -/
def locksPlaysSpec : ChangeSpec := { name := "locksPlays", fn := fun _ => fun
  | [d] => { results := [.lit (.bool true)], args := [d] }
  | _ => none }
def locksPlaysRow : OpenClaim := { program := "ytnekjjidcknieaa", sum := "339b1b032aaba1818f7a766947210204b5cfe7a8a315806ca16192d2fe52541d", func := "lagoon/lagoonlaw09.LocksPlays", spec := "locksPlays", apart := false }
def LocksPlaysSaid : Prop := locksPlaysRow.holds Try.pinned (OpenSpec.ofChange locksPlaysSpec)

/-- ITS FALSE NEIGHBOUR: 'it returns false'. Refute it at one input. -/
def locksPlaysWrong : ChangeSpec := { name := "locksPlays", fn := fun _ => fun
  | [d] => { results := [.lit (.bool false)], args := [d] }
  | _ => none }
def LocksPlaysWrongFalsely : Prop := locksPlaysRow.holds Try.pinned (OpenSpec.ofChange locksPlaysWrong)

/-- 'lagoonlaw09.LocksApart': WHATEVER THE INPUT: true; the input reads as it did. -/
def locksApartSpec : ChangeSpec := { name := "locksApart", fn := fun _ => fun
  | [d] => { results := [.lit (.bool true)], args := [d] }
  | _ => none }
def locksApartRow : OpenClaim := { program := "ytnekjjidcknieaa", sum := "339b1b032aaba1818f7a766947210204b5cfe7a8a315806ca16192d2fe52541d", func := "lagoon/lagoonlaw09.LocksApart", spec := "locksApart", apart := false }
def LocksApartSaid : Prop := locksApartRow.holds Try.pinned (OpenSpec.ofChange locksApartSpec)

/-- ITS FALSE NEIGHBOUR: 'it returns false'. Refute it at one input. -/
def locksApartWrong : ChangeSpec := { name := "locksApart", fn := fun _ => fun
  | [d] => { results := [.lit (.bool false)], args := [d] }
  | _ => none }
def LocksApartWrongFalsely : Prop := locksApartRow.holds Try.pinned (OpenSpec.ofChange locksApartWrong)

/-- 'lagoonlaw09.LocksServed': WHATEVER THE INPUT: true; the input reads as it did. -/
def locksServedSpec : ChangeSpec := { name := "locksServed", fn := fun _ => fun
  | [d1, d2] => { results := [.lit (.bool true)], args := [d1, d2] }
  | _ => none }
def locksServedRow : OpenClaim := { program := "ytnekjjidcknieaa", sum := "339b1b032aaba1818f7a766947210204b5cfe7a8a315806ca16192d2fe52541d", func := "lagoon/lagoonlaw09.LocksServed", spec := "locksServed", apart := false }
def LocksServedSaid : Prop := locksServedRow.holds Try.pinned (OpenSpec.ofChange locksServedSpec)

/-- ITS FALSE NEIGHBOUR: 'it returns false'. Refute it at one input. -/
def locksServedWrong : ChangeSpec := { name := "locksServed", fn := fun _ => fun
  | [d1, d2] => { results := [.lit (.bool false)], args := [d1, d2] }
  | _ => none }
def LocksServedWrongFalsely : Prop := locksServedRow.holds Try.pinned (OpenSpec.ofChange locksServedWrong)

/-- 'lagoonlaw09.LocksOwn': WHATEVER THE INPUT: true; the input reads as it did. -/
def locksOwnSpec : ChangeSpec := { name := "locksOwn", fn := fun _ => fun
  | [d1, d2] => { results := [.lit (.bool true)], args := [d1, d2] }
  | _ => none }
def locksOwnRow : OpenClaim := { program := "ytnekjjidcknieaa", sum := "339b1b032aaba1818f7a766947210204b5cfe7a8a315806ca16192d2fe52541d", func := "lagoon/lagoonlaw09.LocksOwn", spec := "locksOwn", apart := false }
def LocksOwnSaid : Prop := locksOwnRow.holds Try.pinned (OpenSpec.ofChange locksOwnSpec)

/-- ITS FALSE NEIGHBOUR: 'it returns false'. Refute it at one input. -/
def locksOwnWrong : ChangeSpec := { name := "locksOwn", fn := fun _ => fun
  | [d1, d2] => { results := [.lit (.bool false)], args := [d1, d2] }
  | _ => none }
def LocksOwnWrongFalsely : Prop := locksOwnRow.holds Try.pinned (OpenSpec.ofChange locksOwnWrong)

/-- 'lagoonlaw09.LocksDrop': WHATEVER THE INPUT: true; the input reads as it did. -/
def locksDropSpec : ChangeSpec := { name := "locksDrop", fn := fun _ => fun
  | [d1, d2] => { results := [.lit (.bool true)], args := [d1, d2] }
  | _ => none }
def locksDropRow : OpenClaim := { program := "ytnekjjidcknieaa", sum := "339b1b032aaba1818f7a766947210204b5cfe7a8a315806ca16192d2fe52541d", func := "lagoon/lagoonlaw09.LocksDrop", spec := "locksDrop", apart := false }
def LocksDropSaid : Prop := locksDropRow.holds Try.pinned (OpenSpec.ofChange locksDropSpec)

/-- ITS FALSE NEIGHBOUR: 'it returns false'. Refute it at one input. -/
def locksDropWrong : ChangeSpec := { name := "locksDrop", fn := fun _ => fun
  | [d1, d2] => { results := [.lit (.bool false)], args := [d1, d2] }
  | _ => none }
def LocksDropWrongFalsely : Prop := locksDropRow.holds Try.pinned (OpenSpec.ofChange locksDropWrong)

/- THE SECOND FORM. 'bulk': how many values and letters a reading holds, each counted each time it is reached (what is shared counts as often as it is met; a slice's spare places count too). A statement '..UptoSaid' is the law's where the arguments, and the package variables that the reading takes, are together of bulk at most 1048576: NARROWER than '..Said'. Prove '..Said' where nothing that the law and all that it calls make is longer than what came in: it says more and counts as full. Else prove '..UptoSaid'. A law counts once. -/
mutual
def uptoBulk {H : Type} : DataW H → Nat
  | .lit (.string bytes) => bytes.length + 1
  | .lit _ => 1
  | .nil => 1
  | .ptr d => uptoBulk d + 1
  | .slice elems spare => uptoBulkAll elems + uptoBulkAll spare + 1
  | .agg parts => uptoBulkAll parts + 1
  | .iface _ d => uptoBulk d + 1
  | .map entries => uptoBulkEntries entries + 1
  | .held _ => 1
def uptoBulkAll {H : Type} : List (DataW H) → Nat
  | [] => 0
  | d :: r => uptoBulk d + uptoBulkAll r
def uptoBulkEntries {H : Type} : List (Lit × DataW H) → Nat
  | [] => 0
  | x :: r => uptoBulkEntry x + uptoBulkEntries r
def uptoBulkEntry {H : Type} : Lit × DataW H → Nat
  | (.string bytes, d) => bytes.length + uptoBulk d + 1
  | (_, d) => uptoBulk d + 1
 end
def uptoSmall : (H : Type) → List (DataW H) → Bool := fun _ ds => decide (uptoBulkAll ds ≤ 1048576)
def OpenSpec.upto (s : _root_.Go.ChangeSpec) : _root_.Go.OpenSpec := { _root_.Go.OpenSpec.ofChange s with cond := some uptoSmall }

/-- 'lagoonlaw09.LocksNames', WHERE WHAT IT READS IS OF BULK AT MOST 1048576: true; the input reads as it did. -/
def locksNamesUptoRow : OpenClaim := { program := "ytnekjjidcknieaa", sum := "339b1b032aaba1818f7a766947210204b5cfe7a8a315806ca16192d2fe52541d", func := "lagoon/lagoonlaw09.LocksNames", spec := "locksNames", apart := false, narrowed := true }
def LocksNamesUptoSaid : Prop := locksNamesUptoRow.holds Try.pinned (OpenSpec.upto locksNamesSpec)

/-- 'lagoonlaw09.LocksCalls', WHERE WHAT IT READS IS OF BULK AT MOST 1048576: true; the input reads as it did. -/
def locksCallsUptoRow : OpenClaim := { program := "ytnekjjidcknieaa", sum := "339b1b032aaba1818f7a766947210204b5cfe7a8a315806ca16192d2fe52541d", func := "lagoon/lagoonlaw09.LocksCalls", spec := "locksCalls", apart := false, narrowed := true }
def LocksCallsUptoSaid : Prop := locksCallsUptoRow.holds Try.pinned (OpenSpec.upto locksCallsSpec)

/-- 'lagoonlaw09.LocksPlays', WHERE WHAT IT READS IS OF BULK AT MOST 1048576: true; the input reads as it did. -/
def locksPlaysUptoRow : OpenClaim := { program := "ytnekjjidcknieaa", sum := "339b1b032aaba1818f7a766947210204b5cfe7a8a315806ca16192d2fe52541d", func := "lagoon/lagoonlaw09.LocksPlays", spec := "locksPlays", apart := false, narrowed := true }
def LocksPlaysUptoSaid : Prop := locksPlaysUptoRow.holds Try.pinned (OpenSpec.upto locksPlaysSpec)

/-- 'lagoonlaw09.LocksApart', WHERE WHAT IT READS IS OF BULK AT MOST 1048576: true; the input reads as it did. -/
def locksApartUptoRow : OpenClaim := { program := "ytnekjjidcknieaa", sum := "339b1b032aaba1818f7a766947210204b5cfe7a8a315806ca16192d2fe52541d", func := "lagoon/lagoonlaw09.LocksApart", spec := "locksApart", apart := false, narrowed := true }
def LocksApartUptoSaid : Prop := locksApartUptoRow.holds Try.pinned (OpenSpec.upto locksApartSpec)

/-- 'lagoonlaw09.LocksServed', WHERE WHAT IT READS IS OF BULK AT MOST 1048576: true; the input reads as it did. -/
def locksServedUptoRow : OpenClaim := { program := "ytnekjjidcknieaa", sum := "339b1b032aaba1818f7a766947210204b5cfe7a8a315806ca16192d2fe52541d", func := "lagoon/lagoonlaw09.LocksServed", spec := "locksServed", apart := false, narrowed := true }
def LocksServedUptoSaid : Prop := locksServedUptoRow.holds Try.pinned (OpenSpec.upto locksServedSpec)

/-- 'lagoonlaw09.LocksOwn', WHERE WHAT IT READS IS OF BULK AT MOST 1048576: true; the input reads as it did. -/
def locksOwnUptoRow : OpenClaim := { program := "ytnekjjidcknieaa", sum := "339b1b032aaba1818f7a766947210204b5cfe7a8a315806ca16192d2fe52541d", func := "lagoon/lagoonlaw09.LocksOwn", spec := "locksOwn", apart := false, narrowed := true }
def LocksOwnUptoSaid : Prop := locksOwnUptoRow.holds Try.pinned (OpenSpec.upto locksOwnSpec)

/-- 'lagoonlaw09.LocksDrop', WHERE WHAT IT READS IS OF BULK AT MOST 1048576: true; the input reads as it did. -/
def locksDropUptoRow : OpenClaim := { program := "ytnekjjidcknieaa", sum := "339b1b032aaba1818f7a766947210204b5cfe7a8a315806ca16192d2fe52541d", func := "lagoon/lagoonlaw09.LocksDrop", spec := "locksDrop", apart := false, narrowed := true }
def LocksDropUptoSaid : Prop := locksDropUptoRow.holds Try.pinned (OpenSpec.upto locksDropSpec)

end Rows
end Go.Proofs.Ytnekjjidcknieaa
