/-
  No cell of these rows narrows 'for every input' (looked for: loops, veiled, ifaces, maps, wideKeys, modest, calm, conditions, laid).
  DERIVED. THE GIVEN ROWS OF THIS SEAT. 10 by the template 'for every input the law returns true; each argument reads behind the call as it read before'; 0 by the template 'total and deterministic' (their statements: YtifnniepimoldaaTotals.lean).
  GIVEN WITH THE SEED: the statements are not yours to turn. If you find one false, say at which input.
  Laid BY PROGRAM, IN A SANDBOX (cutbox-rows.mjs): the forced cells as the released guide's own fill.sh prints them over the translation 03ef36376b2f91a7… (all of the seat's roots in one cut). By AI agents, Wed Nov 11 2026. No macro, syntax, notation, axiom, sorry.
-/
import Derived.Test.YtifnniepimoldaaChecked
import GoSem.Claim
import GoSem.ClaimJoined
import GoSem.ClaimMapViews
import Derived.JoinedTies
import Derived.KernelRfl
namespace Go.Proofs.Ytifnniepimoldaa
/- THE CELL 'sum', in the pinned program and in every row, IS THE sha256 OF THE DUMP (.gsa) THAT YtifnniepimoldaaProg.lean LOADS. Nothing in Lean hashes anything: it is a label: what it is worth is what the hold of that sum in a sandbox is worth. -/
noncomputable def Try.pinned : Pinned := { name := "ytifnniepimoldaa", sum := "03ef36376b2f91a7236458572987835c079b21bc77ae330e765f6c9daa34609b", checked := Try.checked }
namespace Rows
def none {H : Type} : Left H := { results := [], args := [] }

/-- 'lagoonlaw02.BagNames': WHATEVER THE INPUT: true; the input reads as it did. -/
def bagNamesSpec : ChangeSpec := { name := "bagNames", fn := fun _ => fun
  | [] => { results := [.lit (.bool true)], args := [] }
  | _ => none }
def bagNamesRow : OpenClaim := { program := "ytifnniepimoldaa", sum := "03ef36376b2f91a7236458572987835c079b21bc77ae330e765f6c9daa34609b", func := "lagoon/lagoonlaw02.BagNames", spec := "bagNames", apart := false }
def BagNamesSaid : Prop := bagNamesRow.holds Try.pinned (OpenSpec.ofChange bagNamesSpec)

/-- ITS FALSE NEIGHBOUR: 'it returns false'. Refute it at one input. -/
def bagNamesWrong : ChangeSpec := { name := "bagNames", fn := fun _ => fun
  | [] => { results := [.lit (.bool false)], args := [] }
  | _ => none }
def BagNamesWrongFalsely : Prop := bagNamesRow.holds Try.pinned (OpenSpec.ofChange bagNamesWrong)

/-- 'lagoonlaw02.BagPlays': WHATEVER THE INPUT: true; the input reads as it did. -/
def bagPlaysSpec : ChangeSpec := { name := "bagPlays", fn := fun _ => fun
  | [d1, d2] => { results := [.lit (.bool true)], args := [d1, d2] }
  | _ => none }
def bagPlaysRow : OpenClaim := { program := "ytifnniepimoldaa", sum := "03ef36376b2f91a7236458572987835c079b21bc77ae330e765f6c9daa34609b", func := "lagoon/lagoonlaw02.BagPlays", spec := "bagPlays", apart := false }
def BagPlaysSaid : Prop := bagPlaysRow.holds Try.pinned (OpenSpec.ofChange bagPlaysSpec)

/-- ITS FALSE NEIGHBOUR: 'it returns false'. Refute it at one input. -/
def bagPlaysWrong : ChangeSpec := { name := "bagPlays", fn := fun _ => fun
  | [d1, d2] => { results := [.lit (.bool false)], args := [d1, d2] }
  | _ => none }
def BagPlaysWrongFalsely : Prop := bagPlaysRow.holds Try.pinned (OpenSpec.ofChange bagPlaysWrong)

/-- 'lagoonlaw02.BagOnce': WHATEVER THE INPUT: true; the input reads as it did. -/
def bagOnceSpec : ChangeSpec := { name := "bagOnce", fn := fun _ => fun
  | [d1, d2] => { results := [.lit (.bool true)], args := [d1, d2] }
  | _ => none }
def bagOnceRow : OpenClaim := { program := "ytifnniepimoldaa", sum := "03ef36376b2f91a7236458572987835c079b21bc77ae330e765f6c9daa34609b", func := "lagoon/lagoonlaw02.BagOnce", spec := "bagOnce", apart := false }
def BagOnceSaid : Prop := bagOnceRow.holds Try.pinned (OpenSpec.ofChange bagOnceSpec)

/-- ITS FALSE NEIGHBOUR: 'it returns false'. Refute it at one input. -/
def bagOnceWrong : ChangeSpec := { name := "bagOnce", fn := fun _ => fun
  | [d1, d2] => { results := [.lit (.bool false)], args := [d1, d2] }
  | _ => none }
def BagOnceWrongFalsely : Prop := bagOnceRow.holds Try.pinned (OpenSpec.ofChange bagOnceWrong)

/-- 'lagoonlaw02.BagOwn': WHATEVER THE INPUT: true; the input reads as it did. -/
def bagOwnSpec : ChangeSpec := { name := "bagOwn", fn := fun _ => fun
  | [d1, d2] => { results := [.lit (.bool true)], args := [d1, d2] }
  | _ => none }
def bagOwnRow : OpenClaim := { program := "ytifnniepimoldaa", sum := "03ef36376b2f91a7236458572987835c079b21bc77ae330e765f6c9daa34609b", func := "lagoon/lagoonlaw02.BagOwn", spec := "bagOwn", apart := false }
def BagOwnSaid : Prop := bagOwnRow.holds Try.pinned (OpenSpec.ofChange bagOwnSpec)

/-- ITS FALSE NEIGHBOUR: 'it returns false'. Refute it at one input. -/
def bagOwnWrong : ChangeSpec := { name := "bagOwn", fn := fun _ => fun
  | [d1, d2] => { results := [.lit (.bool false)], args := [d1, d2] }
  | _ => none }
def BagOwnWrongFalsely : Prop := bagOwnRow.holds Try.pinned (OpenSpec.ofChange bagOwnWrong)

/-- 'lagoonlaw03.ClocksNames': WHATEVER THE INPUT: true; the input reads as it did. -/
def clocksNamesSpec : ChangeSpec := { name := "clocksNames", fn := fun _ => fun
  | [] => { results := [.lit (.bool true)], args := [] }
  | _ => none }
def clocksNamesRow : OpenClaim := { program := "ytifnniepimoldaa", sum := "03ef36376b2f91a7236458572987835c079b21bc77ae330e765f6c9daa34609b", func := "lagoon/lagoonlaw03.ClocksNames", spec := "clocksNames", apart := false }
def ClocksNamesSaid : Prop := clocksNamesRow.holds Try.pinned (OpenSpec.ofChange clocksNamesSpec)

/-- ITS FALSE NEIGHBOUR: 'it returns false'. Refute it at one input. -/
def clocksNamesWrong : ChangeSpec := { name := "clocksNames", fn := fun _ => fun
  | [] => { results := [.lit (.bool false)], args := [] }
  | _ => none }
def ClocksNamesWrongFalsely : Prop := clocksNamesRow.holds Try.pinned (OpenSpec.ofChange clocksNamesWrong)

/-- 'lagoonlaw03.ClocksSums': WHATEVER THE INPUT: true; the input reads as it did. -/
def clocksSumsSpec : ChangeSpec := { name := "clocksSums", fn := fun _ => fun
  | [d1, d2, d3] => { results := [.lit (.bool true)], args := [d1, d2, d3] }
  | _ => none }
def clocksSumsRow : OpenClaim := { program := "ytifnniepimoldaa", sum := "03ef36376b2f91a7236458572987835c079b21bc77ae330e765f6c9daa34609b", func := "lagoon/lagoonlaw03.ClocksSums", spec := "clocksSums", apart := false }
def ClocksSumsSaid : Prop := clocksSumsRow.holds Try.pinned (OpenSpec.ofChange clocksSumsSpec)

/-- ITS FALSE NEIGHBOUR: 'it returns false'. Refute it at one input. -/
def clocksSumsWrong : ChangeSpec := { name := "clocksSums", fn := fun _ => fun
  | [d1, d2, d3] => { results := [.lit (.bool false)], args := [d1, d2, d3] }
  | _ => none }
def ClocksSumsWrongFalsely : Prop := clocksSumsRow.holds Try.pinned (OpenSpec.ofChange clocksSumsWrong)

/-- 'lagoonlaw03.ClocksPlays': WHATEVER THE INPUT: true; the input reads as it did. -/
def clocksPlaysSpec : ChangeSpec := { name := "clocksPlays", fn := fun _ => fun
  | [d1, d2, d3] => { results := [.lit (.bool true)], args := [d1, d2, d3] }
  | _ => none }
def clocksPlaysRow : OpenClaim := { program := "ytifnniepimoldaa", sum := "03ef36376b2f91a7236458572987835c079b21bc77ae330e765f6c9daa34609b", func := "lagoon/lagoonlaw03.ClocksPlays", spec := "clocksPlays", apart := false }
def ClocksPlaysSaid : Prop := clocksPlaysRow.holds Try.pinned (OpenSpec.ofChange clocksPlaysSpec)

/-- ITS FALSE NEIGHBOUR: 'it returns false'. Refute it at one input. -/
def clocksPlaysWrong : ChangeSpec := { name := "clocksPlays", fn := fun _ => fun
  | [d1, d2, d3] => { results := [.lit (.bool false)], args := [d1, d2, d3] }
  | _ => none }
def ClocksPlaysWrongFalsely : Prop := clocksPlaysRow.holds Try.pinned (OpenSpec.ofChange clocksPlaysWrong)

/-- 'lagoonlaw03.ClocksSafe': WHATEVER THE INPUT: true; the input reads as it did. -/
def clocksSafeSpec : ChangeSpec := { name := "clocksSafe", fn := fun _ => fun
  | [d1, d2, d3] => { results := [.lit (.bool true)], args := [d1, d2, d3] }
  | _ => none }
def clocksSafeRow : OpenClaim := { program := "ytifnniepimoldaa", sum := "03ef36376b2f91a7236458572987835c079b21bc77ae330e765f6c9daa34609b", func := "lagoon/lagoonlaw03.ClocksSafe", spec := "clocksSafe", apart := false }
def ClocksSafeSaid : Prop := clocksSafeRow.holds Try.pinned (OpenSpec.ofChange clocksSafeSpec)

/-- ITS FALSE NEIGHBOUR: 'it returns false'. Refute it at one input. -/
def clocksSafeWrong : ChangeSpec := { name := "clocksSafe", fn := fun _ => fun
  | [d1, d2, d3] => { results := [.lit (.bool false)], args := [d1, d2, d3] }
  | _ => none }
def ClocksSafeWrongFalsely : Prop := clocksSafeRow.holds Try.pinned (OpenSpec.ofChange clocksSafeWrong)

/-- 'lagoonlaw03.ClocksForth': WHATEVER THE INPUT: true; the input reads as it did. -/
def clocksForthSpec : ChangeSpec := { name := "clocksForth", fn := fun _ => fun
  | [d1, d2, d3] => { results := [.lit (.bool true)], args := [d1, d2, d3] }
  | _ => none }
def clocksForthRow : OpenClaim := { program := "ytifnniepimoldaa", sum := "03ef36376b2f91a7236458572987835c079b21bc77ae330e765f6c9daa34609b", func := "lagoon/lagoonlaw03.ClocksForth", spec := "clocksForth", apart := false }
def ClocksForthSaid : Prop := clocksForthRow.holds Try.pinned (OpenSpec.ofChange clocksForthSpec)

/-- ITS FALSE NEIGHBOUR: 'it returns false'. Refute it at one input. -/
def clocksForthWrong : ChangeSpec := { name := "clocksForth", fn := fun _ => fun
  | [d1, d2, d3] => { results := [.lit (.bool false)], args := [d1, d2, d3] }
  | _ => none }
def ClocksForthWrongFalsely : Prop := clocksForthRow.holds Try.pinned (OpenSpec.ofChange clocksForthWrong)

/-- 'lagoonlaw03.ClocksOwn': WHATEVER THE INPUT: true; the input reads as it did. -/
def clocksOwnSpec : ChangeSpec := { name := "clocksOwn", fn := fun _ => fun
  | [d1, d2, d3] => { results := [.lit (.bool true)], args := [d1, d2, d3] }
  | _ => none }
def clocksOwnRow : OpenClaim := { program := "ytifnniepimoldaa", sum := "03ef36376b2f91a7236458572987835c079b21bc77ae330e765f6c9daa34609b", func := "lagoon/lagoonlaw03.ClocksOwn", spec := "clocksOwn", apart := false }
def ClocksOwnSaid : Prop := clocksOwnRow.holds Try.pinned (OpenSpec.ofChange clocksOwnSpec)

/-- ITS FALSE NEIGHBOUR: 'it returns false'. Refute it at one input. -/
def clocksOwnWrong : ChangeSpec := { name := "clocksOwn", fn := fun _ => fun
  | [d1, d2, d3] => { results := [.lit (.bool false)], args := [d1, d2, d3] }
  | _ => none }
def ClocksOwnWrongFalsely : Prop := clocksOwnRow.holds Try.pinned (OpenSpec.ofChange clocksOwnWrong)

/- THE SECOND FORM. 'bulk': how many values and letters a reading holds, each counted each time it is reached (what is shared counts as often as it is met; a slice's spare places count too). A statement '..UptoSaid' is the law's where the arguments, and the package variables that the reading takes, are together of bulk at most 1048576: NARROWER than '..Said'. Prove '..Said' where nothing that the law and all that it calls make is longer than what came in: it says more and counts as full. Else prove '..UptoSaid'. A law counts once. -/
mutual
def uptoBulk {H : Type} : DataW H → Nat
  | .lit (.string bytes) => bytes.length + 1
  | .lit _ => 1
  | .nil => 1
  | .ptr d => uptoBulk d + 1
  | .slice elems spare => uptoBulkAll elems + uptoBulkAll spare + 1
  | .agg parts => uptoBulkAll parts + 1
  | .iface _ d => uptoBulk d + 1
  | .map entries => uptoBulkEntries entries + 1
  | .held _ => 1
def uptoBulkAll {H : Type} : List (DataW H) → Nat
  | [] => 0
  | d :: r => uptoBulk d + uptoBulkAll r
def uptoBulkEntries {H : Type} : List (Lit × DataW H) → Nat
  | [] => 0
  | x :: r => uptoBulkEntry x + uptoBulkEntries r
def uptoBulkEntry {H : Type} : Lit × DataW H → Nat
  | (.string bytes, d) => bytes.length + uptoBulk d + 1
  | (_, d) => uptoBulk d + 1
 end
def uptoSmall : (H : Type) → List (DataW H) → Bool := fun _ ds => decide (uptoBulkAll ds ≤ 1048576)
def OpenSpec.upto (s : _root_.Go.ChangeSpec) : _root_.Go.OpenSpec := { _root_.Go.OpenSpec.ofChange s with cond := some uptoSmall }

/-- 'lagoonlaw02.BagNames', WHERE WHAT IT READS IS OF BULK AT MOST 1048576: true; the input reads as it did. -/
def bagNamesUptoRow : OpenClaim := { program := "ytifnniepimoldaa", sum := "03ef36376b2f91a7236458572987835c079b21bc77ae330e765f6c9daa34609b", func := "lagoon/lagoonlaw02.BagNames", spec := "bagNames", apart := false, narrowed := true }
def BagNamesUptoSaid : Prop := bagNamesUptoRow.holds Try.pinned (OpenSpec.upto bagNamesSpec)

/-- 'lagoonlaw02.BagPlays', WHERE WHAT IT READS IS OF BULK AT MOST 1048576: true; the input reads as it did. -/
def bagPlaysUptoRow : OpenClaim := { program := "ytifnniepimoldaa", sum := "03ef36376b2f91a7236458572987835c079b21bc77ae330e765f6c9daa34609b", func := "lagoon/lagoonlaw02.BagPlays", spec := "bagPlays", apart := false, narrowed := true }
def BagPlaysUptoSaid : Prop := bagPlaysUptoRow.holds Try.pinned (OpenSpec.upto bagPlaysSpec)

/-- 'lagoonlaw02.BagOnce', WHERE WHAT IT READS IS OF BULK AT MOST 1048576: true; the input reads as it did. -/
def bagOnceUptoRow : OpenClaim := { program := "ytifnniepimoldaa", sum := "03ef36376b2f91a7236458572987835c079b21bc77ae330e765f6c9daa34609b", func := "lagoon/lagoonlaw02.BagOnce", spec := "bagOnce", apart := false, narrowed := true }
def BagOnceUptoSaid : Prop := bagOnceUptoRow.holds Try.pinned (OpenSpec.upto bagOnceSpec)

/-- 'lagoonlaw02.BagOwn', WHERE WHAT IT READS IS OF BULK AT MOST 1048576: true; the input reads as it did. -/
def bagOwnUptoRow : OpenClaim := { program := "ytifnniepimoldaa", sum := "03ef36376b2f91a7236458572987835c079b21bc77ae330e765f6c9daa34609b", func := "lagoon/lagoonlaw02.BagOwn", spec := "bagOwn", apart := false, narrowed := true }
def BagOwnUptoSaid : Prop := bagOwnUptoRow.holds Try.pinned (OpenSpec.upto bagOwnSpec)

/-- 'lagoonlaw03.ClocksNames', WHERE WHAT IT READS IS OF BULK AT MOST 1048576: true; the input reads as it did. -/
def clocksNamesUptoRow : OpenClaim := { program := "ytifnniepimoldaa", sum := "03ef36376b2f91a7236458572987835c079b21bc77ae330e765f6c9daa34609b", func := "lagoon/lagoonlaw03.ClocksNames", spec := "clocksNames", apart := false, narrowed := true }
def ClocksNamesUptoSaid : Prop := clocksNamesUptoRow.holds Try.pinned (OpenSpec.upto clocksNamesSpec)

/-- 'lagoonlaw03.ClocksSums', WHERE WHAT IT READS IS OF BULK AT MOST 1048576: true; the input reads as it did. -/
def clocksSumsUptoRow : OpenClaim := { program := "ytifnniepimoldaa", sum := "03ef36376b2f91a7236458572987835c079b21bc77ae330e765f6c9daa34609b", func := "lagoon/lagoonlaw03.ClocksSums", spec := "clocksSums", apart := false, narrowed := true }
def ClocksSumsUptoSaid : Prop := clocksSumsUptoRow.holds Try.pinned (OpenSpec.upto clocksSumsSpec)

/-- 'lagoonlaw03.ClocksPlays', WHERE WHAT IT READS IS OF BULK AT MOST 1048576: true; the input reads as it did. -/
def clocksPlaysUptoRow : OpenClaim := { program := "ytifnniepimoldaa", sum := "03ef36376b2f91a7236458572987835c079b21bc77ae330e765f6c9daa34609b", func := "lagoon/lagoonlaw03.ClocksPlays", spec := "clocksPlays", apart := false, narrowed := true }
def ClocksPlaysUptoSaid : Prop := clocksPlaysUptoRow.holds Try.pinned (OpenSpec.upto clocksPlaysSpec)

/-- 'lagoonlaw03.ClocksSafe', WHERE WHAT IT READS IS OF BULK AT MOST 1048576: true; the input reads as it did. -/
def clocksSafeUptoRow : OpenClaim := { program := "ytifnniepimoldaa", sum := "03ef36376b2f91a7236458572987835c079b21bc77ae330e765f6c9daa34609b", func := "lagoon/lagoonlaw03.ClocksSafe", spec := "clocksSafe", apart := false, narrowed := true }
def ClocksSafeUptoSaid : Prop := clocksSafeUptoRow.holds Try.pinned (OpenSpec.upto clocksSafeSpec)

/-- 'lagoonlaw03.ClocksForth', WHERE WHAT IT READS IS OF BULK AT MOST 1048576: true; the input reads as it did. -/
def clocksForthUptoRow : OpenClaim := { program := "ytifnniepimoldaa", sum := "03ef36376b2f91a7236458572987835c079b21bc77ae330e765f6c9daa34609b", func := "lagoon/lagoonlaw03.ClocksForth", spec := "clocksForth", apart := false, narrowed := true }
def ClocksForthUptoSaid : Prop := clocksForthUptoRow.holds Try.pinned (OpenSpec.upto clocksForthSpec)

/-- 'lagoonlaw03.ClocksOwn', WHERE WHAT IT READS IS OF BULK AT MOST 1048576: true; the input reads as it did. -/
def clocksOwnUptoRow : OpenClaim := { program := "ytifnniepimoldaa", sum := "03ef36376b2f91a7236458572987835c079b21bc77ae330e765f6c9daa34609b", func := "lagoon/lagoonlaw03.ClocksOwn", spec := "clocksOwn", apart := false, narrowed := true }
def ClocksOwnUptoSaid : Prop := clocksOwnUptoRow.holds Try.pinned (OpenSpec.upto clocksOwnSpec)

end Rows
end Go.Proofs.Ytifnniepimoldaa
