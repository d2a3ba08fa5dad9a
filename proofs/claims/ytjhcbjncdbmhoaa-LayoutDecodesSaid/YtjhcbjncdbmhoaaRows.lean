/-
  No cell of these rows narrows 'for every input' (looked for: loops, veiled, ifaces, maps, wideKeys, modest, calm, conditions, laid).
  DERIVED. THE GIVEN ROWS OF THIS SEAT. 5 by the template 'for every input the law returns true; each argument reads behind the call as it read before'; 0 by the template 'total and deterministic' (their statements: YtjhcbjncdbmhoaaTotals.lean).
  GIVEN WITH THE SEED: the statements are not yours to turn. If you find one false, say at which input.
  Laid BY PROGRAM, IN A SANDBOX (cutbox-rows.mjs): the forced cells as the released guide's own fill.sh prints them over the translation 04efaee0a8c039d9… (all of the seat's roots in one cut). By AI agents, Wed Nov 11 2026. No macro, syntax, notation, axiom, sorry.
-/
import Derived.Test.YtjhcbjncdbmhoaaChecked
import GoSem.Claim
import GoSem.ClaimJoined
import GoSem.ClaimMapViews
import Derived.JoinedTies
import Derived.KernelRfl
namespace Go.Proofs.Ytjhcbjncdbmhoaa
/- THE CELL 'sum', in the pinned program and in every row, IS THE sha256 OF THE DUMP (.gsa) THAT YtjhcbjncdbmhoaaProg.lean LOADS. Nothing in Lean hashes anything: it is a label: what it is worth is what the hold of that sum in a sandbox is worth. -/
noncomputable def Try.pinned : Pinned := { name := "ytjhcbjncdbmhoaa", sum := "04efaee0a8c039d9a9c62c32e047b052f32dc11fd70ece6aafd95e2be88e1920", checked := Try.checked }
namespace Rows
def none {H : Type} : Left H := { results := [], args := [] }

/-- 'lagoonlaw14.LayoutNames': WHATEVER THE INPUT: true; the input reads as it did. -/
def layoutNamesSpec : ChangeSpec := { name := "layoutNames", fn := fun _ => fun
  | [] => { results := [.lit (.bool true)], args := [] }
  | _ => none }
def layoutNamesRow : OpenClaim := { program := "ytjhcbjncdbmhoaa", sum := "04efaee0a8c039d9a9c62c32e047b052f32dc11fd70ece6aafd95e2be88e1920", func := "lagoon/lagoonlaw14.LayoutNames", spec := "layoutNames", unfollowed := true, recurses := true, apart := false }
def LayoutNamesSaid : Prop := layoutNamesRow.holds Try.pinned (OpenSpec.ofChange layoutNamesSpec)

/-- ITS FALSE NEIGHBOUR: 'it returns false'. Refute it at one input. -/
def layoutNamesWrong : ChangeSpec := { name := "layoutNames", fn := fun _ => fun
  | [] => { results := [.lit (.bool false)], args := [] }
  | _ => none }
def LayoutNamesWrongFalsely : Prop := layoutNamesRow.holds Try.pinned (OpenSpec.ofChange layoutNamesWrong)

/-- 'lagoonlaw14.LayoutEncodes': WHATEVER THE INPUT: true; the input reads as it did. -/
def layoutEncodesSpec : ChangeSpec := { name := "layoutEncodes", fn := fun _ => fun
  | [d] => { results := [.lit (.bool true)], args := [d] }
  | _ => none }
def layoutEncodesRow : OpenClaim := { program := "ytjhcbjncdbmhoaa", sum := "04efaee0a8c039d9a9c62c32e047b052f32dc11fd70ece6aafd95e2be88e1920", func := "lagoon/lagoonlaw14.LayoutEncodes", spec := "layoutEncodes", unfollowed := true, recurses := true, apart := false }
def LayoutEncodesSaid : Prop := layoutEncodesRow.holds Try.pinned (OpenSpec.ofChange layoutEncodesSpec)

/-- ITS FALSE NEIGHBOUR: 'it returns false'. Refute it at one input. -/
def layoutEncodesWrong : ChangeSpec := { name := "layoutEncodes", fn := fun _ => fun
  | [d] => { results := [.lit (.bool false)], args := [d] }
  | _ => none }
def LayoutEncodesWrongFalsely : Prop := layoutEncodesRow.holds Try.pinned (OpenSpec.ofChange layoutEncodesWrong)

/-- 'lagoonlaw14.LayoutDecodes': WHATEVER THE INPUT: true; the input reads as it did. -/
def layoutDecodesSpec : ChangeSpec := { name := "layoutDecodes", fn := fun _ => fun
  | [d] => { results := [.lit (.bool true)], args := [d] }
  | _ => none }
def layoutDecodesRow : OpenClaim := { program := "ytjhcbjncdbmhoaa", sum := "04efaee0a8c039d9a9c62c32e047b052f32dc11fd70ece6aafd95e2be88e1920", func := "lagoon/lagoonlaw14.LayoutDecodes", spec := "layoutDecodes", unfollowed := true, recurses := true, apart := false }
def LayoutDecodesSaid : Prop := layoutDecodesRow.holds Try.pinned (OpenSpec.ofChange layoutDecodesSpec)

/-- ITS FALSE NEIGHBOUR: 'it returns false'. Refute it at one input. -/
def layoutDecodesWrong : ChangeSpec := { name := "layoutDecodes", fn := fun _ => fun
  | [d] => { results := [.lit (.bool false)], args := [d] }
  | _ => none }
def LayoutDecodesWrongFalsely : Prop := layoutDecodesRow.holds Try.pinned (OpenSpec.ofChange layoutDecodesWrong)

/-- 'lagoonlaw14.LayoutBack': WHATEVER THE INPUT: true; the input reads as it did. -/
def layoutBackSpec : ChangeSpec := { name := "layoutBack", fn := fun _ => fun
  | [d] => { results := [.lit (.bool true)], args := [d] }
  | _ => none }
def layoutBackRow : OpenClaim := { program := "ytjhcbjncdbmhoaa", sum := "04efaee0a8c039d9a9c62c32e047b052f32dc11fd70ece6aafd95e2be88e1920", func := "lagoon/lagoonlaw14.LayoutBack", spec := "layoutBack", unfollowed := true, recurses := true, apart := false }
def LayoutBackSaid : Prop := layoutBackRow.holds Try.pinned (OpenSpec.ofChange layoutBackSpec)

/-- ITS FALSE NEIGHBOUR: 'it returns false'. Refute it at one input. -/
def layoutBackWrong : ChangeSpec := { name := "layoutBack", fn := fun _ => fun
  | [d] => { results := [.lit (.bool false)], args := [d] }
  | _ => none }
def LayoutBackWrongFalsely : Prop := layoutBackRow.holds Try.pinned (OpenSpec.ofChange layoutBackWrong)

/-- 'lagoonlaw14.LayoutOne': WHATEVER THE INPUT: true; the input reads as it did. -/
def layoutOneSpec : ChangeSpec := { name := "layoutOne", fn := fun _ => fun
  | [d] => { results := [.lit (.bool true)], args := [d] }
  | _ => none }
def layoutOneRow : OpenClaim := { program := "ytjhcbjncdbmhoaa", sum := "04efaee0a8c039d9a9c62c32e047b052f32dc11fd70ece6aafd95e2be88e1920", func := "lagoon/lagoonlaw14.LayoutOne", spec := "layoutOne", unfollowed := true, recurses := true, apart := false }
def LayoutOneSaid : Prop := layoutOneRow.holds Try.pinned (OpenSpec.ofChange layoutOneSpec)

/-- ITS FALSE NEIGHBOUR: 'it returns false'. Refute it at one input. -/
def layoutOneWrong : ChangeSpec := { name := "layoutOne", fn := fun _ => fun
  | [d] => { results := [.lit (.bool false)], args := [d] }
  | _ => none }
def LayoutOneWrongFalsely : Prop := layoutOneRow.holds Try.pinned (OpenSpec.ofChange layoutOneWrong)

/- THE SECOND FORM. 'bulk': how many values and letters a reading holds, each counted each time it is reached (what is shared counts as often as it is met; a slice's spare places count too). A statement '..UptoSaid' is the law's where the arguments, and the package variables that the reading takes, are together of bulk at most 1048576: NARROWER than '..Said'. Prove '..Said' where nothing that the law and all that it calls make is longer than what came in: it says more and counts as full. Else prove '..UptoSaid'. A law counts once. -/
mutual
def uptoBulk {H : Type} : DataW H → Nat
  | .lit (.string bytes) => bytes.length + 1
  | .lit _ => 1
  | .nil => 1
  | .ptr d => uptoBulk d + 1
  | .slice elems spare => uptoBulkAll elems + uptoBulkAll spare + 1
  | .agg parts => uptoBulkAll parts + 1
  | .iface _ d => uptoBulk d + 1
  | .map entries => uptoBulkEntries entries + 1
  | .held _ => 1
def uptoBulkAll {H : Type} : List (DataW H) → Nat
  | [] => 0
  | d :: r => uptoBulk d + uptoBulkAll r
def uptoBulkEntries {H : Type} : List (Lit × DataW H) → Nat
  | [] => 0
  | x :: r => uptoBulkEntry x + uptoBulkEntries r
def uptoBulkEntry {H : Type} : Lit × DataW H → Nat
  | (.string bytes, d) => bytes.length + uptoBulk d + 1
  | (_, d) => uptoBulk d + 1
 end
def uptoSmall : (H : Type) → List (DataW H) → Bool := fun _ ds => decide (uptoBulkAll ds ≤ 1048576)
def OpenSpec.upto (s : _root_.Go.ChangeSpec) : _root_.Go.OpenSpec := { _root_.Go.OpenSpec.ofChange s with cond := some uptoSmall }

/-- 'lagoonlaw14.LayoutNames', WHERE WHAT IT READS IS OF BULK AT MOST 1048576: true; the input reads as it did. -/
def layoutNamesUptoRow : OpenClaim := { program := "ytjhcbjncdbmhoaa", sum := "04efaee0a8c039d9a9c62c32e047b052f32dc11fd70ece6aafd95e2be88e1920", func := "lagoon/lagoonlaw14.LayoutNames", spec := "layoutNames", unfollowed := true, recurses := true, apart := false, narrowed := true }
def LayoutNamesUptoSaid : Prop := layoutNamesUptoRow.holds Try.pinned (OpenSpec.upto layoutNamesSpec)

/-- 'lagoonlaw14.LayoutEncodes', WHERE WHAT IT READS IS OF BULK AT MOST 1048576: true; the input reads as it did. -/
def layoutEncodesUptoRow : OpenClaim := { program := "ytjhcbjncdbmhoaa", sum := "04efaee0a8c039d9a9c62c32e047b052f32dc11fd70ece6aafd95e2be88e1920", func := "lagoon/lagoonlaw14.LayoutEncodes", spec := "layoutEncodes", unfollowed := true, recurses := true, apart := false, narrowed := true }
def LayoutEncodesUptoSaid : Prop := layoutEncodesUptoRow.holds Try.pinned (OpenSpec.upto layoutEncodesSpec)

/-- 'lagoonlaw14.LayoutDecodes', WHERE WHAT IT READS IS OF BULK AT MOST 1048576: true; the input reads as it did. -/
def layoutDecodesUptoRow : OpenClaim := { program := "ytjhcbjncdbmhoaa", sum := "04efaee0a8c039d9a9c62c32e047b052f32dc11fd70ece6aafd95e2be88e1920", func := "lagoon/lagoonlaw14.LayoutDecodes", spec := "layoutDecodes", unfollowed := true, recurses := true, apart := false, narrowed := true }
def LayoutDecodesUptoSaid : Prop := layoutDecodesUptoRow.holds Try.pinned (OpenSpec.upto layoutDecodesSpec)

/-- 'lagoonlaw14.LayoutBack', WHERE WHAT IT READS IS OF BULK AT MOST 1048576: true; the input reads as it did. -/
def layoutBackUptoRow : OpenClaim := { program := "ytjhcbjncdbmhoaa", sum := "04efaee0a8c039d9a9c62c32e047b052f32dc11fd70ece6aafd95e2be88e1920", func := "lagoon/lagoonlaw14.LayoutBack", spec := "layoutBack", unfollowed := true, recurses := true, apart := false, narrowed := true }
def LayoutBackUptoSaid : Prop := layoutBackUptoRow.holds Try.pinned (OpenSpec.upto layoutBackSpec)

/-- 'lagoonlaw14.LayoutOne', WHERE WHAT IT READS IS OF BULK AT MOST 1048576: true; the input reads as it did. -/
def layoutOneUptoRow : OpenClaim := { program := "ytjhcbjncdbmhoaa", sum := "04efaee0a8c039d9a9c62c32e047b052f32dc11fd70ece6aafd95e2be88e1920", func := "lagoon/lagoonlaw14.LayoutOne", spec := "layoutOne", unfollowed := true, recurses := true, apart := false, narrowed := true }
def LayoutOneUptoSaid : Prop := layoutOneUptoRow.holds Try.pinned (OpenSpec.upto layoutOneSpec)

end Rows
end Go.Proofs.Ytjhcbjncdbmhoaa
