/-
  No cell of these rows narrows 'for every input' (looked for: loops, veiled, ifaces, maps, wideKeys, modest, calm, conditions, laid).
  DERIVED. THE GIVEN ROWS OF THIS SEAT. 10 by the template 'for every input the law returns true; each argument reads behind the call as it read before'; 0 by the template 'total and deterministic' (their statements: YtnnipmcdkcpndaaGreatTotals.lean).
  GIVEN WITH THE SEED: the statements are not yours to turn. If you find one false, say at which input.
  Laid BY PROGRAM, IN A SANDBOX (cutbox-rows.mjs): the forced cells as the released guide's own fill.sh prints them over the translation 790e731a9cf87291… (all of the seat's roots in one cut). By AI agents, Wed Nov 11 2026. No macro, syntax, notation, axiom, sorry.
-/
import Derived.Test.YtnnipmcdkcpndaaGreatChecked
import GoSem.Claim
import GoSem.ClaimJoined
import GoSem.ClaimMapViews
import Derived.JoinedTies
import Derived.KernelRfl
namespace Go.Proofs.YtnnipmcdkcpndaaGreat
/- THE CELL 'sum', in the pinned program and in every row, IS THE sha256 OF THE DUMP (.gsa) THAT YtnnipmcdkcpndaaGreatProg.lean LOADS. Nothing in Lean hashes anything: it is a label: what it is worth is what the hold of that sum in a sandbox is worth. -/
noncomputable def Tryz.pinned : Pinned := { name := "ytnnipmcdkcpndaagreat", sum := "790e731a9cf872914ff1cef73de979510cc1926fe38c17126495b7c93c7938bb", checked := Tryz.checked }
namespace Rows
def none {H : Type} : Left H := { results := [], args := [] }

/-- 'lagoonlaw10.ServiceNames': WHATEVER THE INPUT: true; the input reads as it did. -/
def serviceNamesSpec : ChangeSpec := { name := "serviceNames", fn := fun _ => fun
  | [] => { results := [.lit (.bool true)], args := [] }
  | _ => none }
def serviceNamesRow : OpenClaim := { program := "ytnnipmcdkcpndaagreat", sum := "790e731a9cf872914ff1cef73de979510cc1926fe38c17126495b7c93c7938bb", func := "lagoon/lagoonlaw10.ServiceNames", spec := "serviceNames", unfollowed := true, recurses := true, apart := false }
def ServiceNamesSaid : Prop := serviceNamesRow.holds Tryz.pinned (OpenSpec.ofChange serviceNamesSpec)

/-- ITS FALSE NEIGHBOUR: 'it returns false'. Refute it at one input. -/
def serviceNamesWrong : ChangeSpec := { name := "serviceNames", fn := fun _ => fun
  | [] => { results := [.lit (.bool false)], args := [] }
  | _ => none }
def ServiceNamesWrongFalsely : Prop := serviceNamesRow.holds Tryz.pinned (OpenSpec.ofChange serviceNamesWrong)

/-- 'lagoonlaw10.ServiceApplies': WHATEVER THE INPUT: true; the input reads as it did. -/
def serviceAppliesSpec : ChangeSpec := { name := "serviceApplies", fn := fun _ => fun
  | [d1, d2] => { results := [.lit (.bool true)], args := [d1, d2] }
  | _ => none }
def serviceAppliesRow : OpenClaim := { program := "ytnnipmcdkcpndaagreat", sum := "790e731a9cf872914ff1cef73de979510cc1926fe38c17126495b7c93c7938bb", func := "lagoon/lagoonlaw10.ServiceApplies", spec := "serviceApplies", unfollowed := true, recurses := true, apart := false }
def ServiceAppliesSaid : Prop := serviceAppliesRow.holds Tryz.pinned (OpenSpec.ofChange serviceAppliesSpec)

/-- ITS FALSE NEIGHBOUR: 'it returns false'. Refute it at one input. -/
def serviceAppliesWrong : ChangeSpec := { name := "serviceApplies", fn := fun _ => fun
  | [d1, d2] => { results := [.lit (.bool false)], args := [d1, d2] }
  | _ => none }
def ServiceAppliesWrongFalsely : Prop := serviceAppliesRow.holds Tryz.pinned (OpenSpec.ofChange serviceAppliesWrong)

/-- 'lagoonlaw10.ServicePlays': WHATEVER THE INPUT: true; the input reads as it did. -/
def servicePlaysSpec : ChangeSpec := { name := "servicePlays", fn := fun _ => fun
  | [d1, d2] => { results := [.lit (.bool true)], args := [d1, d2] }
  | _ => none }
def servicePlaysRow : OpenClaim := { program := "ytnnipmcdkcpndaagreat", sum := "790e731a9cf872914ff1cef73de979510cc1926fe38c17126495b7c93c7938bb", func := "lagoon/lagoonlaw10.ServicePlays", spec := "servicePlays", unfollowed := true, recurses := true, apart := false }
def ServicePlaysSaid : Prop := servicePlaysRow.holds Tryz.pinned (OpenSpec.ofChange servicePlaysSpec)

/-- ITS FALSE NEIGHBOUR: 'it returns false'. Refute it at one input. -/
def servicePlaysWrong : ChangeSpec := { name := "servicePlays", fn := fun _ => fun
  | [d1, d2] => { results := [.lit (.bool false)], args := [d1, d2] }
  | _ => none }
def ServicePlaysWrongFalsely : Prop := servicePlaysRow.holds Tryz.pinned (OpenSpec.ofChange servicePlaysWrong)

/-- 'lagoonlaw10.ServiceCodes': WHATEVER THE INPUT: true; the input reads as it did. -/
def serviceCodesSpec : ChangeSpec := { name := "serviceCodes", fn := fun _ => fun
  | [d1, d2, d3] => { results := [.lit (.bool true)], args := [d1, d2, d3] }
  | _ => none }
def serviceCodesRow : OpenClaim := { program := "ytnnipmcdkcpndaagreat", sum := "790e731a9cf872914ff1cef73de979510cc1926fe38c17126495b7c93c7938bb", func := "lagoon/lagoonlaw10.ServiceCodes", spec := "serviceCodes", unfollowed := true, recurses := true, apart := false }
def ServiceCodesSaid : Prop := serviceCodesRow.holds Tryz.pinned (OpenSpec.ofChange serviceCodesSpec)

/-- ITS FALSE NEIGHBOUR: 'it returns false'. Refute it at one input. -/
def serviceCodesWrong : ChangeSpec := { name := "serviceCodes", fn := fun _ => fun
  | [d1, d2, d3] => { results := [.lit (.bool false)], args := [d1, d2, d3] }
  | _ => none }
def ServiceCodesWrongFalsely : Prop := serviceCodesRow.holds Tryz.pinned (OpenSpec.ofChange serviceCodesWrong)

/-- 'lagoonlaw10.ServiceBack': WHATEVER THE INPUT: true; the input reads as it did. -/
def serviceBackSpec : ChangeSpec := { name := "serviceBack", fn := fun _ => fun
  | [d1, d2, d3] => { results := [.lit (.bool true)], args := [d1, d2, d3] }
  | _ => none }
def serviceBackRow : OpenClaim := { program := "ytnnipmcdkcpndaagreat", sum := "790e731a9cf872914ff1cef73de979510cc1926fe38c17126495b7c93c7938bb", func := "lagoon/lagoonlaw10.ServiceBack", spec := "serviceBack", unfollowed := true, recurses := true, apart := false }
def ServiceBackSaid : Prop := serviceBackRow.holds Tryz.pinned (OpenSpec.ofChange serviceBackSpec)

/-- ITS FALSE NEIGHBOUR: 'it returns false'. Refute it at one input. -/
def serviceBackWrong : ChangeSpec := { name := "serviceBack", fn := fun _ => fun
  | [d1, d2, d3] => { results := [.lit (.bool false)], args := [d1, d2, d3] }
  | _ => none }
def ServiceBackWrongFalsely : Prop := serviceBackRow.holds Tryz.pinned (OpenSpec.ofChange serviceBackWrong)

/-- 'lagoonlaw10.ServiceOnce': WHATEVER THE INPUT: true; the input reads as it did. -/
def serviceOnceSpec : ChangeSpec := { name := "serviceOnce", fn := fun _ => fun
  | [d1, d2] => { results := [.lit (.bool true)], args := [d1, d2] }
  | _ => none }
def serviceOnceRow : OpenClaim := { program := "ytnnipmcdkcpndaagreat", sum := "790e731a9cf872914ff1cef73de979510cc1926fe38c17126495b7c93c7938bb", func := "lagoon/lagoonlaw10.ServiceOnce", spec := "serviceOnce", unfollowed := true, recurses := true, apart := false }
def ServiceOnceSaid : Prop := serviceOnceRow.holds Tryz.pinned (OpenSpec.ofChange serviceOnceSpec)

/-- ITS FALSE NEIGHBOUR: 'it returns false'. Refute it at one input. -/
def serviceOnceWrong : ChangeSpec := { name := "serviceOnce", fn := fun _ => fun
  | [d1, d2] => { results := [.lit (.bool false)], args := [d1, d2] }
  | _ => none }
def ServiceOnceWrongFalsely : Prop := serviceOnceRow.holds Tryz.pinned (OpenSpec.ofChange serviceOnceWrong)

/-- 'lagoonlaw10.ServiceKeeps': WHATEVER THE INPUT: true; the input reads as it did. -/
def serviceKeepsSpec : ChangeSpec := { name := "serviceKeeps", fn := fun _ => fun
  | [d1, d2] => { results := [.lit (.bool true)], args := [d1, d2] }
  | _ => none }
def serviceKeepsRow : OpenClaim := { program := "ytnnipmcdkcpndaagreat", sum := "790e731a9cf872914ff1cef73de979510cc1926fe38c17126495b7c93c7938bb", func := "lagoon/lagoonlaw10.ServiceKeeps", spec := "serviceKeeps", unfollowed := true, recurses := true, apart := false }
def ServiceKeepsSaid : Prop := serviceKeepsRow.holds Tryz.pinned (OpenSpec.ofChange serviceKeepsSpec)

/-- ITS FALSE NEIGHBOUR: 'it returns false'. Refute it at one input. -/
def serviceKeepsWrong : ChangeSpec := { name := "serviceKeeps", fn := fun _ => fun
  | [d1, d2] => { results := [.lit (.bool false)], args := [d1, d2] }
  | _ => none }
def ServiceKeepsWrongFalsely : Prop := serviceKeepsRow.holds Tryz.pinned (OpenSpec.ofChange serviceKeepsWrong)

/-- 'lagoonlaw10.ServiceLeases': WHATEVER THE INPUT: true; the input reads as it did. -/
def serviceLeasesSpec : ChangeSpec := { name := "serviceLeases", fn := fun _ => fun
  | [d1, d2] => { results := [.lit (.bool true)], args := [d1, d2] }
  | _ => none }
def serviceLeasesRow : OpenClaim := { program := "ytnnipmcdkcpndaagreat", sum := "790e731a9cf872914ff1cef73de979510cc1926fe38c17126495b7c93c7938bb", func := "lagoon/lagoonlaw10.ServiceLeases", spec := "serviceLeases", unfollowed := true, recurses := true, apart := false }
def ServiceLeasesSaid : Prop := serviceLeasesRow.holds Tryz.pinned (OpenSpec.ofChange serviceLeasesSpec)

/-- ITS FALSE NEIGHBOUR: 'it returns false'. Refute it at one input. -/
def serviceLeasesWrong : ChangeSpec := { name := "serviceLeases", fn := fun _ => fun
  | [d1, d2] => { results := [.lit (.bool false)], args := [d1, d2] }
  | _ => none }
def ServiceLeasesWrongFalsely : Prop := serviceLeasesRow.holds Tryz.pinned (OpenSpec.ofChange serviceLeasesWrong)

/-- 'lagoonlaw10.ServiceHelps': WHATEVER THE INPUT: true; the input reads as it did. -/
def serviceHelpsSpec : ChangeSpec := { name := "serviceHelps", fn := fun _ => fun
  | [d1, d2] => { results := [.lit (.bool true)], args := [d1, d2] }
  | _ => none }
def serviceHelpsRow : OpenClaim := { program := "ytnnipmcdkcpndaagreat", sum := "790e731a9cf872914ff1cef73de979510cc1926fe38c17126495b7c93c7938bb", func := "lagoon/lagoonlaw10.ServiceHelps", spec := "serviceHelps", unfollowed := true, recurses := true, apart := false }
def ServiceHelpsSaid : Prop := serviceHelpsRow.holds Tryz.pinned (OpenSpec.ofChange serviceHelpsSpec)

/-- ITS FALSE NEIGHBOUR: 'it returns false'. Refute it at one input. -/
def serviceHelpsWrong : ChangeSpec := { name := "serviceHelps", fn := fun _ => fun
  | [d1, d2] => { results := [.lit (.bool false)], args := [d1, d2] }
  | _ => none }
def ServiceHelpsWrongFalsely : Prop := serviceHelpsRow.holds Tryz.pinned (OpenSpec.ofChange serviceHelpsWrong)

/-- 'lagoonlaw10.ServiceOwn': WHATEVER THE INPUT: true; the input reads as it did. -/
def serviceOwnSpec : ChangeSpec := { name := "serviceOwn", fn := fun _ => fun
  | [d1, d2] => { results := [.lit (.bool true)], args := [d1, d2] }
  | _ => none }
def serviceOwnRow : OpenClaim := { program := "ytnnipmcdkcpndaagreat", sum := "790e731a9cf872914ff1cef73de979510cc1926fe38c17126495b7c93c7938bb", func := "lagoon/lagoonlaw10.ServiceOwn", spec := "serviceOwn", unfollowed := true, recurses := true, apart := false }
def ServiceOwnSaid : Prop := serviceOwnRow.holds Tryz.pinned (OpenSpec.ofChange serviceOwnSpec)

/-- ITS FALSE NEIGHBOUR: 'it returns false'. Refute it at one input. -/
def serviceOwnWrong : ChangeSpec := { name := "serviceOwn", fn := fun _ => fun
  | [d1, d2] => { results := [.lit (.bool false)], args := [d1, d2] }
  | _ => none }
def ServiceOwnWrongFalsely : Prop := serviceOwnRow.holds Tryz.pinned (OpenSpec.ofChange serviceOwnWrong)

/- THE SECOND FORM. 'bulk': how many values and letters a reading holds, each counted each time it is reached (what is shared counts as often as it is met; a slice's spare places count too). A statement '..UptoSaid' is the law's where the arguments, and the package variables that the reading takes, are together of bulk at most 1048576: NARROWER than '..Said'. Prove '..Said' where nothing that the law and all that it calls make is longer than what came in: it says more and counts as full. Else prove '..UptoSaid'. A law counts once. -/
mutual
def uptoBulk {H : Type} : DataW H → Nat
  | .lit (.string bytes) => bytes.length + 1
  | .lit _ => 1
  | .nil => 1
  | .ptr d => uptoBulk d + 1
  | .slice elems spare => uptoBulkAll elems + uptoBulkAll spare + 1
  | .agg parts => uptoBulkAll parts + 1
  | .iface _ d => uptoBulk d + 1
  | .map entries => uptoBulkEntries entries + 1
  | .held _ => 1
def uptoBulkAll {H : Type} : List (DataW H) → Nat
  | [] => 0
  | d :: r => uptoBulk d + uptoBulkAll r
def uptoBulkEntries {H : Type} : List (Lit × DataW H) → Nat
  | [] => 0
  | x :: r => uptoBulkEntry x + uptoBulkEntries r
def uptoBulkEntry {H : Type} : Lit × DataW H → Nat
  | (.string bytes, d) => bytes.length + uptoBulk d + 1
  | (_, d) => uptoBulk d + 1
 end
def uptoSmall : (H : Type) → List (DataW H) → Bool := fun _ ds => decide (uptoBulkAll ds ≤ 1048576)
def OpenSpec.upto (s : _root_.Go.ChangeSpec) : _root_.Go.OpenSpec := { _root_.Go.OpenSpec.ofChange s with cond := some uptoSmall }

/-- 'lagoonlaw10.ServiceNames', WHERE WHAT IT READS IS OF BULK AT MOST 1048576: true; the input reads as it did. -/
def serviceNamesUptoRow : OpenClaim := { program := "ytnnipmcdkcpndaagreat", sum := "790e731a9cf872914ff1cef73de979510cc1926fe38c17126495b7c93c7938bb", func := "lagoon/lagoonlaw10.ServiceNames", spec := "serviceNames", unfollowed := true, recurses := true, apart := false, narrowed := true }
def ServiceNamesUptoSaid : Prop := serviceNamesUptoRow.holds Tryz.pinned (OpenSpec.upto serviceNamesSpec)

/-- 'lagoonlaw10.ServiceApplies', WHERE WHAT IT READS IS OF BULK AT MOST 1048576: true; the input reads as it did. -/
def serviceAppliesUptoRow : OpenClaim := { program := "ytnnipmcdkcpndaagreat", sum := "790e731a9cf872914ff1cef73de979510cc1926fe38c17126495b7c93c7938bb", func := "lagoon/lagoonlaw10.ServiceApplies", spec := "serviceApplies", unfollowed := true, recurses := true, apart := false, narrowed := true }
def ServiceAppliesUptoSaid : Prop := serviceAppliesUptoRow.holds Tryz.pinned (OpenSpec.upto serviceAppliesSpec)

/-- 'lagoonlaw10.ServicePlays', WHERE WHAT IT READS IS OF BULK AT MOST 1048576: true; the input reads as it did. -/
def servicePlaysUptoRow : OpenClaim := { program := "ytnnipmcdkcpndaagreat", sum := "790e731a9cf872914ff1cef73de979510cc1926fe38c17126495b7c93c7938bb", func := "lagoon/lagoonlaw10.ServicePlays", spec := "servicePlays", unfollowed := true, recurses := true, apart := false, narrowed := true }
def ServicePlaysUptoSaid : Prop := servicePlaysUptoRow.holds Tryz.pinned (OpenSpec.upto servicePlaysSpec)

/-- 'lagoonlaw10.ServiceCodes', WHERE WHAT IT READS IS OF BULK AT MOST 1048576: true; the input reads as it did. -/
def serviceCodesUptoRow : OpenClaim := { program := "ytnnipmcdkcpndaagreat", sum := "790e731a9cf872914ff1cef73de979510cc1926fe38c17126495b7c93c7938bb", func := "lagoon/lagoonlaw10.ServiceCodes", spec := "serviceCodes", unfollowed := true, recurses := true, apart := false, narrowed := true }
def ServiceCodesUptoSaid : Prop := serviceCodesUptoRow.holds Tryz.pinned (OpenSpec.upto serviceCodesSpec)

/-- 'lagoonlaw10.ServiceBack', WHERE WHAT IT READS IS OF BULK AT MOST 1048576: true; the input reads as it did. -/
def serviceBackUptoRow : OpenClaim := { program := "ytnnipmcdkcpndaagreat", sum := "790e731a9cf872914ff1cef73de979510cc1926fe38c17126495b7c93c7938bb", func := "lagoon/lagoonlaw10.ServiceBack", spec := "serviceBack", unfollowed := true, recurses := true, apart := false, narrowed := true }
def ServiceBackUptoSaid : Prop := serviceBackUptoRow.holds Tryz.pinned (OpenSpec.upto serviceBackSpec)

/-- 'lagoonlaw10.ServiceOnce', WHERE WHAT IT READS IS OF BULK AT MOST 1048576: true; the input reads as it did. -/
def serviceOnceUptoRow : OpenClaim := { program := "ytnnipmcdkcpndaagreat", sum := "790e731a9cf872914ff1cef73de979510cc1926fe38c17126495b7c93c7938bb", func := "lagoon/lagoonlaw10.ServiceOnce", spec := "serviceOnce", unfollowed := true, recurses := true, apart := false, narrowed := true }
def ServiceOnceUptoSaid : Prop := serviceOnceUptoRow.holds Tryz.pinned (OpenSpec.upto serviceOnceSpec)

/-- 'lagoonlaw10.ServiceKeeps', WHERE WHAT IT READS IS OF BULK AT MOST 1048576: true; the input reads as it did. -/
def serviceKeepsUptoRow : OpenClaim := { program := "ytnnipmcdkcpndaagreat", sum := "790e731a9cf872914ff1cef73de979510cc1926fe38c17126495b7c93c7938bb", func := "lagoon/lagoonlaw10.ServiceKeeps", spec := "serviceKeeps", unfollowed := true, recurses := true, apart := false, narrowed := true }
def ServiceKeepsUptoSaid : Prop := serviceKeepsUptoRow.holds Tryz.pinned (OpenSpec.upto serviceKeepsSpec)

/-- 'lagoonlaw10.ServiceLeases', WHERE WHAT IT READS IS OF BULK AT MOST 1048576: true; the input reads as it did. -/
def serviceLeasesUptoRow : OpenClaim := { program := "ytnnipmcdkcpndaagreat", sum := "790e731a9cf872914ff1cef73de979510cc1926fe38c17126495b7c93c7938bb", func := "lagoon/lagoonlaw10.ServiceLeases", spec := "serviceLeases", unfollowed := true, recurses := true, apart := false, narrowed := true }
def ServiceLeasesUptoSaid : Prop := serviceLeasesUptoRow.holds Tryz.pinned (OpenSpec.upto serviceLeasesSpec)

/-- 'lagoonlaw10.ServiceHelps', WHERE WHAT IT READS IS OF BULK AT MOST 1048576: true; the input reads as it did. -/
def serviceHelpsUptoRow : OpenClaim := { program := "ytnnipmcdkcpndaagreat", sum := "790e731a9cf872914ff1cef73de979510cc1926fe38c17126495b7c93c7938bb", func := "lagoon/lagoonlaw10.ServiceHelps", spec := "serviceHelps", unfollowed := true, recurses := true, apart := false, narrowed := true }
def ServiceHelpsUptoSaid : Prop := serviceHelpsUptoRow.holds Tryz.pinned (OpenSpec.upto serviceHelpsSpec)

/-- 'lagoonlaw10.ServiceOwn', WHERE WHAT IT READS IS OF BULK AT MOST 1048576: true; the input reads as it did. -/
def serviceOwnUptoRow : OpenClaim := { program := "ytnnipmcdkcpndaagreat", sum := "790e731a9cf872914ff1cef73de979510cc1926fe38c17126495b7c93c7938bb", func := "lagoon/lagoonlaw10.ServiceOwn", spec := "serviceOwn", unfollowed := true, recurses := true, apart := false, narrowed := true }
def ServiceOwnUptoSaid : Prop := serviceOwnUptoRow.holds Tryz.pinned (OpenSpec.upto serviceOwnSpec)

end Rows
end Go.Proofs.YtnnipmcdkcpndaaGreat
