/- Runs over unknown values, told by the kernel: part RowA. -/
import Derived.Test.YtfpebgpcpoefpaaGreatDoorGG
import Derived.Test.YtfpebgpcpoefpaaGreatDoorTie
import Derived.Test.YtfpebgpcpoefpaaGreatDoorCards
import Derived.SizedLaws
import Derived.ProofKit
import Derived.LaidMore
import Derived.OpenShut
import Derived.Stop.Joined
set_option linter.unusedSimpArgs false
set_option linter.unusedVariables false
namespace Go.Proofs.YtfpebgpcpoefpaaGreatDoor
open Go Go.ChangeShapes Go.WideShapes Go.ChangeAt Go.RowKit Go.Sim
noncomputable def litV:DataW Unit->List Value
 | .lit (.int k n)=>[.int k n]
 | _=>[]
noncomputable def lv1:DataW Unit->List Value
 | .agg l=>l.flatMap litV
 | d=>litV d
noncomputable def lv2:DataW Unit->List Value
 | .agg l=>l.flatMap lv1
 | d=>litV d
noncomputable def refill (cs:List Value):Obj->Obj
 | .cells _ e fr=>.cells cs.toArray e fr
 | o=>o
noncomputable def layAt (h:Array Obj) (i:Nat) (cs:List Value):Array Obj:=match h[i]? with
 | some b=>h.setIfInBounds i (refill cs b)
 | none=>h
noncomputable def laidW (os:Os):World:={ World.holding Tryz.prog os ⟨#[],#[],[]⟩ with heap:=layAt (layAt (World.holding Tryz.prog os ⟨#[],#[],[]⟩).heap 0 (lv1 Rows.laid_unicode_utf8_first)) 1 (lv2 Rows.laid_unicode_utf8_acceptRanges)}
noncomputable def laidX:List (String×DataW Unit):=[("unicode/utf8.acceptRanges",Rows.laid_unicode_utf8_acceptRanges),("unicode/utf8.first",Rows.laid_unicode_utf8_first)]
theorem laid_met (os:Os) (args:Array Value):laidMetH Tryz.prog laidX ((laidW os).forCall (fun _ _=>0) ⟨#[],args,[]⟩).memory:=
 laidMetH_of_parts3 (fuel:=8) (laidMet_of_run' 8 (by kernel_rfl) (by kernel_rfl)) (by kernel_rfl) (by kernel_rfl)
theorem laid_shaped (os:Os) (args:Array Value):((laidW os).forCall (fun _ _=>0) ⟨#[],args,[]⟩).Shaped Tryz.prog:=
 World.shaped_of_RefB (by kernel_rfl) (by kernel_rfl)
end Go.Proofs.YtfpebgpcpoefpaaGreatDoor
