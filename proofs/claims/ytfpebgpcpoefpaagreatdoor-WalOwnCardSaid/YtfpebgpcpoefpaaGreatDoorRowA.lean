/- Runs over unknown values, told by the kernel: part RowA. -/
import Derived.Test.YtfpebgpcpoefpaaGreatDoorGI
import Derived.Test.YtfpebgpcpoefpaaGreatDoorTie
import Derived.Test.YtfpebgpcpoefpaaGreatDoorCards
import Derived.SizedLaws
import Derived.ProofKit
import Derived.LaidMore
import Derived.OpenShut
import Derived.Stop.Joined
noncomputable section
open Int (ofNat)
set_option linter.unusedSimpArgs false
set_option linter.unusedVariables false
namespace Go.Proofs.YtfpebgpcpoefpaaGreatDoor
open Go Go.ChangeShapes Go.WideShapes Go.ChangeAt Go.RowKit Go.Sim
def litV:DataW Unit->List Value
 | .lit (.int k n)=>[.int k n]
 | _=>[]
def lv1:DataW Unit->List Value
 | .agg l=>l.flatMap litV
 | d=>litV d
def lv2:DataW Unit->List Value
 | .agg l=>l.flatMap lv1
 | d=>litV d
def refill (cs:List Value):Obj->Obj
 | .cells _ e fr=>.cells cs.toArray e fr
 | o=>o
def layAt (h:Array Obj) (i:Nat) (cs:List Value):Array Obj:=match h[i]? with
 | some b=>h.setIfInBounds i (refill cs b)
 | none=>h
def laidW (os:Os):World:={ World.holding Tryz.prog os ⟨#[],#[],[]⟩ with heap:=layAt (layAt (World.holding Tryz.prog os ⟨#[],#[],[]⟩).heap 0 (lv1 Rows.laid_unicode_utf8_first)) 1 (lv2 Rows.laid_unicode_utf8_acceptRanges)}
def laidX:List (String×DataW Unit):=[("unicode/utf8.acceptRanges",Rows.laid_unicode_utf8_acceptRanges),("unicode/utf8.first",Rows.laid_unicode_utf8_first)]
theorem laid_met (os:Os) (args:Array Value):laidMetH Tryz.prog laidX ((laidW os).forCall (fun _ _=>0) ⟨#[],args,[]⟩).memory:=
 laidMetH_of_parts3 (fuel:=8) (laidMet_of_run' 8 (by kernel_rfl) (by kernel_rfl)) (by kernel_rfl) (by kernel_rfl)
theorem laid_shaped (os:Os) (args:Array Value):((laidW os).forCall (fun _ _=>0) ⟨#[],args,[]⟩).Shaped Tryz.prog:=
 World.shaped_of_RefB (by kernel_rfl) (by kernel_rfl)
end Go.Proofs.YtfpebgpcpoefpaaGreatDoor
namespace Go.Proofs.Ly
open Go Go.Sim Go.Proofs Go.Proofs.Cl Go.Proofs.YtfpebgpcpoefpaaGreatDoor
theorem u3:Tryz.prog.underlying 3=some (.int .i64):=by kernel_rfl
theorem u9:Tryz.prog.underlying 9=some .string:=by kernel_rfl
theorem shpUps {f:Nat->CV} (h:Shp Tryz.prog 4 39 f):∃(n:Nat) (B V:Nat->Int) (D:Nat->List Nat),CLe (f 0) (.sv 3 n (uF B V D))/\n*32<=reachBytes/\∀i,i<n->Byt (D i):=by
 have us:Tryz.prog.underlying 39=some (.slice 47):=by kernel_rfl
 have c:Tryz.prog.cellsOf 47=3:=by kernel_rfl
 have by_:Tryz.prog.bytesOf 47=32:=by kernel_rfl
 have f0:fld Tryz.prog 47 0=some (3,0):=by kernel_rfl
 have f1:fld Tryz.prog 47 1=some (3,1):=by kernel_rfl
 have f2:fld Tryz.prog 47 2=some (9,2):=by kernel_rfl
 obtain ⟨L,g,hg,_,hr,hi⟩:=Shp.slice 3 rfl h us
 obtain ⟨W,hW⟩:=Classical.axiomOfChoice (r:=fun (i:Nat) (q:Int×Int×List Nat)=>(∀b∈q.2.2,b<256)/\
  (i<L->g i 0=.i .i64 q.1/\g i 1=.i .i64 q.2.1/\g i 2=.s q.2.2)) (fun i=>by
  by_cases q:i<L
  · obtain ⟨x,hx,_⟩:=Shp.int 1 rfl (Shp.field 2 rfl (hi i q) f0) u3
    obtain ⟨y,hy,_⟩:=Shp.int 1 rfl (Shp.field 2 rfl (hi i q) f1) u3
    obtain ⟨d,hd,hb,_⟩:=Shp.string 1 rfl (Shp.field 2 rfl (hi i q) f2) u9
    exact ⟨(x,y,d),hb,fun _=>⟨by simpa using hx,by simpa using hy,by simpa using hd⟩⟩
  · exact ⟨(0,0,[]),fun b hb=>(by cases hb),fun h=>absurd h q⟩)
 rw [c] at hg
 rw [by_] at hr
 refine ⟨L,fun i=>(W i).1,fun i=>(W i).2.1,fun i=>(W i).2.2,?_,hr,fun i _=>(hW i).1⟩
 rw [hg]
 refine CLe.sv fun i j a b=>?_
 match j,b with
 | 0,_=>exact .of ((hW i).2 a).1
 | 1,_=>exact .of ((hW i).2 a).2.1
 | 2,_=>exact .of ((hW i).2 a).2.2
end Go.Proofs.Ly
