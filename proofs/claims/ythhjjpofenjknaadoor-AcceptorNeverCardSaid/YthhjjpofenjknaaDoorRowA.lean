/- Runs over unknown values, told by the kernel: part RowA. -/
import Derived.Test.YthhjjpofenjknaaDoorGI
import Derived.Test.YthhjjpofenjknaaDoorTie
import Derived.Test.YthhjjpofenjknaaDoorCards
import Derived.SizedLaws
import Derived.ProofKit
import Derived.LaidMore
import Derived.OpenShut
import Derived.Stop.Joined
noncomputable section
open Int (ofNat)
set_option linter.unusedSimpArgs false
set_option linter.unusedVariables false
namespace Go.Proofs.YthhjjpofenjknaaDoor
open Go Go.ChangeShapes Go.WideShapes Go.ChangeAt Go.RowKit Go.Sim
def litV:DataW Unit->List Value
 | .lit (.int k n)=>[.int k n]
 | _=>[]
def lv1:DataW Unit->List Value
 | .agg l=>l.flatMap litV
 | d=>litV d
def lv2:DataW Unit->List Value
 | .agg l=>l.flatMap lv1
 | d=>litV d
def refill (cs:List Value):Obj->Obj
 | .cells _ e fr=>.cells cs.toArray e fr
 | o=>o
def layAt (h:Array Obj) (i:Nat) (cs:List Value):Array Obj:=match h[i]? with
 | some b=>h.setIfInBounds i (refill cs b)
 | none=>h
def laidW (os:Os):World:={ World.holding Tryd.prog os ⟨#[],#[],[]⟩ with heap:=layAt (layAt (World.holding Tryd.prog os ⟨#[],#[],[]⟩).heap 0 (lv1 Rows.laid_unicode_utf8_first)) 1 (lv2 Rows.laid_unicode_utf8_acceptRanges)}
def laidX:List (String×DataW Unit):=[("unicode/utf8.acceptRanges",Rows.laid_unicode_utf8_acceptRanges),("unicode/utf8.first",Rows.laid_unicode_utf8_first)]
theorem laid_met (os:Os) (args:Array Value):laidMetH Tryd.prog laidX ((laidW os).forCall (fun _ _=>0) ⟨#[],args,[]⟩).memory:=
 laidMetH_of_parts3 (fuel:=8) (laidMet_of_run' 8 (by kernel_rfl) (by kernel_rfl)) (by kernel_rfl) (by kernel_rfl)
theorem laid_shaped (os:Os) (args:Array Value):((laidW os).forCall (fun _ _=>0) ⟨#[],args,[]⟩).Shaped Tryd.prog:=
 World.shaped_of_RefB (by kernel_rfl) (by kernel_rfl)
end Go.Proofs.YthhjjpofenjknaaDoor
namespace Go.Proofs.Cl
open Go Go.Sim Go.Proofs Go.Proofs.YthhjjpofenjknaaDoor
theorem u3:Tryd.prog.underlying 3=some (.int .i64):=by kernel_rfl
theorem u4:Tryd.prog.underlying 4=some .bool:=by kernel_rfl
theorem u9:Tryd.prog.underlying 9=some .string:=by kernel_rfl
theorem shpOpsA {f:Nat->CV} (h:Shp Tryd.prog 3 35 f):∃(L:Nat) (K B Z:Nat->Int) (X:Nat->List Nat) (T:Nat->Bool),CLe (f 0) (.sv 5 L (opF K B Z X T))/\(∀i,∀b∈X i,b<256)/\∀i,Z i<=9223372036854775807:=by
 have us:Tryd.prog.underlying 35=some (.slice 40):=by kernel_rfl
 have c:Tryd.prog.cellsOf 40=5:=by kernel_rfl
 have f0:fld Tryd.prog 40 0=some (3,0):=by kernel_rfl
 have f1:fld Tryd.prog 40 1=some (3,1):=by kernel_rfl
 have f2:fld Tryd.prog 40 2=some (3,2):=by kernel_rfl
 have f3:fld Tryd.prog 40 3=some (9,3):=by kernel_rfl
 have f4:fld Tryd.prog 40 4=some (4,4):=by kernel_rfl
 obtain ⟨L,g,hg,_,_,hi⟩:=Shp.slice 2 rfl h us
 obtain ⟨W,hW⟩:=Classical.axiomOfChoice (r:=fun (i:Nat) (q:Int×Int×Int×List Nat×Bool)=>((∀b∈q.2.2.2.1,b<256)/\q.2.2.1<=9223372036854775807)/\(i<L->g i 0=.i .i64 q.1/\g i 1=.i .i64 q.2.1/\g i 2=.i .i64 q.2.2.1/\g i 3=.s q.2.2.2.1/\g i 4=.b q.2.2.2.2)) (fun i=>by
  by_cases q:i<L
  · obtain ⟨x,hx,_⟩:=Shp.int 0 rfl (Shp.field 1 rfl (hi i q) f0) u3
    obtain ⟨y0,hy0,_⟩:=Shp.int 0 rfl (Shp.field 1 rfl (hi i q) f1) u3
    obtain ⟨y,hy,w⟩:=Shp.int 0 rfl (Shp.field 1 rfl (hi i q) f2) u3
    obtain ⟨z,hz,hb,_⟩:=Shp.string 0 rfl (Shp.field 1 rfl (hi i q) f3) u9
    obtain ⟨b,hb2⟩:=Shp.bool 0 rfl (Shp.field 1 rfl (hi i q) f4) u4
    refine ⟨(x,y0,y,z,b),⟨hb,?_⟩,fun _=>⟨by simpa using hx,by simpa using hy0,by simpa using hy,by simpa using hz,by simpa using hb2⟩⟩
    have h:(decide (IntKind.i64.min<=y) && decide (y<=IntKind.i64.max))=true:=w
    have hm:IntKind.i64.max=9223372036854775807:=by decide
    simp only [Bool.and_eq_true,decide_eq_true_eq] at h
    show y<=_
    omega
  · exact ⟨(0,0,0,[],false),⟨fun b hb=>(by cases hb),by decide⟩,fun h=>absurd h q⟩)
 rw [c] at hg
 refine ⟨L,fun i=>(W i).1,fun i=>(W i).2.1,fun i=>(W i).2.2.1,fun i=>(W i).2.2.2.1,fun i=>(W i).2.2.2.2,?_,fun i=>(hW i).1.1,fun i=>(hW i).1.2⟩
 rw [hg]
 refine CLe.sv fun i j a b=>?_
 obtain ⟨k0,k1,k2,k3,k4⟩:=(hW i).2 a
 match j,b with
 | 0,_=>exact .of k0
 | 1,_=>exact .of k1
 | 2,_=>exact .of k2
 | 3,_=>exact .of k3
 | 4,_=>exact .of k4
end Go.Proofs.Cl
