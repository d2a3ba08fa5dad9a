/- Runs over unknown values, told by the kernel: part RowA. -/
import Derived.Test.YtbilafnamckglaaDoorGK
import Derived.Test.YtbilafnamckglaaDoorTie
import Derived.Test.YtbilafnamckglaaDoorCards
import Derived.SizedLaws
import Derived.ProofKit
import Derived.LaidMore
import Derived.OpenShut
import Derived.Stop.Joined
noncomputable section
open Int (ofNat)
set_option linter.unusedSimpArgs false
set_option linter.unusedVariables false
namespace Go.Proofs.YtbilafnamckglaaDoor
open Go Go.ChangeShapes Go.WideShapes Go.ChangeAt Go.RowKit Go.Sim
def litV:DataW Unit→List Value
 | .lit (.int k n)=>[.int k n]
 | _=>[]
def lv1:DataW Unit→List Value
 | .agg l=>l.flatMap litV
 | d=>litV d
def lv2:DataW Unit→List Value
 | .agg l=>l.flatMap lv1
 | d=>litV d
def refill (cs:List Value):Obj→Obj
 | .cells _ e fr=>.cells cs.toArray e fr
 | o=>o
def layAt (h:Array Obj) (i:Nat) (cs:List Value):Array Obj:=match h[i]? with
 | some b=>h.setIfInBounds i (refill cs b)
 | none=>h
def laidW (os:Os):World:={ World.holding Tryd.prog os ⟨#[],#[],[]⟩ with heap:=layAt (layAt (World.holding Tryd.prog os ⟨#[],#[],[]⟩).heap 0 (lv1 Rows.laid_unicode_utf8_first)) 1 (lv2 Rows.laid_unicode_utf8_acceptRanges)}
def laidX:List (String×DataW Unit):=[("unicode/utf8.acceptRanges",Rows.laid_unicode_utf8_acceptRanges),("unicode/utf8.first",Rows.laid_unicode_utf8_first)]
theorem laid_met (os:Os) (args:Array Value):laidMetH Tryd.prog laidX ((laidW os).forCall (fun _ _=>0) ⟨#[],args,[]⟩).memory:=
 laidMetH_of_parts3 (fuel:=8) (laidMet_of_run' 8 (by kernel_rfl) (by kernel_rfl)) (by kernel_rfl) (by kernel_rfl)
theorem laid_shaped (os:Os) (args:Array Value):((laidW os).forCall (fun _ _=>0) ⟨#[],args,[]⟩).Shaped Tryd.prog:=
 World.shaped_of_RefB (by kernel_rfl) (by kernel_rfl)
end Go.Proofs.YtbilafnamckglaaDoor
namespace Go.Proofs.Jn
open Go Go.Sim Go.Proofs Go.Proofs.Cd Go.Proofs.YtbilafnamckglaaDoor
theorem u5:Tryd.prog.underlying 5=some (.int .u8):=by kernel_rfl
theorem shpBytesJ {d:Nat} {f:Nat→CV} (h:Shp Tryd.prog (d+2) 38 f):∃(n:Nat) (b:Nat→Nat),CLe (f 0) (.sv 1 n (byF b))∧(∀t,b t<256)∧n≤reachBytes:=by
 have us:Tryd.prog.underlying 38=some (.slice 5):=by kernel_rfl
 have b:Tryd.prog.bytesOf 5=1:=by kernel_rfl
 have c:Tryd.prog.cellsOf 5=1:=by kernel_rfl
 obtain ⟨n,g,hg,_,hb,hi⟩:=Shp.slice (d+1) rfl h us
 rw [c] at hg
 rw [b] at hb
 obtain ⟨W,hW⟩:=Classical.axiomOfChoice (r:=fun (i:Nat) (q:Nat)=>q<256∧(i<n→g i 0=.i .u8 (ofNat q))) (fun i=>by
  by_cases q:i<n
  · obtain ⟨x,hx,w⟩:=Shp.int d rfl (hi i q) u5
    have h:(decide (IntKind.u8.min≤x) && decide (x≤IntKind.u8.max))=true:=w
    have hm:IntKind.u8.max=255:=by decide
    have hn:IntKind.u8.min=0:=by decide
    simp only [Bool.and_eq_true,decide_eq_true_eq,hm,hn] at h
    refine ⟨x.toNat,by omega,fun _=>?_⟩
    rw [hx,show ofNat x.toNat=x from Int.toNat_of_nonneg h.1]
  · exact ⟨0,by decide,fun h=>absurd h q⟩)
 refine ⟨n,W,?_,fun t=>(hW t).1,by omega⟩
 rw [hg]
 refine CLe.sv fun i j a b=>?_
 obtain rfl:j=0:=by omega
 exact .of ((hW i).2 a)
theorem shpRecs {d:Nat} {f:Nat→CV} (h:Shp Tryd.prog (d+3) 27 f):∃(n:Nat) (m:Nat→Nat) (b:Nat→Nat→Nat),CLe (f 0) (.sv 1 n (recF m b))∧(∀i t,b i t<256)∧(∀i,m i≤reachBytes)∧n*24≤reachBytes:=by
 have us:Tryd.prog.underlying 27=some (.slice 38):=by kernel_rfl
 have b:Tryd.prog.bytesOf 38=24:=by kernel_rfl
 have c:Tryd.prog.cellsOf 38=1:=by kernel_rfl
 obtain ⟨n,g,hg,_,hb,hi⟩:=Shp.slice (d+2) rfl h us
 rw [c] at hg
 rw [b] at hb
 obtain ⟨W,hW⟩:=Classical.axiomOfChoice (r:=fun (i:Nat) (q:Nat×(Nat→Nat))=>((∀t,q.2 t<256)∧q.1≤reachBytes)∧(i<n→CLe (g i 0) (.sv 1 q.1 (byF q.2)))) (fun i=>by
  by_cases q:i<n
  · obtain ⟨m,b,hc,h1,h2⟩:=shpBytesJ (hi i q)
    exact ⟨(m,b),⟨h1,h2⟩,fun _=>hc⟩
  · exact ⟨(0,fun _=>0),⟨fun _=>Nat.succ_pos _,Nat.zero_le _⟩,fun h=>absurd h q⟩)
 refine ⟨n,fun i=>(W i).1,fun i=>(W i).2,?_,fun i t=>(hW i).1.1 t,fun i=>(hW i).1.2,hb⟩
 rw [hg]
 refine CLe.sv fun i j a b=>?_
 obtain rfl:j=0:=by omega
 exact (hW i).2 a
end Go.Proofs.Jn
