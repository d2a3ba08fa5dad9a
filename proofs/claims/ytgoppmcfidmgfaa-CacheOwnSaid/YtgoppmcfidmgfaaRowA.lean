/- Runs over unknown values, told by the kernel: part RowA. -/
import Derived.Test.YtgoppmcfidmgfaaGD
import Derived.Test.YtgoppmcfidmgfaaRows
set_option linter.unusedSimpArgs false
set_option linter.unusedVariables false
set_option maxRecDepth 20000
namespace Go.Proofs.Ly
open Go Go.Sim Go.Proofs Go.Proofs.Cl Go.Proofs.Ytgoppmcfidmgfaa
theorem u3:Try.prog.underlying 3=some (.int .i64):=by kernel_rfl
theorem u9:Try.prog.underlying 9=some .string:=by kernel_rfl
theorem shpBlk {d:Nat} {f:Nat->CV} {o:Nat} (h:Shp Try.prog (d+2) 24 (fun j=>f (o+j))):∃(v:Int) (s:List Nat),f o=.i .i64 v/\f (o+1)=.s s/\Byt s/\s.length<=reachBytes:=by
 obtain ⟨v,hv,_⟩:=Shp.int d rfl (Shp.field (i:=0) (e:=3) (o:=0) (d+1) rfl h (by kernel_rfl)) u3
 obtain ⟨s,hs,h1,_,h2⟩:=Shp.string d rfl (Shp.field (i:=1) (e:=9) (o:=1) (d+1) rfl h (by kernel_rfl)) u9
 exact ⟨v,s,hv,hs,h1,h2⟩
end Go.Proofs.Ly
