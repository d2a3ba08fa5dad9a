/- Runs over unknown values, told by the kernel: part RowA. -/
import Derived.Test.YtnnipmcdkcpndaaGreatGK
import Derived.Test.YtnnipmcdkcpndaaGreatRows
noncomputable section
open Int (ofNat)
set_option linter.unusedSimpArgs false
set_option linter.unusedVariables false
set_option maxRecDepth 20000
namespace Go.Proofs.Lk
open Go Go.Sim Go.Proofs Go.Proofs.YtnnipmcdkcpndaaGreat
theorem u3:Tryz.prog.underlying 3=some (.int .i64):=by kernel_rfl
theorem u34:Tryz.prog.underlying 34=some (.int .i64):=by kernel_rfl
theorem shpInts {d:Nat} {f:Nat->CV} (h:Shp Tryz.prog (d+2) 22 f):∃(n:Nat) (g:Nat->Int),CLe (f 0) (isC n g)/\n*8<=reachBytes:=by
 have us:Tryz.prog.underlying 22=some (.slice 3):=by kernel_rfl
 have b:Tryz.prog.bytesOf 3=8:=by kernel_rfl
 have c:Tryz.prog.cellsOf 3=1:=by kernel_rfl
 obtain ⟨n,g,hg,_,hb,hi⟩:=Shp.slice (d+1) rfl h us
 rw [c] at hg
 rw [b] at hb
 obtain ⟨W,hW⟩:=Classical.axiomOfChoice (r:=fun (i:Nat) (q:Int)=>i<n->g i 0=.i .i64 q) (fun i=>by
  by_cases q:i<n
  · obtain ⟨x,hx,_⟩:=Shp.int d rfl (hi i q) u3
    exact ⟨x,fun _=>hx⟩
  · exact ⟨0,fun h=>absurd h q⟩)
 refine ⟨n,W,?_,hb⟩
 rw [hg]
 refine CLe.sv fun i j a b=>?_
 obtain rfl:j=0:=by omega
 exact .of (hW i a)
def hL (t:TS):List CV:=Nat.rec [] (fun l ih=>ih ++ [hF t.h l 0,hF t.h l 1,hF t.h l 2]) 19
end Go.Proofs.Lk
namespace Go.Proofs.Sv
open Go Go.Sim Go.Proofs Go.Proofs.Lk Go.Proofs.YtnnipmcdkcpndaaGreat
theorem shpCmd {f:Nat->CV} (h:Shp Tryz.prog 3 45 f):∃c:Cm,(∀j,j<10->CLe (f j) ((cmC c).getD j .p0))/\c.mn*8<=reachBytes:=by
 have u43:Tryz.prog.underlying 43=some (.int .i64):=by kernel_rfl
 obtain ⟨x0,h0,_⟩:=Shp.int 1 rfl (Shp.field (i:=0) (e:=43) (o:=0) 2 rfl h (by kernel_rfl)) u43
 obtain ⟨x1,h1,_⟩:=Shp.int 1 rfl (Shp.field (i:=1) (e:=3) (o:=1) 2 rfl h (by kernel_rfl)) u3
 obtain ⟨x2,h2,_⟩:=Shp.int 1 rfl (Shp.field (i:=2) (e:=3) (o:=2) 2 rfl h (by kernel_rfl)) u3
 obtain ⟨x3,h3,_⟩:=Shp.int 1 rfl (Shp.field (i:=3) (e:=3) (o:=3) 2 rfl h (by kernel_rfl)) u3
 obtain ⟨x4,h4,_⟩:=Shp.int 1 rfl (Shp.field (i:=4) (e:=3) (o:=4) 2 rfl h (by kernel_rfl)) u3
 obtain ⟨x5,h5,_⟩:=Shp.int 1 rfl (Shp.field (i:=5) (e:=3) (o:=5) 2 rfl h (by kernel_rfl)) u3
 obtain ⟨x6,h6,_⟩:=Shp.int 1 rfl (Shp.field (i:=6) (e:=34) (o:=6) 2 rfl h (by kernel_rfl)) u34
 obtain ⟨x7,h7,_⟩:=Shp.int 1 rfl (Shp.field (i:=7) (e:=3) (o:=7) 2 rfl h (by kernel_rfl)) u3
 obtain ⟨mn,mf,h8,b⟩:=shpInts (d:=0) (Shp.field (i:=8) (e:=22) (o:=8) 2 rfl h (by kernel_rfl))
 obtain ⟨x9,h9,_⟩:=Shp.int 1 rfl (Shp.field (i:=9) (e:=3) (o:=9) 2 rfl h (by kernel_rfl)) u3
 refine ⟨⟨x0,x1,x2,x3,x4,x5,x6,x7,mn,mf,x9⟩,fun j hj=>?_,b⟩
 match j,hj with
 | 0,_=>exact .of h0
 | 1,_=>exact .of h1
 | 2,_=>exact .of h2
 | 3,_=>exact .of h3
 | 4,_=>exact .of h4
 | 5,_=>exact .of h5
 | 6,_=>exact .of h6
 | 7,_=>exact .of h7
 | 8,_=>exact h8
 | 9,_=>exact .of h9
theorem shpCmds {f:Nat->CV} (h:Shp Tryz.prog 4 55 f):∃(n:Nat) (C:Nat->Cm),CLe (f 0) (.sv 10 n (cmF C))/\(∀i,(C i).mn<=17592186044416)/\n*96<=reachBytes:=by
 have us:Tryz.prog.underlying 55=some (.slice 45):=by kernel_rfl
 have b:Tryz.prog.bytesOf 45=96:=by kernel_rfl
 have c:Tryz.prog.cellsOf 45=10:=by kernel_rfl
 obtain ⟨n,g,hg,_,hb,hi⟩:=Shp.slice 3 rfl h us
 rw [c] at hg
 rw [b] at hb
 obtain ⟨C,hC⟩:=Classical.axiomOfChoice (r:=fun (i:Nat) (q:Cm)=>(i<n->∀j,j<10->CLe (g i j) ((cmC q).getD j .p0))/\q.mn<=17592186044416) (fun i=>by
  by_cases q:i<n
  · obtain ⟨x,hx,hm⟩:=shpCmd (hi i q)
    have hr:reachBytes=140737488351232:=rfl
    exact ⟨x,fun _=>hx,by omega⟩
  · exact ⟨⟨0,0,0,0,0,0,0,0,0,fun _=>0,0⟩,fun h=>absurd h q,Nat.zero_le _⟩)
 refine ⟨n,C,?_,fun i=>(hC i).2,hb⟩
 rw [hg]
 exact CLe.sv fun i j a b=>(hC i).1 a j b
theorem u3:Tryz.prog.underlying 3=some (.int .i64):=by kernel_rfl
theorem shpInts {f:Nat->CV} (h:Shp Tryz.prog 2 22 f):∃(n:Nat) (g:Nat->Int),CLe (f 0) (.sv 1 n fun i _=>.i .i64 (g i))/\n*8<=reachBytes:=by
 have us:Tryz.prog.underlying 22=some (.slice 3):=by kernel_rfl
 have b:Tryz.prog.bytesOf 3=8:=by kernel_rfl
 have c:Tryz.prog.cellsOf 3=1:=by kernel_rfl
 obtain ⟨L,g,hg,_,hb,hi⟩:=Shp.slice 1 rfl h us
 obtain ⟨W,hW⟩:=Classical.axiomOfChoice (r:=fun (i:Nat) (q:Int)=>i<L->g i 0=.i .i64 q) (fun i=>by
  by_cases q:i<L
  · obtain ⟨x,hx,_⟩:=Shp.int 0 rfl (hi i q) u3
    exact ⟨x,fun _=>by simpa using hx⟩
  · exact ⟨0,fun h=>absurd h q⟩)
 rw [c] at hg
 rw [b] at hb
 refine ⟨L,W,?_,hb⟩
 rw [hg]
 refine CLe.sv fun i j a b=>?_
 obtain rfl:j=0:=by omega
 exact .of (hW i a)
end Go.Proofs.Sv
