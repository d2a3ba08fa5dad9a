/- Runs over unknown values, told by the kernel: part GF. -/
import Derived.Test.YtfpebgpcpoefpaaGreatDoorGE
noncomputable section
open Int (ofNat)
set_option linter.unusedSimpArgs false
set_option linter.unusedVariables false
set_option maxRecDepth 20000
namespace Go.Proofs.Cl
open Go Go.Sim Go.Proofs Go.Proofs.Cd Go.Proofs.St Go.Proofs.YtfpebgpcpoefpaaGreatDoor
theorem nat_of {x:Int} (h:0<=x):ofNat x.toNat=x:=by simp;omega
theorem fnc_at (c:CS) {sv:Int} (h:0<=sv/\sv<=2):fnc c sv=ofNat (mV c (2+sv.toNat)):=by
 have:sv=0\/sv=1\/sv=2:=by omega
 rcases this with rfl | rfl | rfl<;>rfl
theorem bQ_at {c:CS} (hn:c.n=129) {b:Int} (hb:0<=b/\b<=127):bQ c b=blkQ (c.d b.toNat)/\bD c b=blkD (c.d b.toNat):=by
 unfold bQ bD CS.getD
 rw [show decide (0<=b/\b<128)=true from decide_eq_true (by omega),show decide (0<=b/\b<ofNat c.n)=true by rw [hn];exact decide_eq_true ⟨hb.1,by have:=hb.2;show b<129;omega⟩]
 exact ⟨rfl,rfl⟩
set_option maxHeartbeats 4000000
theorem nw0_vq (c0:CS) (s0:SS) (c1:CS) (s1:SS) (c2:CS) (s2:SS):VD Tryz.prog 6 [.i .i64 1] [] (.inl (.inl (oc 6 (.inl (.c (.inl (.cal [] (.tup [.p 0 0,.i .i64 0]) [.set (SS.o s0)] (.c (.inl (.inl (oc 2 (.inl (.cal [2] (.tup [.p 1 0,.i .i64 0]) [.keep,.set (CS.roa c0 false)] (.c (.inl (oc 2 (.inl (.cal [6,2] (.i .i64 0) [.set (CS.ro c1 false),.set (SS.o s1)] (.c (.inl (oc 2 (.inl (.cal [6,2] (.i .i64 0) [.set (CS.ro c2 false),.set (SS.o s2)] (.c (.inl (oc 3 (.inl (.c .z)))))))))))))))))))))))))))) (.tup [.p 0 0,.i .i64 0]) [.set (cellsO 54 [.l 1 0 1 1 1 true]),.set (cellsD 55 [.p0] [.p 2 0]),.set (cellsO 81 [.p 3 0,.p 4 0]),.set s2.o,.set (.segs 177 772 [⟨1,1,1,oneF (.i .i64 (ofNat c2.n))⟩,⟨2,3,256,cellF c2.q c2.d c2.sp⟩,⟨770,1,1,oneF (.b c2.dead)⟩,⟨771,1,1,oneF (.b false)⟩] [(0,.p 3 0)])] [1,0,3,2,6] 7 (fun Lf=>True/\True/\Con Tryz.prog 42 [.i .i64 258] [] (.tup [.p 0 0,.i .i64 0]) [.set (SS.o s0)]/\True/\Con Tryz.prog 65 [.p 0 0] [some (SS.o s0)] (.tup [.p 1 0,.i .i64 0]) [.keep,.set (CS.roa c0 false)]/\True/\rg (1)/\True/\Con Tryz.prog 46 [.p 0 0,.i .i64 1] [some (CS.ro c0 false),some (SS.o s0)] (.i .i64 0) [.set (CS.ro c1 false),.set (SS.o s1)]/\rg (2)/\True/\Con Tryz.prog 48 [.p 0 0,.i .i64 1] [some (CS.ro c1 false),some (SS.o s1)] (.i .i64 0) [.set (CS.ro c2 false),.set (SS.o s2)]/\rg (3)/\True/\rg (1)/\Lf):=by unfold VD VQ;kernel_rfl
theorem nw_con (c0 c1 c2:CS) (s0 s1 s2:SS) (knew:Con Tryz.prog 42 [.i .i64 258] [] (.tup [.p 0 0,.i .i64 0]) [.set s0.o]) (kopn:Con Tryz.prog 65 [.p 0 0] [some s0.o] (.tup [.p 1 0,.i .i64 0]) [.keep,.set (c0.roa false)]) (kado:Con Tryz.prog 46 [.p 0 0,.i .i64 1] [some (c0.ro false),some s0.o] (.i .i64 0) [.set (c1.ro false),.set s1.o]) (kjoi:Con Tryz.prog 48 [.p 0 0,.i .i64 1] [some (c1.ro false),some s1.o] (.i .i64 0) [.set (c2.ro false),.set s2.o]):Con Tryz.prog 6 [.i .i64 1] [] (.tup [.p 0 0,.i .i64 0]) [.set (cellsO 54 [.l 1 0 1 1 1 true]),.set (cellsD 55 [.p0] [.p 2 0]),.set (cellsO 81 [.p 3 0,.p 4 0]),.set s2.o,.set (.segs 177 772 [⟨1,1,1,oneF (.i .i64 (ofNat c2.n))⟩,⟨2,3,256,cellF c2.q c2.d c2.sp⟩,⟨770,1,1,oneF (.b c2.dead)⟩,⟨771,1,1,oneF (.b false)⟩] [(0,.p 3 0)])]:=by
 exact con_d (nw0_vq (c0:=c0) (s0:=s0) (c1:=c1) (s1:=s1) (c2:=c2) (s2:=s2)) (by repeat' first | exact trivial | assumption | exact rfl | exact nT (by assumption) | exact nF (by assumption) | assumption | assumption | assumption | assumption | apply And.intro | decide)
theorem fs0_fq:VF Tryz.prog 7 [.i .i64 1] [] (Orc.inl (Orc.inl (oc 5 (Orc.inl (Orc.c (Orc.inl (Orc.inl (Orc.c Orc.z)))))))) ((.tup [.agg [.i .i64 1,.sv 1 1 (listF 1 [.i .i64
 0] 1),.sv 1 1 (listF 1 [.i .i64 1] 1)],.i .i64 0])) [] [3,5] [] (((True/\(0+1*1<=1/\(True/\True)))/\(True/\True))/\(((True/\(True/\(0+1*1<=1/\True)))/\
 (True/\True))/\True)) 6 (fun Lf=>True/\True/\True/\True/\True/\rg (1)/\Lf):=by unfold VF;kernel_rfl
theorem fs_con:Con Tryz.prog 7 [.i .i64 1] [] ((.tup [.agg [.i .i64 1,.sv 1 1 (listF 1 [.i .i64 0] 1),.sv 1 1 (listF 1 [.i .i64 1] 1)],.i .i64 0])) []:=by
 exact con_f (fs0_fq) (by simp) (by repeat' first | exact trivial | assumption | exact rfl | exact nT (by assumption) | exact nF (by assumption) | apply And.intro | decide)
set_option maxHeartbeats 4000000
theorem nnT {b:Bool} (h:b=true):(!!b)=true:=by rw [h];rfl
theorem nnF {b:Bool} (h:b=false):(!!b)=false:=by rw [h];rfl
theorem rdK0_vq (c:CS) (s:SS) (f0 f1 f2:Int) (q:Nat) (t:List Nat) (b:Int) (h1:decide (0<=b)=true) (h2:decide (b<=127)=true):VD Tryz.prog 49 [.p 0 0,.agg [.i .i64 1,.sv 1 1 (listF 1 [.i .i64 0] 1),.sv 1 1 (listF 1 [.i .i64 1] 1)],.i .i64 b] [some (cellsO 54 [.l 1 0 1 1 1 true]),some (cellsD 55 [.p0] [.p 2 0]),some (cellsO 81 [.p 3 0,.p 4 0]),some s.o,some (.segs 177 772 [⟨1,1,1,oneF (.i .i64 (ofNat c.n))⟩,⟨2,3,256,cellF c.q c.d c.sp⟩,⟨770,1,1,oneF (.b c.dead)⟩,⟨771,1,1,oneF (.b false)⟩] [(0,.p 3 0)])] (.inl (.inl (ot 4 (.inl (.c (ot 7 (.inl (.inl (oc 8 (.inl (.inl (oc 5 (.inl (.c (.inl (oc 9 (.inl (.inl (.inl (oc 3 (.inl (oc 14 (.inl (.inl (.inl (.c (.inl (.inl (oc 5 (.inl (oc 3 (.t (.f (.c (.inl (.c (.inl (oc 3 (.inl (.c (.inl (.inl (.inl (oc 2 (.inl (.inl (.inl (.inl (.inl (oc 2 (.inl (.inl (.c (.inl (oc 3 (.inl (oc 2 (.inl (.inl (.inl (.inl (.inl (oc 2 (.inl (.cal [4,3] (.agg [.i .i64 1,.i .i64 1,.i .i64 f0,.i .i64 f1,.i .i64 f2]) [.keep,.keep] (.c (.inl (oc 3 (.inl (oc 2 (.inl (.inl (.inl (.inl (.inl (oc 2 (.inl (.cal [4,3] (.agg [.i .i64 1,.i .i64 1,.i .i64 f0,.i .i64 f1,.i .i64 f2]) [.keep,.keep] (oc 3 (.inl (oc 2 (.inl (.inl (.inl (.inl (oc 2 (.inl (.inl (.inl (.cal [4,3] (.i .i64 0) [.keep,.keep] (oc 2 (.inl (oc 2 (.inl (oc 2 (.inl (.inl (.inl (oc 2 (.inl (.inl (.inl (.cal [4,3] (.agg [.i .i64 1,.i .i64 1,.i .i64 f0,.i .i64 f1,.i .i64 f2]) [.keep,.keep] (oc 2 (.inl (oc 2 (.inl (oc 2 (.inl (.c (.cal [4,3] (.agg [.i .i64 (ofNat q),.s t]) [.keep,.keep] .z))))))))))))))))))))))))))))))))))))))))))))))))))))))))))))))))))))))))))))))))))))))))))))))))))))))))))))))) (.tup [.agg [.i .i64 (ofNat q),.s t],.i .i64 0]) [.keep,.keep,.keep,.keep,.keep] [] 31 (fun Lf=>r4 (decide (0<=b)=true) (True/\True/\r4 ((!!decide (b<=127))=true) (True/\r3 ((!!decide (b<=127))=true) (True/\True/\True/\((0:Int)<=(0:Int)/\(0:Int)<(1:Int))/\True/\rg (0)/\True/\(True/\(0:Int)<=(0:Int)/\0<=0/\0<=1)/\rg (1)/\True/\True/\True/\((0:Int)<=(0:Int)/\(0:Int)<(1:Int))/\True/\True/\True/\rg (1)/\True/\(!!decide (b<=127))=true/\True/\(!decide (b<=127))=false/\True/\True/\((0:Int)<=(0:Int)/\(0:Int)<(1:Int))/\True/\True/\True/\((0:Int)<=(0:Int)/\(0:Int)<(1:Int))/\True/\rg (1)/\True/\True/\True/\True/\True/\rg (1)/\rg (1)/\True/\True/\Con Tryz.prog 68 [.p 0 0] [some (CS.ro c false),some (SS.o s)] (.agg [.i .i64 1,.i .i64 1,.i .i64 f0,.i .i64 f1,.i .i64 f2]) [.keep,.keep]/\rg (1)/\rg (2)/\rg (0)/\True/\True/\Con Tryz.prog 68 [.p 0 0] [some (CS.ro c false),some (SS.o s)] (.agg [.i .i64 1,.i .i64 1,.i .i64 f0,.i .i64 f1,.i .i64 f2]) [.keep,.keep]/\True/\True/\True/\True/\rg (3)/\True/\True/\Con Tryz.prog 46 [.p 0 0,.i .i64 1] [some (CS.ro c false),some (SS.o s)] (.i .i64 0) [.keep,.keep]/\rg (1)/\rg (4)/\True/\True/\Con Tryz.prog 68 [.p 0 0] [some (CS.ro c false),some (SS.o s)] (.agg [.i .i64 1,.i .i64 1,.i .i64 f0,.i .i64 f1,.i .i64 f2]) [.keep,.keep]/\True/\rg (1)/\rg (5)/\rg (0)/\True/\True/\Con Tryz.prog 75 [.p 0 0,.i .i64 b] [some (CS.ro c false),some (SS.o s)] (.agg [.i .i64 (ofNat q),.s t]) [.keep,.keep]/\Lf)))):=by unfold VD VQ;kernel_rfl
theorem rdK_con (c:CS) (s:SS) (f0 f1 f2:Int) (q:Nat) (t:List Nat) (b:Int) (kme:Con Tryz.prog 68 [.p 0 0] [some (c.ro false),some s.o] (.agg [.i .i64 1,.i .i64 1,.i .i64 f0,.i .i64 f1,.i .i64 f2]) [.keep,.keep]) (kad:Con Tryz.prog 46 [.p 0 0,.i .i64 1] [some (c.ro false),some s.o] (.i .i64 0) [.keep,.keep]) (kbl:Con Tryz.prog 75 [.p 0 0,.i .i64 b] [some (c.ro false),some s.o] (.agg [.i .i64 (ofNat q),.s t]) [.keep,.keep]) (h1:decide (0<=b)=true) (h2:decide (b<=127)=true):Con Tryz.prog 49 [.p 0 0,.agg [.i .i64 1,.sv 1 1 (listF 1 [.i .i64 0] 1),.sv 1 1 (listF 1 [.i .i64 1] 1)],.i .i64 b] [some (cellsO 54 [.l 1 0 1 1 1 true]),some (cellsD 55 [.p0] [.p 2 0]),some (cellsO 81 [.p 3 0,.p 4 0]),some s.o,some (.segs 177 772 [⟨1,1,1,oneF (.i .i64 (ofNat c.n))⟩,⟨2,3,256,cellF c.q c.d c.sp⟩,⟨770,1,1,oneF (.b c.dead)⟩,⟨771,1,1,oneF (.b false)⟩] [(0,.p 3 0)])] (.tup [.agg [.i .i64 (ofNat q),.s t],.i .i64 0]) [.keep,.keep,.keep,.keep,.keep]:=by
 exact con_d (rdK0_vq (c:=c) (s:=s) (f0:=f0) (f1:=f1) (f2:=f2) (q:=q) (t:=t) (b:=b) (h1:=h1) (h2:=h2)) (by repeat' first | exact trivial | assumption | exact rfl | exact nT (by assumption) | exact nF (by assumption) | assumption | assumption | assumption | assumption | exact rfl | exact nnT (by assumption) | exact nnF (by assumption) | (simp;omega) | omega | apply And.intro | decide)
theorem wrO0_vq (c:CS) (s:SS) (cc:CS) (ss:SS) (rr:Bool) (E f0 f1 f2:Int) (q:Nat) (t:List Nat) (b:Int) (d:List Nat) (v g:Int) (h1:decide (0<=b)=true) (h2:decide (b<=127)=true) (h3:decide (ofNat (List.length d)<=44)=true) (h4:decide (0<=v)=true) (h5:decide (v<=2)=true) (h6:decide (1<=g)=true) (h7:decide (g<=1099511627776)=true) (h8:decide (1099511627776<=ofNat q)=false) (h9:decide (E=13)=false) (h0:decide (E=0)=true):VD Tryz.prog 59 [.p 0 0,.agg [.i .i64 1,.sv 1 1 (listF 1 [.i .i64 0] 1),.sv 1 1 (listF 1 [.i .i64 1] 1)],.i .i64 b,.s d,.i .i64 v,.i .i64 g] [some (cellsO 54 [.l 1 0 1 1 1 true]),some (cellsD 55 [.p0] [.p 2 0]),some (cellsO 81 [.p 3 0,.p 4 0]),some s.o,some (.segs 177 772 [⟨1,1,1,oneF (.i .i64 (ofNat c.n))⟩,⟨2,3,256,cellF c.q c.d c.sp⟩,⟨770,1,1,oneF (.b c.dead)⟩,⟨771,1,1,oneF (.b false)⟩] [(0,.p 3 0)])] (.inl (.inl (ot 10 (.inl (.inl (ot 7 (.inl (.inl (ot 5 (.inl (.c (ot 7 (.inl (.inl (oc 8 (.inl (.inl (oc 5 (.inl (.c (.inl (oc 9 (.inl (.inl (.inl (oc 3 (.inl (oc 14 (.inl (.inl (.inl (.c (.inl (.inl (oc 5 (.inl (oc 3 (.t (.f (.c (.inl (.c (.inl (oc 3 (.inl (.c (.inl (.inl (.inl (oc 2 (.inl (.inl (.inl (.inl (.inl (oc 2 (.inl (.inl (.c (.inl (oc 3 (.inl (oc 2 (.inl (.inl (.inl (.inl (.inl (oc 2 (.inl (.cal [4,3] (.agg [.i .i64 1,.i .i64 1,.i .i64 f0,.i .i64 f1,.i .i64 f2]) [.keep,.keep] (.c (.inl (oc 3 (.inl (oc 2 (.inl (.inl (.inl (.inl (.inl (oc 2 (.inl (.cal [4,3] (.agg [.i .i64 1,.i .i64 1,.i .i64 f0,.i .i64 f1,.i .i64 f2]) [.keep,.keep] (oc 3 (.inl (oc 2 (.inl (.inl (.inl (.inl (oc 2 (.inl (.inl (.inl (.cal [4,3] (.i .i64 0) [.keep,.keep] (oc 2 (.inl (oc 2 (.inl (oc 2 (.inl (.inl (.inl (oc 2 (.inl (.inl (.inl (.cal [4,3] (.agg [.i .i64 1,.i .i64 1,.i .i64 f0,.i .i64 f1,.i .i64 f2]) [.keep,.keep] (oc 2 (.inl (oc 2 (.inl (oc 2 (.inl (.c (.cal [4,3] (.agg [.i .i64 (ofNat q),.s t]) [.keep,.keep] (.f (.inl (.inl (.inl (oc 2 (.inl (.inl (.inl (.cal [4,3] (.i .i64 E) [.set (CS.ro cc rr),.set (SS.o ss)] (.f (.f (.inl (.c .z)))))))))))))))))))))))))))))))))))))))))))))))))))))))))))))))))))))))))))))))))))))))))))))))))))))))))))))))))))))))))))))))))) (.i .i64 0) [.keep,.keep,.keep,.set ss.o,.set (.segs 177 772 [⟨1,1,1,oneF (.i .i64 (ofNat cc.n))⟩,⟨2,3,256,cellF cc.q cc.d cc.sp⟩,⟨770,1,1,oneF (.b cc.dead)⟩,⟨771,1,1,oneF (.b rr)⟩] [(0,.p 3 0)])] [] 38 (fun Lf=>r4 (decide (0<=b)=true) (r4 (decide (b<=127)=true) (r2 (decide (ofNat (List.length d)<=44)=true) (r4 (decide (0<=v)=true) (decide (ofNat (List.length d)<=44)=true/\r2 (decide (v<=2)=true) (r4 (decide (1<=g)=true) (decide (v<=2)=true/\True/\True/\r4 ((!!decide (g<=1099511627776))=true) (True/\r3 ((!!decide (g<=1099511627776))=true) (True/\True/\True/\((0:Int)<=(0:Int)/\(0:Int)<(1:Int))/\True/\rg (0)/\True/\(True/\(0:Int)<=(0:Int)/\0<=0/\0<=1)/\rg (1)/\True/\True/\True/\((0:Int)<=(0:Int)/\(0:Int)<(1:Int))/\True/\True/\True/\rg (1)/\True/\(!!decide (g<=1099511627776))=true/\True/\(!decide (g<=1099511627776))=false/\True/\True/\((0:Int)<=(0:Int)/\(0:Int)<(1:Int))/\True/\True/\True/\((0:Int)<=(0:Int)/\(0:Int)<(1:Int))/\True/\rg (1)/\True/\True/\True/\True/\True/\rg (1)/\rg (1)/\True/\True/\Con Tryz.prog 68 [.p 0 0] [some (CS.ro c false),some (SS.o s)] (.agg [.i .i64 1,.i .i64 1,.i .i64 f0,.i .i64 f1,.i .i64 f2]) [.keep,.keep]/\rg (1)/\rg (2)/\rg (0)/\True/\True/\Con Tryz.prog 68 [.p 0 0] [some (CS.ro c false),some (SS.o s)] (.agg [.i .i64 1,.i .i64 1,.i .i64 f0,.i .i64 f1,.i .i64 f2]) [.keep,.keep]/\True/\True/\True/\True/\rg (3)/\True/\True/\Con Tryz.prog 46 [.p 0 0,.i .i64 1] [some (CS.ro c false),some (SS.o s)] (.i .i64 0) [.keep,.keep]/\rg (1)/\rg (4)/\True/\True/\Con Tryz.prog 68 [.p 0 0] [some (CS.ro c false),some (SS.o s)] (.agg [.i .i64 1,.i .i64 1,.i .i64 f0,.i .i64 f1,.i .i64 f2]) [.keep,.keep]/\True/\rg (1)/\rg (5)/\True/\True/\Con Tryz.prog 75 [.p 0 0,.i .i64 b] [some (CS.ro c false),some (SS.o s)] (.agg [.i .i64 (ofNat q),.s t]) [.keep,.keep]/\True/\decide (1099511627776<=ofNat q)=false/\True/\rg (ofNat q+1)/\True/\True/\Con Tryz.prog 95 [.p 0 0,.i .i64 b,.agg [.i .i64 (ofNat q+1),.s d],.i .i64 v,.i .i64 g] [some (CS.ro c false),some (SS.o s)] (.i .i64 E) [.set (CS.ro cc rr),.set (SS.o ss)]/\decide (E=13)=false/\(!decide (E=0))=false/\rg (1)/\Lf))))))))):=by unfold VD VQ;kernel_rfl
theorem wrO_con (c:CS) (s:SS) (f0 f1 f2:Int) (q:Nat) (t:List Nat) (b:Int) (d:List Nat) (v g E:Int) (cc:CS) (ss:SS) (rr:Bool) (kme:Con Tryz.prog 68 [.p 0 0] [some (c.ro false),some s.o] (.agg [.i .i64 1,.i .i64 1,.i .i64 f0,.i .i64 f1,.i .i64 f2]) [.keep,.keep]) (kad:Con Tryz.prog 46 [.p 0 0,.i .i64 1] [some (c.ro false),some s.o] (.i .i64 0) [.keep,.keep]) (kbl:Con Tryz.prog 75 [.p 0 0,.i .i64 b] [some (c.ro false),some s.o] (.agg [.i .i64 (ofNat q),.s t]) [.keep,.keep]) (kap:Con Tryz.prog 95 [.p 0 0,.i .i64 b,.agg [.i .i64 (ofNat q+1),.s d],.i .i64 v,.i .i64 g] [some (c.ro false),some s.o] (.i .i64 E) [.set (cc.ro rr),.set ss.o]) (h1:decide (0<=b)=true) (h2:decide (b<=127)=true) (h3:decide (ofNat (List.length d)<=44)=true) (h4:decide (0<=v)=true) (h5:decide (v<=2)=true) (h6:decide (1<=g)=true) (h7:decide (g<=1099511627776)=true) (h8:decide (1099511627776<=ofNat q)=false) (h9:decide (E=13)=false) (h0:decide (E=0)=true):Con Tryz.prog 59 [.p 0 0,.agg [.i .i64 1,.sv 1 1 (listF 1 [.i .i64 0] 1),.sv 1 1 (listF 1 [.i .i64 1] 1)],.i .i64 b,.s d,.i .i64 v,.i .i64 g] [some (cellsO 54 [.l 1 0 1 1 1 true]),some (cellsD 55 [.p0] [.p 2 0]),some (cellsO 81 [.p 3 0,.p 4 0]),some s.o,some (.segs 177 772 [⟨1,1,1,oneF (.i .i64 (ofNat c.n))⟩,⟨2,3,256,cellF c.q c.d c.sp⟩,⟨770,1,1,oneF (.b c.dead)⟩,⟨771,1,1,oneF (.b false)⟩] [(0,.p 3 0)])] (.i .i64 0) [.keep,.keep,.keep,.set ss.o,.set (.segs 177 772 [⟨1,1,1,oneF (.i .i64 (ofNat cc.n))⟩,⟨2,3,256,cellF cc.q cc.d cc.sp⟩,⟨770,1,1,oneF (.b cc.dead)⟩,⟨771,1,1,oneF (.b rr)⟩] [(0,.p 3 0)])]:=by
 have hq:¬((1099511627776:Int)<=ofNat q):=of_decide_eq_false h8
 have hr:(0:Int)<=ofNat q:=by simp
 exact con_d (wrO0_vq (c:=c) (s:=s) (cc:=cc) (ss:=ss) (rr:=rr) (E:=E) (f0:=f0) (f1:=f1) (f2:=f2) (q:=q) (t:=t) (b:=b) (d:=d) (v:=v) (g:=g) (h1:=h1) (h2:=h2) (h3:=h3) (h4:=h4) (h5:=h5) (h6:=h6) (h7:=h7) (h8:=h8) (h9:=h9) (h0:=h0)) (by repeat' first | exact trivial | assumption | exact rfl | exact nT (by assumption) | exact nF (by assumption) | assumption | assumption | assumption | assumption | exact rfl | exact nnT (by assumption) | exact nnF (by assumption) | omega | apply And.intro | decide)
theorem wrX0_vq (c:CS) (s:SS) (cc:CS) (ss:SS) (rr:Bool) (E f0 f1 f2:Int) (q:Nat) (t:List Nat) (b:Int) (d:List Nat) (v g:Int) (h1:decide (0<=b)=true) (h2:decide (b<=127)=true) (h3:decide (ofNat (List.length d)<=44)=true) (h4:decide (0<=v)=true) (h5:decide (v<=2)=true) (h6:decide (1<=g)=true) (h7:decide (g<=1099511627776)=true) (h8:decide (1099511627776<=ofNat q)=false) (h9:decide (E=13)=true):VD Tryz.prog 59 [.p 0 0,.agg [.i .i64 1,.sv 1 1 (listF 1 [.i .i64 0] 1),.sv 1 1 (listF 1 [.i .i64 1] 1)],.i .i64 b,.s d,.i .i64 v,.i .i64 g] [some (cellsO 54 [.l 1 0 1 1 1 true]),some (cellsD 55 [.p0] [.p 2 0]),some (cellsO 81 [.p 3 0,.p 4 0]),some s.o,some (.segs 177 772 [⟨1,1,1,oneF (.i .i64 (ofNat c.n))⟩,⟨2,3,256,cellF c.q c.d c.sp⟩,⟨770,1,1,oneF (.b c.dead)⟩,⟨771,1,1,oneF (.b false)⟩] [(0,.p 3 0)])] (.inl (.inl (ot 10 (.inl (.inl (ot 7 (.inl (.inl (ot 5 (.inl (.c (ot 7 (.inl (.inl (oc 8 (.inl (.inl (oc 5 (.inl (.c (.inl (oc 9 (.inl (.inl (.inl (oc 3 (.inl (oc 14 (.inl (.inl (.inl (.c (.inl (.inl (oc 5 (.inl (oc 3 (.t (.f (.c (.inl (.c (.inl (oc 3 (.inl (.c (.inl (.inl (.inl (oc 2 (.inl (.inl (.inl (.inl (.inl (oc 2 (.inl (.inl (.c (.inl (oc 3 (.inl (oc 2 (.inl (.inl (.inl (.inl (.inl (oc 2 (.inl (.cal [4,3] (.agg [.i .i64 1,.i .i64 1,.i .i64 f0,.i .i64 f1,.i .i64 f2]) [.keep,.keep] (.c (.inl (oc 3 (.inl (oc 2 (.inl (.inl (.inl (.inl (.inl (oc 2 (.inl (.cal [4,3] (.agg [.i .i64 1,.i .i64 1,.i .i64 f0,.i .i64 f1,.i .i64 f2]) [.keep,.keep] (oc 3 (.inl (oc 2 (.inl (.inl (.inl (.inl (oc 2 (.inl (.inl (.inl (.cal [4,3] (.i .i64 0) [.keep,.keep] (oc 2 (.inl (oc 2 (.inl (oc 2 (.inl (.inl (.inl (oc 2 (.inl (.inl (.inl (.cal [4,3] (.agg [.i .i64 1,.i .i64 1,.i .i64 f0,.i .i64 f1,.i .i64 f2]) [.keep,.keep] (oc 2 (.inl (oc 2 (.inl (oc 2 (.inl (.c (.cal [4,3] (.agg [.i .i64 (ofNat q),.s t]) [.keep,.keep] (.f (.inl (.inl (.inl (oc 2 (.inl (.inl (.inl (.cal [4,3] (.i .i64 E) [.set (CS.ro cc rr),.set (SS.o ss)] (.t (.c .z)))))))))))))))))))))))))))))))))))))))))))))))))))))))))))))))))))))))))))))))))))))))))))))))))))))))))))))))))))))))))))))))) (.i .i64 24) [.keep,.keep,.set (cellsO 81 [.p 3 0,.p0]),.set ss.o,.set (.segs 177 772 [⟨1,1,1,oneF (.i .i64 (ofNat cc.n))⟩,⟨2,3,256,cellF cc.q cc.d cc.sp⟩,⟨770,1,1,oneF (.b cc.dead)⟩,⟨771,1,1,oneF (.b rr)⟩] [(0,.p 3 0)])] [] 38 (fun Lf=>r4 (decide (0<=b)=true) (r4 (decide (b<=127)=true) (r2 (decide (ofNat (List.length d)<=44)=true) (r4 (decide (0<=v)=true) (decide (ofNat (List.length d)<=44)=true/\r2 (decide (v<=2)=true) (r4 (decide (1<=g)=true) (decide (v<=2)=true/\True/\True/\r4 ((!!decide (g<=1099511627776))=true) (True/\r3 ((!!decide (g<=1099511627776))=true) (True/\True/\True/\((0:Int)<=(0:Int)/\(0:Int)<(1:Int))/\True/\rg (0)/\True/\(True/\(0:Int)<=(0:Int)/\0<=0/\0<=1)/\rg (1)/\True/\True/\True/\((0:Int)<=(0:Int)/\(0:Int)<(1:Int))/\True/\True/\True/\rg (1)/\True/\(!!decide (g<=1099511627776))=true/\True/\(!decide (g<=1099511627776))=false/\True/\True/\((0:Int)<=(0:Int)/\(0:Int)<(1:Int))/\True/\True/\True/\((0:Int)<=(0:Int)/\(0:Int)<(1:Int))/\True/\rg (1)/\True/\True/\True/\True/\True/\rg (1)/\rg (1)/\True/\True/\Con Tryz.prog 68 [.p 0 0] [some (CS.ro c false),some (SS.o s)] (.agg [.i .i64 1,.i .i64 1,.i .i64 f0,.i .i64 f1,.i .i64 f2]) [.keep,.keep]/\rg (1)/\rg (2)/\rg (0)/\True/\True/\Con Tryz.prog 68 [.p 0 0] [some (CS.ro c false),some (SS.o s)] (.agg [.i .i64 1,.i .i64 1,.i .i64 f0,.i .i64 f1,.i .i64 f2]) [.keep,.keep]/\True/\True/\True/\True/\rg (3)/\True/\True/\Con Tryz.prog 46 [.p 0 0,.i .i64 1] [some (CS.ro c false),some (SS.o s)] (.i .i64 0) [.keep,.keep]/\rg (1)/\rg (4)/\True/\True/\Con Tryz.prog 68 [.p 0 0] [some (CS.ro c false),some (SS.o s)] (.agg [.i .i64 1,.i .i64 1,.i .i64 f0,.i .i64 f1,.i .i64 f2]) [.keep,.keep]/\True/\rg (1)/\rg (5)/\True/\True/\Con Tryz.prog 75 [.p 0 0,.i .i64 b] [some (CS.ro c false),some (SS.o s)] (.agg [.i .i64 (ofNat q),.s t]) [.keep,.keep]/\True/\decide (1099511627776<=ofNat q)=false/\True/\rg (ofNat q+1)/\True/\True/\Con Tryz.prog 95 [.p 0 0,.i .i64 b,.agg [.i .i64 (ofNat q+1),.s d],.i .i64 v,.i .i64 g] [some (CS.ro c false),some (SS.o s)] (.i .i64 E) [.set (CS.ro cc rr),.set (SS.o ss)]/\decide (E=13)=true/\True/\Lf))))))))):=by unfold VD VQ;kernel_rfl
theorem wrX_con (c:CS) (s:SS) (f0 f1 f2:Int) (q:Nat) (t:List Nat) (b:Int) (d:List Nat) (v g E:Int) (cc:CS) (ss:SS) (rr:Bool) (kme:Con Tryz.prog 68 [.p 0 0] [some (c.ro false),some s.o] (.agg [.i .i64 1,.i .i64 1,.i .i64 f0,.i .i64 f1,.i .i64 f2]) [.keep,.keep]) (kad:Con Tryz.prog 46 [.p 0 0,.i .i64 1] [some (c.ro false),some s.o] (.i .i64 0) [.keep,.keep]) (kbl:Con Tryz.prog 75 [.p 0 0,.i .i64 b] [some (c.ro false),some s.o] (.agg [.i .i64 (ofNat q),.s t]) [.keep,.keep]) (kap:Con Tryz.prog 95 [.p 0 0,.i .i64 b,.agg [.i .i64 (ofNat q+1),.s d],.i .i64 v,.i .i64 g] [some (c.ro false),some s.o] (.i .i64 E) [.set (cc.ro rr),.set ss.o]) (h1:decide (0<=b)=true) (h2:decide (b<=127)=true) (h3:decide (ofNat (List.length d)<=44)=true) (h4:decide (0<=v)=true) (h5:decide (v<=2)=true) (h6:decide (1<=g)=true) (h7:decide (g<=1099511627776)=true) (h8:decide (1099511627776<=ofNat q)=false) (h9:decide (E=13)=true):Con Tryz.prog 59 [.p 0 0,.agg [.i .i64 1,.sv 1 1 (listF 1 [.i .i64 0] 1),.sv 1 1 (listF 1 [.i .i64 1] 1)],.i .i64 b,.s d,.i .i64 v,.i .i64 g] [some (cellsO 54 [.l 1 0 1 1 1 true]),some (cellsD 55 [.p0] [.p 2 0]),some (cellsO 81 [.p 3 0,.p 4 0]),some s.o,some (.segs 177 772 [⟨1,1,1,oneF (.i .i64 (ofNat c.n))⟩,⟨2,3,256,cellF c.q c.d c.sp⟩,⟨770,1,1,oneF (.b c.dead)⟩,⟨771,1,1,oneF (.b false)⟩] [(0,.p 3 0)])] (.i .i64 24) [.keep,.keep,.set (cellsO 81 [.p 3 0,.p0]),.set ss.o,.set (.segs 177 772 [⟨1,1,1,oneF (.i .i64 (ofNat cc.n))⟩,⟨2,3,256,cellF cc.q cc.d cc.sp⟩,⟨770,1,1,oneF (.b cc.dead)⟩,⟨771,1,1,oneF (.b rr)⟩] [(0,.p 3 0)])]:=by
 have hq:¬((1099511627776:Int)<=ofNat q):=of_decide_eq_false h8
 have hr:(0:Int)<=ofNat q:=by simp
 exact con_d (wrX0_vq (c:=c) (s:=s) (cc:=cc) (ss:=ss) (rr:=rr) (E:=E) (f0:=f0) (f1:=f1) (f2:=f2) (q:=q) (t:=t) (b:=b) (d:=d) (v:=v) (g:=g) (h1:=h1) (h2:=h2) (h3:=h3) (h4:=h4) (h5:=h5) (h6:=h6) (h7:=h7) (h8:=h8) (h9:=h9)) (by repeat' first | exact trivial | assumption | exact rfl | exact nT (by assumption) | exact nF (by assumption) | assumption | assumption | assumption | assumption | exact rfl | exact nnT (by assumption) | exact nnF (by assumption) | omega | apply And.intro | decide)
theorem vQ_new (n a:Nat):vQ (SS.new n) a=0:=by
 have e:vQ (SS.new n) a=vQ (SS.new 258) 0:=rfl
 have z:vQ (SS.new 258) 0=0:=by kernel_rfl
 rw [e,z]
theorem op_new {j:Nat} (hj:j<129):opQ (SS.new 258) j=0/\opD (SS.new 258) j=[]:=by
 obtain ⟨a1,a2,_⟩:=op_v (s:=SS.new 258) rfl rfl (i:=j) (by show 2*j+1<258;omega)
 rw [vQ_new,vQ_new] at a1
 rw [vQ_new,vQ_new,v_zero _ _ (vQ_new 258 (2*j)),v_zero _ _ (vQ_new 258 (2*j+1))] at a2
 exact ⟨a1,a2⟩
theorem act_put {F:FuncId} {args:List AV} {c:CS} {s:SS} {i w:Int} {x y:List Nat} (h:Act F args w c false s i x) (hw:w=-1) (hx:x=y) (he:c.putE s i y=0) :
 Con Tryz.prog F args [some (c.ro false),some s.o] (.i .i64 0) [.set ((c.putC s i y).ro false),.set (c.putS s i y).o]:=by
 subst hw hx
 obtain ⟨e1,e2,e3,e4⟩:=act_yes c false s i x
 unfold Act at h
 rw [e1,e2,e3,e4,he] at h
 exact h
theorem act_same {F:FuncId} {args:List AV} {c:CS} {s:SS} {i w v:Int} {x:List Nat} (h:Act F args w c false s i x) (hw:w=v) (hv:v≠-1) :
 Con Tryz.prog F args [some (c.ro false),some s.o] (.i .i64 v) [.set (c.ro false),.set s.o]:=by
 subst hw
 obtain ⟨e1,e2,e3,e4⟩:=act_no hv c false s i x
 unfold Act at h
 rw [e1,e2,e3,e4] at h
 exact h
theorem wrS_un {s:SS} (ho:s.off=false) (ha:s.armed=false) (a:Int) (L:Nat) (bs:Nat->Int):(s.wrS a L bs).armed=false/\(s.wrS a L bs).off=false:=by
 unfold SS.wrS
 rw [ho]
 cases decide (0<=a/\a<ofNat s.n/\L=64) with
 | false=>exact ⟨ha,ho⟩
 | true=>
   show ((s.wrote a.toNat bs).pay).armed=false/\((s.wrote a.toNat bs).pay).off=false
   unfold SS.pay
   rw [show (s.wrote a.toNat bs).armed=false from ha]
   exact ⟨ha,ho⟩
theorem bar_un {s:SS} (ho:s.off=false) (ha:s.armed=false):s.bar.armed=false/\s.bar.off=false:=by
 unfold SS.bar
 rw [ho]
 exact ⟨ha,ho⟩
theorem cm_un {s:SS} (ho:s.off=false) (ha:s.armed=false) (a q:Int) (d:List Nat):(cmS s a q d).armed=false/\(cmS s a q d).off=false:=by
 have w:=wrS_un ho ha a 64 (fun k=>ofNat (sectB q.toNat d k))
 unfold cmS
 cases decide (s.wrE a 64=0) with
 | true=>exact bar_un w.2 w.1
 | false=>exact w
theorem putS_un {c:CS} {s:SS} (ho:s.off=false) (ha:s.armed=false) (i:Int) (x:List Nat):(c.putS s i x).armed=false/\(c.putS s i x).off=false:=by
 unfold CS.putS
 cases decide (c.no i x=0) with
 | false=>exact ⟨ha,ho⟩
 | true=>exact cm_un ho ha _ _ _
structure LI (k:Nat) (c:CS) (s:SS):Prop where
 R:RvI k c s
 T:Txt c
 A:s.armed=false
theorem LI.new:LI 0 (opened (SS.new 258) 129) (SS.new 258):=by
 have R:RvI 0 (opened (SS.new 258) 129) (SS.new 258):=.opened (by decide) (OkM.new (by decide)) (Byt.new 258) rfl rfl rfl fun j hj=>Nat.le_of_eq (op_new hj).1
 exact ⟨R,.opened fun j hj=>(by
  show (∀b∈opD (SS.new 258) j,b<256)/\(opD (SS.new 258) j).length<=51
  rw [(op_new hj).2];exact ⟨fun b hb=>(by cases hb),by decide⟩),rfl⟩
theorem LI.put {k:Nat} {c:CS} {s:SS} (h:LI k c s) (hk:k<1001) (i:Nat) (hi:i<129) (x:List Nat) (hx:∀b∈x,b<256) (hl:x.length<=51) :
 c.putE s (ofNat i) x=0/\LI (k+1) (c.putC s (ofNat i) x) (c.putS s (ofNat i) x)/\(c.putC s (ofNat i) x).d i=x/\∀j,j≠i->(c.putC s (ofNat i) x).d j=c.d j:=by
 have un:=putS_un (c:=c) h.R.off h.A (ofNat i) x
 rcases h.R.put hk (ofNat i) x hx with ⟨p1,p2,p3⟩ | ⟨_,p1,p2,p3⟩ | ⟨p1,p2,_⟩
 · exfalso
   have hk2:c.q (ofNat i).toNat<=k:=h.R.q i hi
   rcases put_or h.R.inv h.R.dead h.R.off h.R.P (i:=ofNat i) ⟨by simp,by rw [h.R.n];simp;omega⟩ hl (by omega) hx with ⟨e1,_⟩ | ⟨e1,_⟩<;>rw [e1] at p1<;>cases p1
 · refine ⟨p1,⟨p2,h.T.put s _ hx,un.1⟩,?_,fun j hj=>?_⟩
   · rw [p3];unfold tookD;simp
   · rw [p3];unfold tookD;rw [show Nat.beq j (ofNat i).toNat=false by rw [Bool.eq_false_iff,ne_eq,Nat.beq_eq];exact hj];rfl
 · rw [un.2] at p2;cases p2
structure LV (k:Nat) (c:CS) (s:SS):Prop where
 L:LI k c s
 m:c.d 128=[1,1,0,0,0]
theorem LV.mv5 {k:Nat} {c:CS} {s:SS} (h:LV k c s):mV c 0=1/\mV c 1=1/\mV c 2=0/\mV c 3=0/\mV c 4=0:=by
 have e:=mV_eq (c:=c) h.L.R.n
 rw [e,e,e,e,e,h.m]
 exact ⟨by kernel_rfl,by kernel_rfl,by kernel_rfl,by kernel_rfl,by kernel_rfl⟩
theorem LV.kme {k:Nat} {c:CS} {s:SS} (h:LV k c s):Con Tryz.prog 68 [.p 0 0] [some (c.ro false),some s.o] (.agg [.i .i64 1,.i .i64 1,.i .i64 0,.i .i64 0,.i .i64 0]) [.keep,.keep]:=by
 have q:=meta_con c false s h.L.T
 obtain ⟨a,b,d,e,f⟩:=h.mv5
 rw [a,b,d,e,f] at q
 exact q
theorem LV.kad {k:Nat} {c:CS} {s:SS} (h:LV k c s):Con Tryz.prog 46 [.p 0 0,.i .i64 1] [some (c.ro false),some s.o] (.i .i64 0) [.keep,.keep]:=by
 have hk:=h.L.R.hk
 have a:=adoptI_con h.L.R.inv h.L.T (by omega) false 1
 have w:adoptI c false 1=0:=by
  unfold adoptI adoptW
  rw [show (1:Int).toNat=1 from rfl,h.mv5.1];rfl
 exact (act_same a w (by decide)).post (.refl _) (OVL.refl _)
end Go.Proofs.Cl
namespace Go.Proofs.Cl
open Go Go.Sim Go.Proofs Go.Proofs.Cd Go.Proofs.YtfpebgpcpoefpaaGreatDoor
theorem txR_lq (k:Nat) (g:Nat->Int) (t:List Nat) (i:Nat) (h:decide (ofNat i<ofNat t.length)=true):LD Tryz.prog (loopAt Tryz.prog 84 0) 16 2 [(0,.s t),(1,.fn (.func 83) [.p 0 0] []),(6,.i .i64 (ofNat t.length)),(7,.i .i64 (ofNat i))] [some (wO k),some (shO 2 k),some (.rows 5 1 k (Cl.iF g))] (.t (.cal [0,1,2] (.tup []) [.set (wO (k+1)),.set (shO 3 (k+1)),.gone,.set (AObj.rows 5 1 (k+1) (iF (lyB g k (ofNat (List.getD t i 0)))))] .z)) .nrm [0,1,3] [(0,.s t),(1,.fn (.func 83) [.p 0 0] []),(6,.i .i64 (ofNat t.length)),(7,.i .i64 (ofNat i+1))] [some (wO (k+1)),some (shO 2 (k+1)),some (.rows 5 1 (k+1) (Cl.iF (lyB g k (ofNat (List.getD t i 0)))))] 4 (fun Lf=>decide (ofNat i<ofNat (List.length t))=true/\(0<=ofNat i/\ofNat i<↑(List.length t))/\Con Tryz.prog 83 [.p 0 0,.i .u8 (ofNat (List.getD t i 0))] [some (wO k),some (shO 2 k),some (AObj.rows 5 1 k (iF g))] (.tup []) [.set (wO (k+1)),.set (shO 3 (k+1)),.gone,.set (AObj.rows 5 1 (k+1) (iF (lyB g k (ofNat (List.getD t i 0)))))]/\rg (ofNat i+1)/\Lf):=by unfold LD LQ;kernel_rfl
theorem txE_lq (k:Nat) (g:Nat->Int) (t:List Nat) (i:Nat) (h:decide (ofNat i<ofNat t.length)=false):LD Tryz.prog (loopAt Tryz.prog 84 0) 16 2 [(0,.s t),(1,.fn (.func 83) [.p 0 0] []),(6,.i .i64 (ofNat t.length)),(7,.i .i64 (ofNat i))] [some (wO k),some (shO 2 k),some (.rows 5 1 k (Cl.iF g))] (.f .z) (.exit 0) [0,1,2] [] [some (wO k),some (shO 2 k),some (.rows 5 1 k (Cl.iF g))] 3 (fun Lf=>decide (ofNat i<ofNat (List.length t))=false/\Lf):=by unfold LD LQ;kernel_rfl
theorem tx_vq (k:Nat) (g:Nat->Int) (t:List Nat) (KK:Nat) (G H:Nat->Int):VD Tryz.prog 55 [.p 0 0,.s t] [some (wO k),some (shO 2 k),some (.rows 5 1 k (Cl.iF g))] (.c (.cal [0,1,2] (.tup []) [.set (wO KK),.set (shO 3 KK),.gone,.set (AObj.rows 5 1 KK (iF G))] (.inl (.lop [0,1,3] [0,1,6,7] 2 (.exit 0) [] [some (wO (KK+List.length t)),some (shO 2 (KK+List.length t)),some (AObj.rows 5 1 (KK+List.length t) (iF H))] .z)))) (.tup []) [.set (wO (KK+t.length)),.set (shO 3 (KK+t.length)),.gone,.set (.rows 5 1 (KK+t.length) (Cl.iF H))] [4] 5 (fun Lf=>True/\Con Tryz.prog 54 [.p 0 0,.i .i64 (ofNat (List.length t))] [some (wO k),some (shO 2 k),some (AObj.rows 5 1 k (iF g))] (.tup []) [.set (wO KK),.set (shO 3 KK),.gone,.set (AObj.rows 5 1 KK (iF G))]/\LDoes Tryz.prog (loopAt Tryz.prog 84 0) 16 2 (mkT [(0,.s t),(1,AV.fn (Fn.func 83) [.p 0 0] []),(6,.i .i64 (ofNat (List.length t))),(7,.i .i64 0)]) [some (wO KK),some (shO 2 KK),some (AObj.rows 5 1 KK (iF G))] (.exit 0) (mkT []) [some (wO (KK+List.length t)),some (shO 2 (KK+List.length t)),some (AObj.rows 5 1 (KK+List.length t) (iF H))]/\Lf):=by unfold VD VQ;kernel_rfl
def txG (g:Nat->Int) (K:Nat) (t:List Nat):Nat->Int:=fun j=>bif Nat.blt j K then g j else ofNat (t.getD (j-K) 0)
theorem txG_lo {g:Nat->Int} {K:Nat} {t:List Nat} {j:Nat} (h:j<K):txG g K t j=g j:=by
 unfold txG;rw [show Nat.blt j K=true by rw [Nat.blt_eq];exact h];rfl
theorem txG_hi {g:Nat->Int} {K:Nat} {t:List Nat} (j:Nat):txG g K t (K+j)=ofNat (t.getD j 0):=by
 unfold txG;rw [show Nat.blt (K+j) K=false by rw [Bool.eq_false_iff,ne_eq,Nat.blt_eq];omega,cond_false,Nat.add_sub_cancel_left]
theorem tx_lp (K:Nat) (g:Nat->Int) (t:List Nat) (hk:K+t.length<=1073741000):LDoes Tryz.prog (loopAt Tryz.prog 84 0) 16 2 (mkT [(0,.s t),(1,.fn (.func 83) [.p 0 0] []),(6,.i .i64 (ofNat t.length)),(7,.i .i64 0)]) [some (wO K),some (shO 2 K),some (.rows 5 1 K (Cl.iF g))] (.exit 0) (mkT []) [some (wO (K+t.length)),some (shO 2 (K+t.length)),some (.rows 5 1 (K+t.length) (Cl.iF (txG g K t)))]:=by
 refine LDoes.ovl (objs:=[some (wO K),some (shO 2 K),some (.rows 5 1 K (Cl.iF (txG g K t)))]) ?_ ⟨.refl _,.refl _,.rowsW fun i j hi hj=>.of (by show CV.i .u8 _=CV.i .u8 _;rw [txG_lo hi]),trivial⟩
 refine loop_q (fun i:Nat=>([(0,.s t),(1,.fn (.func 83) [.p 0 0] []),(6,.i .i64 (ofNat t.length)),(7,.i .i64 (ofNat i))],[some (wO (K+i)),some (shO 2 (K+i)),some (.rows 5 1 (K+i) (Cl.iF (txG g K t)))])) (fun i=>t.length-i) (fun i=>i<=t.length) (fun _=>by show 2<=3;decide) ?_ 0 (Nat.zero_le _)
 intro i hi
 rcases Nat.lt_or_ge i t.length with hlt | q
 · have h1:decide (ofNat i<ofNat t.length)=true:=decide_eq_true (by simp;omega)
   have bi:(0:Int)<=ofNat i/\ofNat i<(↑t.length:Int):=⟨by simp,by simp;omega⟩
   have ri:rg (ofNat i+1):=⟨by simp<;>omega,by simp<;>omega⟩
   have ly:=layR_con (ofNat (List.getD t i 0)) (K+i) (txG g K t) (by omega)
   refine rd_nrm (txR_lq (K+i) (txG g K t) t i h1) ⟨h1,bi,ly,ri,rfl⟩ (i+1) hlt (by show t.length-(i+1)<t.length-i;omega) rfl (.refl _) ⟨.refl _,.refl _,.rowsW fun j z hj hz=>.of ?_,trivial⟩
   show CV.i .u8 (lyB (txG g K t) (K+i) (ofNat (List.getD t i 0)) j)=CV.i .u8 (txG g K t j)
   unfold lyB
   cases e:Nat.blt j (K+i) with
   | true=>rfl
   | false=>
     have:¬j<K+i:=by rw [<-Nat.blt_eq,e];decide
     obtain rfl:j=K+i:=by omega
     rw [cond_false,txG_hi]
 · obtain rfl:i=t.length:=Nat.le_antisymm hi q
   exact rd_out (txE_lq (K+t.length) (txG g K t) t t.length (decide_eq_false (by simp))) ⟨decide_eq_false (by simp),rfl⟩ rfl rfl (.refl _) (.refl _)
def wtG (g:Nat->Int) (k:Nat) (t:List Nat):Nat->Int:=txG (wG g k t.length) (k+wl t.length) t
theorem wtext_con (k:Nat) (g:Nat->Int) (t:List Nat) (ht:t.length<=1000000) (hk:k<=1000000):Con Tryz.prog 55 [.p 0 0,.s t] [some (wO k),some (shO 2 k),some (.rows 5 1 k (Cl.iF g))] (.tup [])
 [.set (wO (k+wl t.length+t.length)),.set (shO 3 (k+wl t.length+t.length)),.gone,.set (.rows 5 1 (k+wl t.length+t.length) (Cl.iF (wtG g k t)))]:=by
 have w:=wl_le (n:=t.length) (by omega)
 exact con_d (tx_vq k g t (k+wl t.length) (wG g k t.length) (wtG g k t)) ⟨trivial,wnumR_con t.length k g (by omega) (by omega),tx_lp _ _ _ (by omega),rfl⟩
theorem newR_vq (L:Nat) (b:Nat->Nat):VD Tryz.prog 76 [.sv 1 L (byF b)] [] (.cal [] (.sv 1 L (byF b)) [] .z) (.p 0 0) [.set (rdO L b 0)] [0] 1 (fun Lf=>Con Tryz.prog 88 [.sv 1 L (byF b)] [] (.sv 1 L (byF b)) []/\Lf):=by unfold VD VQ;kernel_rfl
theorem newR_con (L:Nat) (b:Nat->Nat) (hL:L<=1073741824):Con Tryz.prog 76 [.sv 1 L (byF b)] [] (.p 0 0) [.set (rdO L b 0)]:=
 con_d (newR_vq L b) ⟨cloneB_con L b hL,rfl⟩
theorem bytesF_eq {t:List Nat} {f:Nat->Nat->CV} {n:Nat} (hn:n=t.length) (ht:∀x∈t,x<256) (h:∀i,i<n->f i 0=.i .u8 (ofNat (t.getD i 0))):bytesF n f=t:=by
 subst hn
 refine List.ext_getElem? fun i=>?_
 unfold bytesF
 rw [List.getElem?_map]
 by_cases h2:i<t.length
 · rw [List.getElem?_range h2,List.getElem?_eq_getElem h2]
   have e:t.getD i 0=t[i]:=by rw [List.getD_eq_getElem?_getD,List.getElem?_eq_getElem h2];rfl
   show some (Go.Sim.byteOf (f i 0))= _
   rw [h i h2]
   show some ((t.getD i 0) % 256)=some t[i]
   rw [e,Nat.mod_eq_of_lt (ht _ (List.getElem_mem h2))]
 · rw [List.getElem?_eq_none (by simpa using h2),List.getElem?_eq_none (by omega)];rfl
end Go.Proofs.Cl
namespace Go.Proofs.Ly
open Go Go.Sim Go.Proofs Go.Proofs.Cd Go.Proofs.Cl Go.Proofs.YtfpebgpcpoefpaaGreatDoor
theorem nT {b:Bool} (h:b=true):(!b)=false:=by rw [h];rfl
theorem nF {b:Bool} (h:b=false):(!b)=true:=by rw [h];rfl
def alB (p:Nat->Bool):Nat->Bool
 | 0=>true
 | n+1=>alB p n && p n
theorem alB_t {p:Nat->Bool}:∀{n:Nat},alB p n=true->∀i,i<n->p i=true
 | 0,_,i,hi=>absurd hi (Nat.not_lt_zero i)
 | n+1,h,i,hi=>by
   have h:(alB p n && p n)=true:=h
   rw [Bool.and_eq_true] at h
   rcases Nat.lt_or_ge i n with q | q
   · exact alB_t h.1 i q
   · obtain rfl:i=n:=by omega
     exact h.2
theorem alB_f {p:Nat->Bool}:∀{n:Nat},alB p n=false->∃j,j<n/\p j=false/\∀i,i<j->p i=true
 | 0,h=>by cases h
 | n+1,h=>by
   have h:(alB p n && p n)=false:=h
   cases e:alB p n with
   | false=>
     obtain ⟨j,a,b,c⟩:=alB_f e
     exact ⟨j,by omega,b,c⟩
   | true=>
     rw [e,Bool.true_and] at h
     exact ⟨n,by omega,h,alB_t e⟩
theorem wb_con (k:Nat) (g:Nat->Nat) (hk:k<=1073741824):Con Tryz.prog 57 [.p 0 0] [some (wO k),some (shO 2 k),some (.rows 5 1 k (byF g))] (.sv 1 k (byF g)) [.keep,.keep,.gone]:=wby_con k (fun i=>ofNat (g i)) hk
def fNf:Nat->Nat->List Nat
 | 0,n=>[n]
 | f+1,n=>match Nat.blt n 128 with
   | true=>[n]
   | false=>(n % 128+128) :: fNf f (n / 128)
def fN (n:Nat):List Nat:=fNf 10 n
theorem fNf_len:∀f n,(fNf f n).length=mRf f n+1
 | 0,n=>rfl
 | f+1,n=>by
   show List.length (match Nat.blt n 128 with | true=>[n] | false=>(n % 128+128) :: fNf f (n / 128))=(match Nat.blt n 128 with | true=>0 | false=>mRf f (n / 128)+1)+1
   cases Nat.blt n 128 with
   | true=>rfl
   | false=>show (fNf f (n / 128)).length+1= _;rw [fNf_len f (n / 128)]
theorem fNf_get:∀f n i,i<=mRf f n->(fNf f n).getD i 0=bif Nat.blt i (mRf f n) then n / 128 ^ i % 128+128 else n / 128 ^ mRf f n
 | 0,n,i,h=>by
   obtain rfl:i=0:=Nat.le_zero.1 h
   show n=n / 1;omega
 | f+1,n,i,h=>by
   cases e:Nat.blt n 128 with
   | true=>
     have e1:fNf (f+1) n=[n]:=by show (match Nat.blt n 128 with | true=>[n] | false=>_)= _;rw [e]
     have e2:mRf (f+1) n=0:=by show (match Nat.blt n 128 with | true=>0 | false=>_)= _;rw [e]
     rw [e2] at h⊢;rw [e1]
     obtain rfl:i=0:=Nat.le_zero.1 h
     show n=n / 1;omega
   | false=>
     have e1:fNf (f+1) n=(n % 128+128) :: fNf f (n / 128):=by show (match Nat.blt n 128 with | true=>[n] | false=>(n % 128+128) :: fNf f (n / 128))= _;rw [e]
     have e2:mRf (f+1) n=mRf f (n / 128)+1:=by show (match Nat.blt n 128 with | true=>0 | false=>mRf f (n / 128)+1)= _;rw [e]
     rw [e2] at h⊢;rw [e1]
     cases i with
     | zero=>
       rw [show Nat.blt 0 (mRf f (n / 128)+1)=true by rw [Nat.blt_eq];omega]
       show n % 128+128=n / 1 % 128+128;omega
     | succ i=>
       have:=fNf_get f (n / 128) i (by omega)
       show (fNf f (n / 128)).getD i 0= _
       rw [this,show Nat.blt (i+1) (mRf f (n / 128)+1)=Nat.blt i (mRf f (n / 128)) by rw [Bool.eq_iff_iff,Nat.blt_eq,Nat.blt_eq];omega]
       rw [Nat.div_div_eq_div_mul,Nat.div_div_eq_div_mul,show 128*128 ^ i=128 ^ (i+1) by rw [Nat.pow_succ,Nat.mul_comm],show 128*128 ^ mRf f (n / 128)=128 ^ (mRf f (n / 128)+1) by rw [Nat.pow_succ,Nat.mul_comm]]
theorem fN_len (n:Nat):(fN n).length=wl n:=fNf_len 10 n
theorem fN_get {n i:Nat} (h:i<wl n):ofNat ((fN n).getD i 0)=wB n i:=by
 unfold wl mR at h
 show ofNat ((fNf 10 n).getD i 0)= _
 rw [fNf_get 10 n i (by omega)]
 unfold wB
 show _=bif Nat.blt i (mRf 10 n) then chN (n / 128 ^ i) else ofNat (n / 128 ^ mRf 10 n)
 cases Nat.blt i (mRf 10 n) with
 | true=>exact (chN_eq _).symm
 | false=>rfl
def Byt (l:List Nat):Prop:=∀x∈l,x<256
theorem fNf_byt:∀f n,n<128 ^ (f+1)->Byt (fNf f n)
 | 0,n,h,x,hx=>by
   have:x=n:=by simpa [fNf] using hx
   have h:n<128:=by simpa using h
   omega
 | f+1,n,h,x,hx=>by
   have hx:x∈(match Nat.blt n 128 with | true=>[n] | false=>(n % 128+128) :: fNf f (n / 128)):=hx
   cases e:Nat.blt n 128 with
   | true=>
     rw [e] at hx
     rw [Nat.blt_eq] at e
     have:x=n:=by simpa using hx
     omega
   | false=>
     rw [e] at hx
     rcases List.mem_cons.1 hx with rfl | q
     · omega
     · refine fNf_byt f (n / 128) ?_ x q
       rw [Nat.div_lt_iff_lt_mul (by decide)]
       rwa [<-Nat.pow_succ]
theorem fN_byt {n:Nat} (h:n<9223372036854775808):Byt (fN n):=fNf_byt 10 n (Nat.lt_of_lt_of_le h (by decide))
theorem Byt.app {a b:List Nat} (h:Byt a) (k:Byt b):Byt (a ++ b):=fun x hx=>(List.mem_append.1 hx).elim (h x) (k x)
theorem Byt.nil:Byt []:=fun x hx=>by simp at hx
theorem fN_le {n:Nat} (h:n<9223372036854775808):(fN n).length<=11:=by rw [fN_len];exact wl_le h
theorem bts_eq {t:List Nat} (h:Byt t):bytesF t.length (byF (tB t))=t:=bytesF_eq rfl h fun i hi=>rfl
theorem u8_of (t:List Nat):U8s t.length (byF (tB t)):=iF_u8 (g:=fun i=>ofNat (tB t i)) fun i=>⟨_,rfl⟩
theorem tB_lo {a b:List Nat} {i:Nat} (h:i<a.length):tB (a ++ b) i=tB a i:=by
 unfold tB;rw [List.getD_eq_getElem?_getD,List.getElem?_append_left h,<-List.getD_eq_getElem?_getD]
theorem tB_hi {a b:List Nat} {i:Nat} (h:a.length<=i):tB (a ++ b) i=tB b (i-a.length):=by
 unfold tB;rw [List.getD_eq_getElem?_getD,List.getElem?_append_right h,<-List.getD_eq_getElem?_getD]
theorem wnF_con (n:Nat) (hn:n<9223372036854775808):Con Tryz.prog 54 [.p 0 0,.i .i64 (ofNat n)] [some w0O] (.tup []) [.set (wO (fN n).length),.set (shO 2 (fN n).length),.set (.rows 5 1 (fN n).length (byF (tB (fN n))))]:=by
 rw [fN_len]
 exact (wnum0_con n hn).post (.refl _) ⟨.refl _,.refl _,.rowsW fun i j hi hj=>.of (by
  show CV.i .u8 (wB n i)=CV.i .u8 (ofNat ((fN n).getD i 0));rw [fN_get hi]),trivial⟩
theorem wnG_con (bs:List Nat) (n:Nat) (hn:n<9223372036854775808) (hk:bs.length<=1073741000):Con Tryz.prog 54 [.p 0 0,.i .i64 (ofNat n)] [some (wO bs.length),some (shO 2 bs.length),some (.rows 5 1 bs.length (byF (tB bs)))] (.tup []) [.set (wO (bs ++ fN n).length),.set (shO 3 (bs ++ fN n).length),.gone,.set (.rows 5 1 (bs ++ fN n).length (byF (tB (bs ++ fN n))))]:=by
 rw [List.length_append,fN_len]
 exact (wnumR_con n bs.length (fun i=>ofNat (tB bs i)) hn hk).post (.refl _) ⟨.refl _,.refl _,.refl _,.rowsW fun i j hi hj=>.of (by
  show CV.i .u8 (wG (fun i=>ofNat (tB bs i)) bs.length n i)=CV.i .u8 (ofNat (tB (bs ++ fN n) i))
  rcases Nat.lt_or_ge i bs.length with q | q
  · rw [wG_left q,tB_lo q]
  · obtain ⟨m,rfl⟩:∃m,i=bs.length+m:=⟨i-bs.length,by omega⟩
    rw [wG_right,tB_hi q,Nat.add_sub_cancel_left]
    unfold tB;rw [fN_get (by omega)]),trivial⟩
def rwI (v:Int):Prop:=0<=v/\v<9223372036854775808
theorem nat_of {v:Int} (h:rwI v):ofNat v.toNat=v:=by unfold rwI at h;simp<;>omega
theorem nnT {b:Bool} (h:b=true):(!!b)=true:=by rw [h];rfl
theorem nnF {b:Bool} (h:b=false):(!!b)=false:=by rw [h];rfl
def tN (t:List Nat):List Nat:=fN t.length ++ t
theorem wtG_con (bs t:List Nat) (ht:t.length<=1000000) (hk:bs.length<=1000000):Con Tryz.prog 55 [.p 0 0,.s t] [some (wO bs.length),some (shO 2 bs.length),some (.rows 5 1 bs.length (byF (tB bs)))] (.tup []) [.set (wO (bs ++ tN t).length),.set (shO 3 (bs ++ tN t).length),.gone,.set (.rows 5 1 (bs ++ tN t).length (byF (tB (bs ++ tN t))))]:=by
 have h:=wtext_con bs.length (fun i=>ofNat (tB bs i)) t ht hk
 have e:(bs ++ tN t).length=bs.length+wl t.length+t.length:=by unfold tN;rw [List.length_append,List.length_append,fN_len];omega
 rw [e]
 refine h.post (.refl _) ⟨.refl _,.refl _,.refl _,.rowsW fun i j hi hj=>.of ?_,trivial⟩
 show CV.i .u8 (txG (wG (fun i=>ofNat (tB bs i)) bs.length t.length) (bs.length+wl t.length) t i)=CV.i .u8 (ofNat (tB (bs ++ tN t) i))
 have hi:i<bs.length+wl t.length+t.length:=hi
 rcases Nat.lt_or_ge i (bs.length+wl t.length) with q | q
 · rw [txG_lo q]
   rcases Nat.lt_or_ge i bs.length with r | r
   · rw [wG_left r,tB_lo r]
   · obtain ⟨m,rfl⟩:∃m,i=bs.length+m:=⟨i-bs.length,by omega⟩
     rw [wG_right,tB_hi r,Nat.add_sub_cancel_left]
     unfold tN
     rw [tB_lo (by rw [fN_len];omega)]
     unfold tB
     rw [fN_get (by omega)]
 · obtain ⟨m,rfl⟩:∃m,i=bs.length+wl t.length+m:=⟨i-(bs.length+wl t.length),by omega⟩
   rw [txG_hi,tB_hi (by omega)]
   unfold tN
   rw [tB_hi (by rw [fN_len];omega),fN_len,show bs.length+wl t.length+m-bs.length-wl t.length=m by omega];rfl
theorem wnI_con (bs:List Nat) (v:Int) (hv:rwI v) (hk:bs.length<=1073741000):Con Tryz.prog 54 [.p 0 0,.i .i64 v] [some (wO bs.length),some (shO 2 bs.length),some (.rows 5 1 bs.length (byF (tB bs)))] (.tup []) [.set (wO (bs ++ fN v.toNat).length),.set (shO 3 (bs ++ fN v.toNat).length),.gone,.set (.rows 5 1 (bs ++ fN v.toNat).length (byF (tB (bs ++ fN v.toNat))))]:=by
 have:=wnG_con bs v.toNat (by unfold rwI at hv;omega) hk
 rwa [nat_of hv] at this
end Go.Proofs.Ly
namespace Go.Proofs.Ly
open Go Go.Sim Go.Proofs Go.Proofs.Cd Go.Proofs.St Go.Proofs.Cl Go.Proofs.YtfpebgpcpoefpaaGreatDoor
theorem li_of {P:Program} {c:Code} {n b:Nat} {l0 l1:List (Nat×AV)} {objs0 objs1:List (Option AObj)} {x:XO} {o:Orc} {σ:List Nat} {nx:Nat} {C:Prop->Prop} (h:LD P c n b l0 objs0 o x σ l1 objs1 nx C) (hc:C (stP x b σ l1 objs1 nx=stP x b σ l1 objs1 nx)):LI P c n b l0 objs0 x l1 objs1:=⟨o,σ,nx,_,hc,h⟩
def uF (B V:Nat->Int) (D:Nat->List Nat) (i j:Nat):CV:=Nat.rec (.i .i64 (B i)) (fun k _=>Nat.rec (.i .i64 (V i)) (fun _ _=>.s (D i)) k) j
def lstB (B:Nat->Int):Nat->Int
 | 0=>0
 | i+1=>B i
def pU (B V:Nat->Int) (D:Nat->List Nat) (i:Nat):Bool:=wq (B i) (lstB B i+1) 79 && (wq (V i) 1 1099511627776 && !decide ((38:Int)<ofNat (D i).length))
def mbB (n:Nat) (B V:Nat->Int) (D:Nat->List Nat):Bool:=alB (pU B V D) n && decide ((0:Int)<ofNat n)
set_option maxHeartbeats 4000000
def upL (n:Nat) (B V:Nat->Int) (D:Nat->List Nat):Nat->List Nat
 | 0=>fN n
 | i+1=>((upL n B V D i ++ fN (B i).toNat) ++ fN (V i).toNat) ++ tN (D i)
def UOk (n:Nat) (B V:Nat->Int) (D:Nat->List Nat):Prop:=n<=79/\∀i,i<n->(1<=B i/\B i<=79)/\(1<=V i/\V i<=1099511627776)/\(D i).length<=38/\Byt (D i)
theorem tN_le' {t:List Nat} (h:t.length<=38):(tN t).length<=49:=by
 unfold tN
 rw [List.length_append]
 have:=fN_le (n:=t.length) (by omega)
 omega
theorem upL_le {n:Nat} {B V:Nat->Int} {D:Nat->List Nat} (h:UOk n B V D):∀i,i<=n->(upL n B V D i).length<=80*i+20
 | 0,_=>by
   have:=h.1
   have:=fN_le (n:=n) (by omega)
   show (fN n).length<=_;omega
 | i+1,hi=>by
   have:=upL_le h i (by omega)
   obtain ⟨a,b,c,d⟩:=h.2 i (by omega)
   have:=tN_le' c
   have:=fN_le (n:=(B i).toNat) (by omega)
   have:=fN_le (n:=(V i).toNat) (by omega)
   show (((upL n B V D i ++ fN (B i).toNat) ++ fN (V i).toNat) ++ tN (D i)).length<=_
   rw [List.length_append,List.length_append,List.length_append]
   omega
theorem upL_byt {n:Nat} {B V:Nat->Int} {D:Nat->List Nat} (h:UOk n B V D):∀i,i<=n->Byt (upL n B V D i)
 | 0,_=>fN_byt (by have:=h.1;omega)
 | i+1,hi=>by
   obtain ⟨a,b,c,d⟩:=h.2 i (by omega)
   have e:Byt (tN (D i)):=Byt.app (fN_byt (by omega)) d
   exact (((upL_byt h i (by omega)).app (fN_byt (by omega))).app (fN_byt (by omega))).app e
theorem wwi0_vq (n a b:Int) (h0:decide (a<=n)=true):VD Tryz.prog 25 [.i .i64 n,.i .i64 a,.i .i64 b] [] (ot 4 .z) (.b (decide (n<=b))) [] [] 0 (fun Lf=>r4 (decide (a<=n)=true) (Lf)):=by unfold VD VQ;kernel_rfl
theorem wwi1_vq (n a b:Int) (h0:decide (a<=n)=false):VD Tryz.prog 25 [.i .i64 n,.i .i64 a,.i .i64 b] [] (of_ 4 .z) (.b false) [] [] 0 (fun Lf=>r4 (decide (a<=n)=false) (Lf)):=by unfold VD VQ;kernel_rfl
theorem wwi_con (n a b:Int):Con Tryz.prog 25 [.i .i64 n,.i .i64 a,.i .i64 b] [] (.b (wq n a b)) []:=by
 unfold wq
 cases h0:decide (a<=n) with
 | true=>
   exact con_d (wwi0_vq (n:=n) (a:=a) (b:=b) (h0:=h0)) (by repeat' first | exact trivial | assumption | exact rfl | exact nT (by assumption) | exact nF (by assumption) | apply And.intro | decide)
 | false=>
   exact con_d (wwi1_vq (n:=n) (a:=a) (b:=b) (h0:=h0)) (by repeat' first | exact trivial | assumption | exact rfl | exact nT (by assumption) | exact nF (by assumption) | apply And.intro | decide)
theorem sl0_fq (S:Nat) (b4:Nat->Nat) (L:Nat) (b:Nat->Nat) (hs:decide (0<0+ofNat L+4-0)=true):VF Tryz.prog 56 [.sv 1 L (byF b)] [] (Orc.cal [] (.i
 .u32 (ofNat S)) [] (Orc.cal [] (.sv 1 4 (byF b4)) [] (Orc.inl (Orc.inl (oc 3 (Orc.inl (oc 3 (Orc.inl (Orc.c (Orc.inl (Orc.c (Orc.t (Orc.inl (oc 2 (Orc.inl (oc 2 (Orc.inl
 (Orc.c Orc.z)))))))))))))))))) (.sv 1 (addN L 4) (shiftF 0 (appZ L (byF b) (byF b4)))) [] [3] [] ((1=1/\0+addN L 4<=addN L 4)/\True) 4 (fun Lf=>Con Tryz.prog 87 [.sv
 1 L (byF b)] [] (.i .u32 (ofNat S)) []/\Con Tryz.prog 86 [.i .u32 (ofNat S)] [] (.sv 1 4 (byF b4)) []/\rg (0+ofNat L)/\rg (1)/\rg (0+ofNat L+4)/\rg
 (2)/\rg (0)/\rg (0+ofNat L+(4:Int)-(0:Int))/\decide ((0:Int)<(0:Int)+ofNat L+(4:Int)-(0:Int))=true/\(True/\(0:Int)<=(0:Int) +
 ofNat L+(4:Int)-(0:Int)/\0+Int.toNat (0+ofNat L+(4:Int)-(0:Int))<=140737488355328/\(3*(0+Int.toNat (0+ofNat L+(4:Int)-(0 :
 Int)))+1536)*1<=562949953421312)/\(True/\(0:Int)<=(0:Int)/\0<=0/\0<=Int.toNat (0+ofNat L+(4:Int)-(0:Int))/\(0=0\/0<Int.toNat (0 +
 ofNat L+(4:Int)-(0:Int))))/\(0<=Int.toNat (0+ofNat L+(4:Int)-(0:Int))/\True/\0+L<=140737488355328/\(3*(0+L)+1536)*1<=
 562949953421312)/\rg (1)/\(0+L<=L/\True/\L+4<=140737488355328/\(3*(L+4)+1536)*1<=562949953421312)/\rg (2)/\Lf):=by unfold VF;kernel_rfl
theorem sl_con (L:Nat) (b:Nat->Nat) (hs:decide (0<0+ofNat L+4-0)=true) (S:Nat) (b4:Nat->Nat) (hL:L<=1073741824) (k1:Con Tryz.prog 87 [.sv 1 L (byF b)] [] (.i .u32 (ofNat S)) []) (k2:Con Tryz.prog 86 [.i .u32 (ofNat S)] [] (.sv 1 4 (byF b4)) []):Con Tryz.prog 56 [.sv 1 L (byF b)] [] (.sv 1 (addN L 4) (shiftF 0 (appZ L (byF b) (byF b4)))) []:=by
 exact con_f (sl0_fq (S:=S) (b4:=b4) (L:=L) (b:=b) (hs:=hs)) ⟨⟨rfl,by simp⟩,trivial⟩ (by repeat' first | exact trivial | assumption | exact rfl | exact nT (by assumption) | exact nF (by assumption) | assumption | assumption | omega | (unfold rg;simp;omega) | (simp;omega) | apply And.intro | decide)
theorem f30_vq (L0 L1 L2:Nat) (B0 B1 B2:Nat->Nat) (a b d:Int):VD Tryz.prog 34 [.l 0 0 3 3 1 true] [some (cellsO 3 [.i .i64 a,.i .i64 b,.i .i64 d])] (.inl (oc 2 (.cal [1] (.tup []) [.set (wO L0),.set (shO 2 L0),.set (AObj.rows 5 1 L0 (byF B0))] (.inl (oc 2 (.cal [1,2,3] (.tup []) [.set (wO L1),.set (shO 3 L1),.gone,.set (AObj.rows 5 1 L1 (byF B1))] (.inl (oc 2 (.cal [1,2,4] (.tup []) [.set (wO L2),.set (shO 3 L2),.gone,.set (AObj.rows 5 1 L2 (byF B2))] (.inl (.c (.cal [1,2,5] (.sv 1 L2 (byF B2)) [.keep,.keep,.gone] .z)))))))))))) (.s (bytesF L2 (byF B2))) [.keep] [] 6 (fun Lf=>Con Tryz.prog 54 [.p 0 0,.i .i64 a] [some w0O] (.tup []) [.set (wO L0),.set (shO 2 L0),.set (AObj.rows 5 1 L0 (byF B0))]/\rg (1)/\Con Tryz.prog 54 [.p 0 0,.i .i64 b] [some (wO L0),some (shO 2 L0),some (AObj.rows 5 1 L0 (byF B0))] (.tup []) [.set (wO L1),.set (shO 3 L1),.gone,.set (AObj.rows 5 1 L1 (byF B1))]/\rg (2)/\Con Tryz.prog 54 [.p 0 0,.i .i64 d] [some (wO L1),some (shO 2 L1),some (AObj.rows 5 1 L1 (byF B1))] (.tup []) [.set (wO L2),.set (shO 3 L2),.gone,.set (AObj.rows 5 1 L2 (byF B2))]/\rg (3)/\Con Tryz.prog 57 [.p 0 0] [some (wO L2),some (shO 2 L2),some (AObj.rows 5 1 L2 (byF B2))] (.sv 1 L2 (byF B2)) [.keep,.keep,.gone]/\U8s L2 (byF B2)/\Lf):=by unfold VD VQ;kernel_rfl
theorem f3_con (a b d:Int) (L0 L1 L2:Nat) (B0 B1 B2:Nat->Nat) (kwn0:Con Tryz.prog 54 [.p 0 0,.i .i64 a] [some w0O] (.tup []) [.set (wO L0),.set (shO 2 L0),.set (.rows 5 1 L0 (byF B0))]) (kwn1:Con Tryz.prog 54 [.p 0 0,.i .i64 b] [some (wO L0),some (shO 2 L0),some (.rows 5 1 L0 (byF B0))] (.tup []) [.set (wO L1),.set (shO 3 L1),.gone,.set (.rows 5 1 L1 (byF B1))]) (kwn2:Con Tryz.prog 54 [.p 0 0,.i .i64 d] [some (wO L1),some (shO 2 L1),some (.rows 5 1 L1 (byF B1))] (.tup []) [.set (wO L2),.set (shO 3 L2),.gone,.set (.rows 5 1 L2 (byF B2))]) (kwb2:Con Tryz.prog 57 [.p 0 0] [some (wO L2),some (shO 2 L2),some (.rows 5 1 L2 (byF B2))] (.sv 1 L2 (byF B2)) [.keep,.keep,.gone]) (hu:U8s L2 (byF B2)):Con Tryz.prog 34 [.l 0 0 3 3 1 true] [some (cellsO 3 [.i .i64 a,.i .i64 b,.i .i64 d])] (.s (bytesF L2 (byF B2))) [.keep]:=by
 exact con_d (f30_vq (L0:=L0) (L1:=L1) (L2:=L2) (B0:=B0) (B1:=B1) (B2:=B2) (a:=a) (b:=b) (d:=d)) (by repeat' first | exact trivial | assumption | exact rfl | exact nT (by assumption) | exact nF (by assumption) | assumption | assumption | assumption | assumption | exact hu | apply And.intro | decide)
theorem f10_vq (L0:Nat) (B0:Nat->Nat) (a:Int):VD Tryz.prog 34 [.l 0 0 1 1 1 true] [some (cellsO 3 [.i .i64 a])] (.inl (oc 2 (.cal [1] (.tup []) [.set (wO L0),.set (shO 2 L0),.set (AObj.rows 5 1 L0 (byF B0))] (.inl (.c (.cal [1,2,3] (.sv 1 L0 (byF B0)) [.keep,.keep,.gone] .z)))))) (.s (bytesF L0 (byF B0))) [.keep] [] 4 (fun Lf=>Con Tryz.prog 54 [.p 0 0,.i .i64 a] [some w0O] (.tup []) [.set (wO L0),.set (shO 2 L0),.set (AObj.rows 5 1 L0 (byF B0))]/\rg (1)/\Con Tryz.prog 57 [.p 0 0] [some (wO L0),some (shO 2 L0),some (AObj.rows 5 1 L0 (byF B0))] (.sv 1 L0 (byF B0)) [.keep,.keep,.gone]/\U8s L0 (byF B0)/\Lf):=by unfold VD VQ;kernel_rfl
theorem f1_con (a:Int) (L0:Nat) (B0:Nat->Nat) (kwn0:Con Tryz.prog 54 [.p 0 0,.i .i64 a] [some w0O] (.tup []) [.set (wO L0),.set (shO 2 L0),.set (.rows 5 1 L0 (byF B0))]) (kwb0:Con Tryz.prog 57 [.p 0 0] [some (wO L0),some (shO 2 L0),some (.rows 5 1 L0 (byF B0))] (.sv 1 L0 (byF B0)) [.keep,.keep,.gone]) (hu:U8s L0 (byF B0)):Con Tryz.prog 34 [.l 0 0 1 1 1 true] [some (cellsO 3 [.i .i64 a])] (.s (bytesF L0 (byF B0))) [.keep]:=by
 exact con_d (f10_vq (L0:=L0) (B0:=B0) (a:=a)) (by repeat' first | exact trivial | assumption | exact rfl | exact nT (by assumption) | exact nF (by assumption) | assumption | assumption | exact hu | apply And.intro | decide)
theorem mR_lq (w:Int->Int->Int->Bool) (n i:Nat) (B V:Nat->Int) (D:Nat->List Nat) (la:Int) (h0:decide (ofNat i<ofNat n)=true) (h1:w (B i) (la+1) 79=true) (h2:w (V i) 1 1099511627776=true) (h3:decide (38<ofNat (List.length (D i)))=false):LD Tryz.prog (loopAt Tryz.prog 53 0) 36 0 [(0,.sv 3 n (uF B V D)),(3,.i .i64 la),(6,.sv 3 n (uF B V D)),(7,.i .i64 (ofNat n)),(8,.i .i64 (ofNat i))] [] (.t (.cal [] (.b (w (B i) (la+1) 79)) [] (ot 3 (.cal [] (.b (w (V i) 1 1099511627776)) [] (.t (.f (ot 4 (.f (.f .z))))))))) .nrm [] [(0,.sv 3 n (uF B V D)),(3,.i .i64 (B i)),(6,.sv 3 n (uF B V D)),(7,.i .i64 (ofNat n)),(8,.i .i64 (ofNat i+1))] [] 1 (fun Lf=>decide (ofNat i<ofNat n)=true/\(0<=ofNat i/\ofNat i<↑n)/\True/\True/\rg (la+1)/\Con Tryz.prog 25 [.i .i64 (B i),.i .i64 (la+1),.i .i64 79] [] (.b (w (B i) (la+1) 79)) []/\True/\(!!w (B i) (la+1) 79)=true/\True/\r2 ((!!w (B i) (la+1) 79)=true) (Con Tryz.prog 25 [.i .i64 (V i),.i .i64 1,.i .i64 1099511627776] [] (.b (w (V i) 1 1099511627776)) []/\(!!w (B i) (la+1) 79)=true/\True/\(!w (B i) (la+1) 79)=false/\(!!w (V i) 1 1099511627776)=true/\True/\r3 ((!!w (V i) 1 1099511627776)=true) ((!w (V i) 1 1099511627776)=false/\decide (38<ofNat (List.length (D i)))=false/\True/\rg (ofNat i+1)/\Lf))):=by unfold LD LQ;kernel_rfl
theorem mX1_lq (w:Int->Int->Int->Bool) (n i:Nat) (B V:Nat->Int) (D:Nat->List Nat) (la:Int) (h0:decide (ofNat i<ofNat n)=true) (h1:w (B i) (la+1) 79=false):LD Tryz.prog (loopAt Tryz.prog 53 0) 36 0 [(0,.sv 3 n (uF B V D)),(3,.i .i64 la),(6,.sv 3 n (uF B V D)),(7,.i .i64 (ofNat n)),(8,.i .i64 (ofNat i))] [] (.t (.cal [] (.b (w (B i) (la+1) 79)) [] (of_ 4 (.t (oc 6 .z))))) .ret [] [(2,.b false)] [] 1 (fun Lf=>decide (ofNat i<ofNat n)=true/\(0<=ofNat i/\ofNat i<↑n)/\True/\True/\rg (la+1)/\Con Tryz.prog 25 [.i .i64 (B i),.i .i64 (la+1),.i .i64 79] [] (.b (w (B i) (la+1) 79)) []/\True/\r4 ((!!w (B i) (la+1) 79)=false) ((!w (B i) (la+1) 79)=true/\Lf)):=by unfold LD LQ;kernel_rfl
theorem mX2_lq (w:Int->Int->Int->Bool) (n i:Nat) (B V:Nat->Int) (D:Nat->List Nat) (la:Int) (h0:decide (ofNat i<ofNat n)=true) (h1:w (B i) (la+1) 79=true) (h2:w (V i) 1 1099511627776=false):LD Tryz.prog (loopAt Tryz.prog 53 0) 36 0 [(0,.sv 3 n (uF B V D)),(3,.i .i64 la),(6,.sv 3 n (uF B V D)),(7,.i .i64 (ofNat n)),(8,.i .i64 (ofNat i))] [] (.t (.cal [] (.b (w (B i) (la+1) 79)) [] (ot 3 (.cal [] (.b (w (V i) 1 1099511627776)) [] (.t (of_ 5 (.t (.c .z)))))))) .ret [] [(2,.b false)] [] 1 (fun Lf=>decide (ofNat i<ofNat n)=true/\(0<=ofNat i/\ofNat i<↑n)/\True/\True/\rg (la+1)/\Con Tryz.prog 25 [.i .i64 (B i),.i .i64 (la+1),.i .i64 79] [] (.b (w (B i) (la+1) 79)) []/\True/\(!!w (B i) (la+1) 79)=true/\True/\r2 ((!!w (B i) (la+1) 79)=true) (Con Tryz.prog 25 [.i .i64 (V i),.i .i64 1,.i .i64 1099511627776] [] (.b (w (V i) 1 1099511627776)) []/\(!!w (B i) (la+1) 79)=true/\True/\(!w (B i) (la+1) 79)=false/\r4 ((!!w (V i) 1 1099511627776)=false) ((!w (V i) 1 1099511627776)=true/\Lf))):=by unfold LD LQ;kernel_rfl
theorem mX3_lq (w:Int->Int->Int->Bool) (n i:Nat) (B V:Nat->Int) (D:Nat->List Nat) (la:Int) (h0:decide (ofNat i<ofNat n)=true) (h1:w (B i) (la+1) 79=true) (h2:w (V i) 1 1099511627776=true) (h3:decide (38<ofNat (List.length (D i)))=true):LD Tryz.prog (loopAt Tryz.prog 53 0) 36 0 [(0,.sv 3 n (uF B V D)),(3,.i .i64 la),(6,.sv 3 n (uF B V D)),(7,.i .i64 (ofNat n)),(8,.i .i64 (ofNat i))] [] (.t (.cal [] (.b (w (B i) (la+1) 79)) [] (ot 3 (.cal [] (.b (w (V i) 1 1099511627776)) [] (.t (.f (ot 4 (.f (.t .z))))))))) .ret [] [(2,.b false)] [] 1 (fun Lf=>decide (ofNat i<ofNat n)=true/\(0<=ofNat i/\ofNat i<↑n)/\True/\True/\rg (la+1)/\Con Tryz.prog 25 [.i .i64 (B i),.i .i64 (la+1),.i .i64 79] [] (.b (w (B i) (la+1) 79)) []/\True/\(!!w (B i) (la+1) 79)=true/\True/\r2 ((!!w (B i) (la+1) 79)=true) (Con Tryz.prog 25 [.i .i64 (V i),.i .i64 1,.i .i64 1099511627776] [] (.b (w (V i) 1 1099511627776)) []/\(!!w (B i) (la+1) 79)=true/\True/\(!w (B i) (la+1) 79)=false/\(!!w (V i) 1 1099511627776)=true/\True/\r3 ((!!w (V i) 1 1099511627776)=true) ((!w (V i) 1 1099511627776)=false/\decide (38<ofNat (List.length (D i)))=true/\Lf))):=by unfold LD LQ;kernel_rfl
theorem mE_lq (n i:Nat) (B V:Nat->Int) (D:Nat->List Nat) (la:Int) (h0:decide (ofNat i<ofNat n)=false):LD Tryz.prog (loopAt Tryz.prog 53 0) 36 0 [(0,.sv 3 n (uF B V D)),(3,.i .i64 la),(6,.sv 3 n (uF B V D)),(7,.i .i64 (ofNat n)),(8,.i .i64 (ofNat i))] [] (.f .z) (.exit 0) [] [(0,.sv 3 n (uF B V D))] [] 0 (fun Lf=>decide (ofNat i<ofNat n)=false/\Lf):=by unfold LD LQ;kernel_rfl
theorem wq_le {n a b:Int} (h:wq n a b=true):a<=n/\n<=b:=by
 unfold wq at h
 simpa only [Bool.and_eq_true,decide_eq_true_eq] using h
theorem lst_le {B V:Nat->Int} {D:Nat->List Nat} {i:Nat} (h:∀j,j<i->pU B V D j=true):ofNat i<=lstB B i/\lstB B i<=79:=by
 induction i with
 | zero=>exact ⟨Int.le_refl _,by show (0:Int)<=79;decide⟩
 | succ i ih=>
   have a:=ih fun j hj=>h j (by omega)
   have b:=h i (by omega)
   unfold pU at b
   rw [Bool.and_eq_true] at b
   have c:=wq_le b.1
   show ofNat (i+1)<=B i/\B i<=79
   have d:ofNat (i+1)=ofNat i+1:=rfl
   omega
theorem mR_li (n i:Nat) (B V:Nat->Int) (D:Nat->List Nat) (hn:n<=281474976710656) (hi:i<n) (hl:lstB B i<=79/\0<=lstB B i) (hp:pU B V D i=true):LI Tryz.prog (loopAt Tryz.prog 53 0) 36 0 [(0,.sv 3 n (uF B V D)),(3,.i .i64 (lstB B i)),(6,.sv 3 n (uF B V D)),(7,.i .i64 (ofNat n)),(8,.i .i64 (ofNat i))] [] .nrm [(0,.sv 3 n (uF B V D)),(3,.i .i64 (B i)),(6,.sv 3 n (uF B V D)),(7,.i .i64 (ofNat n)),(8,.i .i64 (ofNat i+1))] []:=by
 have h1:decide (ofNat i<ofNat n)=true:=decide_eq_true (by simp;omega)
 have bi:(0:Int)<=ofNat i/\ofNat i<(↑n:Int):=⟨by simp,by simp;omega⟩
 have ri:rg (ofNat i+1):=⟨by simp<;>omega,by simp<;>omega⟩
 have rl:rg (lstB B i+1):=⟨by omega,by omega⟩
 have c1:=wwi_con (B i) (lstB B i+1) 79
 have c2:=wwi_con (V i) 1 1099511627776
 unfold pU at hp
 simp only [Bool.and_eq_true,Bool.not_eq_true'] at hp
 obtain ⟨p1,p2,p3⟩:=hp
 exact li_of (mR_lq wq n i B V D (lstB B i) h1 p1 p2 p3) (by repeat' first | exact trivial | assumption | exact rfl | exact nT (by assumption) | exact nF (by assumption) | exact nnT (by assumption) | exact nnF (by assumption) | apply And.intro | decide)
theorem mX_li (n i:Nat) (B V:Nat->Int) (D:Nat->List Nat) (hn:n<=281474976710656) (hi:i<n) (hl:lstB B i<=79/\0<=lstB B i) (hp:pU B V D i=false):LI Tryz.prog (loopAt Tryz.prog 53 0) 36 0 [(0,.sv 3 n (uF B V D)),(3,.i .i64 (lstB B i)),(6,.sv 3 n (uF B V D)),(7,.i .i64 (ofNat n)),(8,.i .i64 (ofNat i))] [] .ret [(2,.b false)] []:=by
 have h1:decide (ofNat i<ofNat n)=true:=decide_eq_true (by simp;omega)
 have bi:(0:Int)<=ofNat i/\ofNat i<(↑n:Int):=⟨by simp,by simp;omega⟩
 have rl:rg (lstB B i+1):=⟨by omega,by omega⟩
 have c1:=wwi_con (B i) (lstB B i+1) 79
 have c2:=wwi_con (V i) 1 1099511627776
 unfold pU at hp
 cases p1:wq (B i) (lstB B i+1) 79 with
 | false=>exact li_of (mX1_lq wq n i B V D (lstB B i) h1 p1) (by repeat' first | exact trivial | assumption | exact rfl | exact nT (by assumption) | exact nF (by assumption) | exact nnT (by assumption) | exact nnF (by assumption) | apply And.intro | decide)
 | true=>
   rw [p1,Bool.true_and] at hp
   cases p2:wq (V i) 1 1099511627776 with
   | false=>exact li_of (mX2_lq wq n i B V D (lstB B i) h1 p1 p2) (by repeat' first | exact trivial | assumption | exact rfl | exact nT (by assumption) | exact nF (by assumption) | exact nnT (by assumption) | exact nnF (by assumption) | apply And.intro | decide)
   | true=>
     rw [p2,Bool.true_and,Bool.not_eq_false'] at hp
     exact li_of (mX3_lq wq n i B V D (lstB B i) h1 p1 p2 hp) (by repeat' first | exact trivial | assumption | exact rfl | exact nT (by assumption) | exact nF (by assumption) | exact nnT (by assumption) | exact nnF (by assumption) | apply And.intro | decide)
theorem ii0 (i:Nat):(0:Int)<=ofNat i:=by simp
theorem m_lp (n:Nat) (B V:Nat->Int) (D:Nat->List Nat) (hn:n<=281474976710656) (h:alB (pU B V D) n=true):LDoes Tryz.prog (loopAt Tryz.prog 53 0) 36 0 (mkT [(0,.sv 3 n (uF B V D)),(3,.i .i64 0),(6,.sv 3 n (uF B V D)),(7,.i .i64 (ofNat n)),(8,.i .i64 0)]) [] (.exit 0) (mkT [(0,.sv 3 n (uF B V D))]) []:=by
 refine loop_q (fun i:Nat=>([(0,.sv 3 n (uF B V D)),(3,.i .i64 (lstB B i)),(6,.sv 3 n (uF B V D)),(7,.i .i64 (ofNat n)),(8,.i .i64 (ofNat i))],[])) (fun i=>n-i) (fun i=>i<=n) (fun _=>Nat.le_refl _) ?_ 0 (Nat.zero_le _)
 intro i hi
 rcases Nat.lt_or_ge i n with hlt | q
 · have q:=lst_le (i:=i) fun j hj=>alB_t h j (by omega)
   have z:=ii0 i
   exact ri_nrm (mR_li n i B V D hn hlt ⟨q.2,by omega⟩ (alB_t h i hlt)) (i+1) hlt (by show n-(i+1)<n-i;omega) rfl (.refl _) (.refl _)
 · obtain rfl:i=n:=Nat.le_antisymm hi q
   have h1:decide (ofNat i<ofNat i)=false:=decide_eq_false (by simp)
   exact rd_out (mE_lq i i B V D (lstB B i) h1) (by repeat' first | exact trivial | assumption | exact rfl | exact nT (by assumption) | exact nF (by assumption) | exact nnT (by assumption) | exact nnF (by assumption) | apply And.intro | decide) rfl rfl (.refl _) (.refl _)
theorem mX_lp (n:Nat) (B V:Nat->Int) (D:Nat->List Nat) (hn:n<=281474976710656) (h:alB (pU B V D) n=false):LDoes Tryz.prog (loopAt Tryz.prog 53 0) 36 0 (mkT [(0,.sv 3 n (uF B V D)),(3,.i .i64 0),(6,.sv 3 n (uF B V D)),(7,.i .i64 (ofNat n)),(8,.i .i64 0)]) [] .ret (mkT [(2,.b false)]) []:=by
 obtain ⟨j,hj,hb,hg⟩:=alB_f h
 refine loop_q (fun i:Nat=>([(0,.sv 3 n (uF B V D)),(3,.i .i64 (lstB B i)),(6,.sv 3 n (uF B V D)),(7,.i .i64 (ofNat n)),(8,.i .i64 (ofNat i))],[])) (fun i=>n-i) (fun i=>i<=j) (fun _=>Nat.le_refl _) ?_ 0 (Nat.zero_le _)
 intro i hi
 have r:=lst_le (i:=i) fun k hk=>hg k (by omega)
 have z:=ii0 i
 rcases Nat.lt_or_ge i j with q | q
 · exact ri_nrm (mR_li n i B V D hn (by omega) ⟨r.2,by omega⟩ (hg i q)) (i+1) q (by show n-(i+1)<n-i;omega) rfl (.refl _) (.refl _)
 · obtain rfl:i=j:=by omega
   exact ri_out (mX_li n i B V D hn hj ⟨r.2,by omega⟩ hb) rfl rfl (.refl _) (.refl _)
theorem mbT0_vq (n:Nat) (B V:Nat->Int) (D:Nat->List Nat):VD Tryz.prog 53 [.sv 3 n (uF B V D)] [] (.lop [] [0,3,6,7,8] 0 (.exit 0) [(0,.sv 3 n (uF B V D))] [] .z) (.b (decide (0<ofNat n))) [] [] 0 (fun Lf=>LDoes Tryz.prog (loopAt Tryz.prog 53 0) 36 0 (mkT [(0,.sv 3 n (uF B V D)),(3,.i .i64 0),(6,.sv 3 n (uF B V D)),(7,.i .i64 (ofNat n)),(8,.i .i64 0)]) [] (.exit 0) (mkT [(0,.sv 3 n (uF B V D))]) []/\Lf):=by unfold VD VQ;kernel_rfl
theorem mbT_con (n:Nat) (B V:Nat->Int) (D:Nat->List Nat) (hn:n<=281474976710656) (ha:alB (pU B V D) n=true):Con Tryz.prog 53 [.sv 3 n (uF B V D)] [] (.b (decide ((0:Int)<ofNat n))) []:=by
 exact con_d (mbT0_vq (n:=n) (B:=B) (V:=V) (D:=D)) (by repeat' first | exact trivial | assumption | exact rfl | exact nT (by assumption) | exact nF (by assumption) | exact m_lp n B V D hn ha | apply And.intro | decide)
theorem mbF0_vq (n:Nat) (B V:Nat->Int) (D:Nat->List Nat):VD Tryz.prog 53 [.sv 3 n (uF B V D)] [] (.lop [] [0,3,6,7,8] 0 .ret [(2,.b false)] [] .z) (.b false) [] [] 0 (fun Lf=>LDoes Tryz.prog (loopAt Tryz.prog 53 0) 36 0 (mkT [(0,.sv 3 n (uF B V D)),(3,.i .i64 0),(6,.sv 3 n (uF B V D)),(7,.i .i64 (ofNat n)),(8,.i .i64 0)]) [] .ret (mkT [(2,.b false)]) []/\Lf):=by unfold VD VQ;kernel_rfl
theorem mbF_con (n:Nat) (B V:Nat->Int) (D:Nat->List Nat) (hn:n<=281474976710656) (ha:alB (pU B V D) n=false):Con Tryz.prog 53 [.sv 3 n (uF B V D)] [] (.b false) []:=by
 exact con_d (mbF0_vq (n:=n) (B:=B) (V:=V) (D:=D)) (by repeat' first | exact trivial | assumption | exact rfl | exact nT (by assumption) | exact nF (by assumption) | exact mX_lp n B V D hn ha | apply And.intro | decide)
theorem mb_con (n:Nat) (B V:Nat->Int) (D:Nat->List Nat) (hn:n<=281474976710656):Con Tryz.prog 53 [.sv 3 n (uF B V D)] [] (.b (mbB n B V D)) []:=by
 unfold mbB
 cases h:alB (pU B V D) n with
 | true=>rw [Bool.true_and];exact mbT_con n B V D hn h
 | false=>rw [Bool.false_and];exact mbF_con n B V D hn h
theorem eR_lq (L1 L2:Nat) (B1 B2:Nat->Nat) (KK:Nat) (HH:Nat->Nat) (k0:Nat) (g0:Nat->Nat) (n i:Nat) (B V:Nat->Int) (D:Nat->List Nat) (h0:decide (ofNat i<ofNat n)=true):LD Tryz.prog (loopAt Tryz.prog 30 0) 37 1 [(4,.p 0 0),(14,.sv 3 n (uF B V D)),(15,.i .i64 (ofNat n)),(16,.i .i64 (ofNat i))] [some (wO k0),some (shO 2 k0),some (.rows 5 1 k0 (byF g0))] (.t (.cal [0,1,2] (.tup []) [.set (wO L1),.set (shO 3 L1),.gone,.set (AObj.rows 5 1 L1 (byF B1))] (.cal [0,1,4] (.tup []) [.set (wO L2),.set (shO 3 L2),.gone,.set (AObj.rows 5 1 L2 (byF B2))] (.cal [0,1,5] (.tup []) [.set (wO KK),.set (shO 3 KK),.gone,.set (AObj.rows 5 1 KK (byF HH))] .z)))) .nrm [0,1,6] [(4,.p 0 0),(14,.sv 3 n (uF B V D)),(15,.i .i64 (ofNat n)),(16,.i .i64 (ofNat i+1))] [some (wO KK),some (shO 2 KK),some (.rows 5 1 KK (byF HH))] 7 (fun Lf=>decide (ofNat i<ofNat n)=true/\(0<=ofNat i/\ofNat i<↑n)/\True/\True/\Con Tryz.prog 54 [.p 0 0,.i .i64 (B i)] [some (wO k0),some (shO 2 k0),some (AObj.rows 5 1 k0 (byF g0))] (.tup []) [.set (wO L1),.set (shO 3 L1),.gone,.set (AObj.rows 5 1 L1 (byF B1))]/\True/\Con Tryz.prog 54 [.p 0 0,.i .i64 (V i)] [some (wO L1),some (shO 2 L1),some (AObj.rows 5 1 L1 (byF B1))] (.tup []) [.set (wO L2),.set (shO 3 L2),.gone,.set (AObj.rows 5 1 L2 (byF B2))]/\True/\Con Tryz.prog 55 [.p 0 0,.s (D i)] [some (wO L2),some (shO 2 L2),some (AObj.rows 5 1 L2 (byF B2))] (.tup []) [.set (wO KK),.set (shO 3 KK),.gone,.set (AObj.rows 5 1 KK (byF HH))]/\rg (ofNat i+1)/\Lf):=by unfold LD LQ;kernel_rfl
theorem eE_lq (n i k:Nat) (B V:Nat->Int) (D:Nat->List Nat) (g:Nat->Nat) (h0:decide (ofNat i<ofNat n)=false):LD Tryz.prog (loopAt Tryz.prog 30 0) 37 1 [(4,.p 0 0),(14,.sv 3 n (uF B V D)),(15,.i .i64 (ofNat n)),(16,.i .i64 (ofNat i))] [some (wO k),some (shO 2 k),some (.rows 5 1 k (byF g))] (.f .z) (.exit 0) [0,1,2] [(4,.p 0 0)] [some (wO k),some (shO 2 k),some (.rows 5 1 k (byF g))] 3 (fun Lf=>decide (ofNat i<ofNat n)=false/\Lf):=by unfold LD LQ;kernel_rfl
theorem wnJ_con (bs:List Nat) (v:Int) (h0:0<=v) (h1:v<=1099511627776) (hk:bs.length<=1000000):Con Tryz.prog 54 [.p 0 0,.i .i64 v] [some (wO bs.length),some (shO 2 bs.length),some (.rows 5 1 bs.length (byF (tB bs)))] (.tup []) [.set (wO (bs ++ fN v.toNat).length),.set (shO 3 (bs ++ fN v.toNat).length),.gone,.set (.rows 5 1 (bs ++ fN v.toNat).length (byF (tB (bs ++ fN v.toNat))))]:=
 wnI_con bs v ⟨by omega,by omega⟩ (by omega)
theorem u_ok {n:Nat} {B V:Nat->Int} {D:Nat->List Nat} (h:alB (pU B V D) n=true) (hb:∀i,i<n->Byt (D i)):UOk n B V D:=by
 refine ⟨?_,fun i hi=>?_⟩
 · have q:=lst_le (i:=n) fun j hj=>alB_t h j hj
   have:ofNat n<=79:=by omega
   simp at this;omega
 · have q:=lst_le (i:=i) fun j hj=>alB_t h j (by omega)
   have z:=ii0 i
   have p:=alB_t h i hi
   unfold pU at p
   simp only [Bool.and_eq_true,Bool.not_eq_true'] at p
   have a:=wq_le p.1
   have b:=wq_le p.2.1
   have c:=of_decide_eq_false p.2.2
   simp at c
   exact ⟨⟨by omega,a.2⟩,b,by omega,hb i hi⟩
theorem e_lp (n:Nat) (B V:Nat->Int) (D:Nat->List Nat) (h:UOk n B V D):LDoes Tryz.prog (loopAt Tryz.prog 30 0) 37 1 (mkT [(4,.p 0 0),(14,.sv 3 n (uF B V D)),(15,.i .i64 (ofNat n)),(16,.i .i64 0)]) [some (wO (upL n B V D 0).length),some (shO 2 (upL n B V D 0).length),some (.rows 5 1 (upL n B V D 0).length (byF (tB (upL n B V D 0))))] (.exit 0) (mkT [(4,.p 0 0)]) [some (wO (upL n B V D n).length),some (shO 2 (upL n B V D n).length),some (.rows 5 1 (upL n B V D n).length (byF (tB (upL n B V D n))))]:=by
 have h8:=h.1
 refine loop_q (fun i:Nat=>([(4,.p 0 0),(14,.sv 3 n (uF B V D)),(15,.i .i64 (ofNat n)),(16,.i .i64 (ofNat i))],[some (wO (upL n B V D i).length),some (shO 2 (upL n B V D i).length),some (.rows 5 1 (upL n B V D i).length (byF (tB (upL n B V D i))))])) (fun i=>n-i) (fun i=>i<=n) (fun i=>by simp) ?_ 0 (Nat.zero_le _)
 intro i hi
 have hle:=upL_le h i hi
 rcases Nat.lt_or_ge i n with hlt | q
 · have h1:decide (ofNat i<ofNat n)=true:=decide_eq_true (by simp;omega)
   have bi:(0:Int)<=ofNat i/\ofNat i<(↑n:Int):=⟨by simp,by simp;omega⟩
   have ri:rg (ofNat i+1):=⟨by simp<;>omega,by simp<;>omega⟩
   obtain ⟨a,b,c,d⟩:=h.2 i hlt
   have l1:=fN_le (n:=(B i).toNat) (by omega)
   have l2:=fN_le (n:=(V i).toNat) (by omega)
   have c1:=wnJ_con (upL n B V D i) (B i) (by omega) (by omega) (by omega)
   have c2:=wnJ_con (upL n B V D i ++ fN (B i).toNat) (V i) (by omega) (by omega) (by rw [List.length_append];omega)
   have c3:=wtG_con ((upL n B V D i ++ fN (B i).toNat) ++ fN (V i).toNat) (D i) (by omega) (by rw [List.length_append,List.length_append];omega)
   exact rd_nrm (eR_lq (L1:=(upL n B V D i ++ fN (B i).toNat).length) (B1:=tB (upL n B V D i ++ fN (B i).toNat)) (L2:=((upL n B V D i ++ fN (B i).toNat) ++ fN (V i).toNat).length) (B2:=tB ((upL n B V D i ++ fN (B i).toNat) ++ fN (V i).toNat)) (KK:=(upL n B V D (i+1)).length) (HH:=tB (upL n B V D (i+1))) (k0:=(upL n B V D i).length) (g0:=tB (upL n B V D i)) n i B V D h1) ⟨h1,bi,trivial,trivial,c1,trivial,c2,trivial,c3,ri,rfl⟩ (i+1) hlt (by show n-(i+1)<n-i;omega) rfl (.refl _) (.refl _)
 · obtain rfl:i=n:=Nat.le_antisymm hi q
   have h1:decide (ofNat i<ofNat i)=false:=decide_eq_false (by simp)
   exact rd_out (eE_lq i i (upL i B V D i).length B V D (tB (upL i B V D i)) h1) ⟨h1,rfl⟩ rfl rfl (.refl _) (.refl _)
theorem enA0_vq (mb:Nat->(Nat->Int)->(Nat->Int)->(Nat->List Nat)->Bool) (n:Nat) (B V:Nat->Int) (D:Nat->List Nat) (h0:mb n B V D=false):VD Tryz.prog 30 [.sv 3 n (uF B V D)] [] (.cal [] (.b (mb n B V D)) [] (.t .z)) (.tup [.s [],.i .i64 2]) [] [] 0 (fun Lf=>Con Tryz.prog 53 [.sv 3 n (uF B V D)] [] (.b (mb n B V D)) []/\True/\(!mb n B V D)=true/\Lf):=by unfold VD VQ;kernel_rfl
theorem enA_con (n:Nat) (B V:Nat->Int) (D:Nat->List Nat) (h0:mbB n B V D=false) (hn:n<=281474976710656):Con Tryz.prog 30 [.sv 3 n (uF B V D)] [] (.tup [.s [],.i .i64 2]) []:=by
 exact con_d (enA0_vq (mb:=mbB) (n:=n) (B:=B) (V:=V) (D:=D) (h0:=h0)) (by repeat' first | exact trivial | assumption | exact rfl | exact nT (by assumption) | exact nF (by assumption) | exact mb_con _ _ _ _ hn | apply And.intro | decide)
theorem enB0_vq (L0:Nat) (B0:Nat->Nat) (KK:Nat) (HH:Nat->Nat) (LS:Nat) (BS:Nat->Nat) (mb:Nat->(Nat->Int)->(Nat->Int)->(Nat->List Nat)->Bool) (n:Nat) (B V:Nat->Int) (D:Nat->List Nat) (h0:mb n B V D=true) (h1:decide (540<ofNat LS)=true):VD Tryz.prog 30 [.sv 3 n (uF B V D)] [] (.cal [] (.b (mb n B V D)) [] (.f (.cal [0] (.tup []) [.set (wO L0),.set (shO 2 L0),.set (AObj.rows 5 1 L0 (byF B0))] (.lop [0,1,2] [4,14,15,16] 1 (.exit 0) [(4,.p 0 0)] [some (wO KK),some (shO 2 KK),some (AObj.rows 5 1 KK (byF HH))] (.cal [0,3,4] (.sv 1 KK (byF HH)) [.keep,.keep,.gone] (.cal [] (.sv 1 LS (byF BS)) [] (.t .z))))))) (.tup [.s [],.i .i64 2]) [] [] 5 (fun Lf=>Con Tryz.prog 53 [.sv 3 n (uF B V D)] [] (.b (mb n B V D)) []/\True/\(!mb n B V D)=false/\Con Tryz.prog 54 [.p 0 0,.i .i64 (ofNat n)] [some w0O] (.tup []) [.set (wO L0),.set (shO 2 L0),.set (AObj.rows 5 1 L0 (byF B0))]/\LDoes Tryz.prog (loopAt Tryz.prog 30 0) 37 1 (mkT [(4,.p 0 0),(14,.sv 3 n (uF B V D)),(15,.i .i64 (ofNat n)),(16,.i .i64 0)]) [some (wO L0),some (shO 2 L0),some (AObj.rows 5 1 L0 (byF B0))] (.exit 0) (mkT [(4,.p 0 0)]) [some (wO KK),some (shO 2 KK),some (AObj.rows 5 1 KK (byF HH))]/\Con Tryz.prog 57 [.p 0 0] [some (wO KK),some (shO 2 KK),some (AObj.rows 5 1 KK (byF HH))] (.sv 1 KK (byF HH)) [.keep,.keep,.gone]/\Con Tryz.prog 56 [.sv 1 KK (byF HH)] [] (.sv 1 LS (byF BS)) []/\decide (540<ofNat LS)=true/\Lf):=by unfold VD VQ;kernel_rfl
theorem enB_con (n:Nat) (B V:Nat->Int) (D:Nat->List Nat) (L0:Nat) (B0:Nat->Nat) (KK:Nat) (HH:Nat->Nat) (LS:Nat) (BS:Nat->Nat) (hn:n<=281474976710656) (kwn0:Con Tryz.prog 54 [.p 0 0,.i .i64 (ofNat n)] [some w0O] (.tup []) [.set (wO L0),.set (shO 2 L0),.set (.rows 5 1 L0 (byF B0))]) (kel:LDoes Tryz.prog (loopAt Tryz.prog 30 0) 37 1 (mkT [(4,.p 0 0),(14,.sv 3 n (uF B V D)),(15,.i .i64 (ofNat n)),(16,.i .i64 0)]) [some (wO L0),some (shO 2 L0),some (.rows 5 1 L0 (byF B0))] (.exit 0) (mkT [(4,.p 0 0)]) [some (wO KK),some (shO 2 KK),some (.rows 5 1 KK (byF HH))]) (kwbK:Con Tryz.prog 57 [.p 0 0] [some (wO KK),some (shO 2 KK),some (.rows 5 1 KK (byF HH))] (.sv 1 KK (byF HH)) [.keep,.keep,.gone]) (kslK:Con Tryz.prog 56 [.sv 1 KK (byF HH)] [] (.sv 1 LS (byF BS)) []) (h0:mbB n B V D=true) (h1:decide (540<ofNat LS)=true):Con Tryz.prog 30 [.sv 3 n (uF B V D)] [] (.tup [.s [],.i .i64 2]) []:=by
 exact con_d (enB0_vq (L0:=L0) (B0:=B0) (KK:=KK) (HH:=HH) (LS:=LS) (BS:=BS) (mb:=mbB) (n:=n) (B:=B) (V:=V) (D:=D) (h0:=h0) (h1:=h1)) (by repeat' first | exact trivial | assumption | exact rfl | exact nT (by assumption) | exact nF (by assumption) | exact mb_con _ _ _ _ hn | assumption | assumption | assumption | assumption | exact hu | apply And.intro | decide)
theorem enC0_vq (L0:Nat) (B0:Nat->Nat) (KK:Nat) (HH:Nat->Nat) (LS:Nat) (BS:Nat->Nat) (mb:Nat->(Nat->Int)->(Nat->Int)->(Nat->List Nat)->Bool) (n:Nat) (B V:Nat->Int) (D:Nat->List Nat) (h0:mb n B V D=true) (h1:decide (540<ofNat LS)=false):VD Tryz.prog 30 [.sv 3 n (uF B V D)] [] (.cal [] (.b (mb n B V D)) [] (.f (.cal [0] (.tup []) [.set (wO L0),.set (shO 2 L0),.set (AObj.rows 5 1 L0 (byF B0))] (.lop [0,1,2] [4,14,15,16] 1 (.exit 0) [(4,.p 0 0)] [some (wO KK),some (shO 2 KK),some (AObj.rows 5 1 KK (byF HH))] (.cal [0,3,4] (.sv 1 KK (byF HH)) [.keep,.keep,.gone] (.cal [] (.sv 1 LS (byF BS)) [] (.f .z))))))) (.tup [.s (bytesF LS (byF BS)),.i .i64 0]) [] [] 5 (fun Lf=>Con Tryz.prog 53 [.sv 3 n (uF B V D)] [] (.b (mb n B V D)) []/\True/\(!mb n B V D)=false/\Con Tryz.prog 54 [.p 0 0,.i .i64 (ofNat n)] [some w0O] (.tup []) [.set (wO L0),.set (shO 2 L0),.set (AObj.rows 5 1 L0 (byF B0))]/\LDoes Tryz.prog (loopAt Tryz.prog 30 0) 37 1 (mkT [(4,.p 0 0),(14,.sv 3 n (uF B V D)),(15,.i .i64 (ofNat n)),(16,.i .i64 0)]) [some (wO L0),some (shO 2 L0),some (AObj.rows 5 1 L0 (byF B0))] (.exit 0) (mkT [(4,.p 0 0)]) [some (wO KK),some (shO 2 KK),some (AObj.rows 5 1 KK (byF HH))]/\Con Tryz.prog 57 [.p 0 0] [some (wO KK),some (shO 2 KK),some (AObj.rows 5 1 KK (byF HH))] (.sv 1 KK (byF HH)) [.keep,.keep,.gone]/\Con Tryz.prog 56 [.sv 1 KK (byF HH)] [] (.sv 1 LS (byF BS)) []/\decide (540<ofNat LS)=false/\U8s LS (byF BS)/\Lf):=by unfold VD VQ;kernel_rfl
theorem enC_con (n:Nat) (B V:Nat->Int) (D:Nat->List Nat) (L0:Nat) (B0:Nat->Nat) (KK:Nat) (HH:Nat->Nat) (LS:Nat) (BS:Nat->Nat) (hn:n<=281474976710656) (kwn0:Con Tryz.prog 54 [.p 0 0,.i .i64 (ofNat n)] [some w0O] (.tup []) [.set (wO L0),.set (shO 2 L0),.set (.rows 5 1 L0 (byF B0))]) (kel:LDoes Tryz.prog (loopAt Tryz.prog 30 0) 37 1 (mkT [(4,.p 0 0),(14,.sv 3 n (uF B V D)),(15,.i .i64 (ofNat n)),(16,.i .i64 0)]) [some (wO L0),some (shO 2 L0),some (.rows 5 1 L0 (byF B0))] (.exit 0) (mkT [(4,.p 0 0)]) [some (wO KK),some (shO 2 KK),some (.rows 5 1 KK (byF HH))]) (kwbK:Con Tryz.prog 57 [.p 0 0] [some (wO KK),some (shO 2 KK),some (.rows 5 1 KK (byF HH))] (.sv 1 KK (byF HH)) [.keep,.keep,.gone]) (kslK:Con Tryz.prog 56 [.sv 1 KK (byF HH)] [] (.sv 1 LS (byF BS)) []) (h0:mbB n B V D=true) (h1:decide (540<ofNat LS)=false) (hu:U8s LS (byF BS)):Con Tryz.prog 30 [.sv 3 n (uF B V D)] [] (.tup [.s (bytesF LS (byF BS)),.i .i64 0]) []:=by
 exact con_d (enC0_vq (L0:=L0) (B0:=B0) (KK:=KK) (HH:=HH) (LS:=LS) (BS:=BS) (mb:=mbB) (n:=n) (B:=B) (V:=V) (D:=D) (h0:=h0) (h1:=h1)) (by repeat' first | exact trivial | assumption | exact rfl | exact nT (by assumption) | exact nF (by assumption) | exact mb_con _ _ _ _ hn | assumption | assumption | assumption | assumption | exact hu | apply And.intro | decide)
end Go.Proofs.Ly
